import PyProof.Rows.All
import Wide.All
import OpenK.AllK
import Wide.FinOn
import PySem.Challenge.RW_waysranked_k20_walks_counted
import HandS.ForMost
import HandS.ForExc
import HandS.IsInst
import HandS.ExcIs
import HandS.Lambda
import HandS.HotCalls
import HandS.Zip
import HandS.Strs
import HandS.Flow
import HandS.Style
import HandS.TupAny
import HandS.TupLe
import HandS.Defaults
import PyProof.ReprRoads
import PyProof.Rows.Digits
import PyProof.ReprNest
import HandS.Codes
import KE.KNestM
set_option Elab.async false
set_option linter.all false
set_option maxRecDepth 100000
namespace Wy
open PySem PySem.Spec PyProof.Rows L2
def topS (i : Nat) : Stmt := PySem.Challenge.pw_waysranked_k20_walks_counted.main.body.getD i (.Pass ⟨0, 0, 0, 0⟩)
abbrev sWhole : Stmt := topS 7
abbrev sWithin : Stmt := topS 8
abbrev sTupOf : Stmt := topS 16
abbrev sCell : Stmt := topS 29
abbrev sState : Stmt := topS 30
abbrev sTake : Stmt := topS 31
/-- a def of the text, where it stands, how its arguments bind -/
structure Df (K : PySem.W.Frag) (mg : Str → Option Value) (x : Str) (st : Stmt) (ps : List Str) (f : Addr) (fd : FuncData) : Prop where
  F : Fun K x x st f fd
  b : Binds K fd ps []
  g : mg x = some (.ref f)
/-- all but the state's list stays -/
def Keep (z : Addr) (H H' : Hp) : Prop := ∀ b o, H b = some o → b ≠ z → H' b = some o
def StOk (H : Hp) (z : Addr) : Prop := ∃ x y : Int, H z = some (.lst [.int x, .int y]) ∧ 0 ≤ x ∧ 0 ≤ y ∧ y < 2147483647
theorem Keep.refl (z : Addr) (H : Hp) : Keep z H H := fun _ _ h _ => h
theorem Keep.trans {z : Addr} {H H1 H2 : Hp} (a : Keep z H H1) (b : Keep z H1 H2) : Keep z H H2 := fun c o h n => b c o (a c o h n) n
theorem Keep.self {z : Addr} {H : Hp} {o : HO} : Keep z H (upd H z o) := fun b u h n => by rw [upd_ne n]; exact h
theorem Keep.new {z p : Addr} {H : Hp} {o : HO} (h : H p = none) : Keep z H (upd H p o) := fun b u e _ => by rw [upd_ne (ne_of_none e h)]; exact e
theorem Keep.of {z : Addr} {H H' : Hp} (h : Same H H') : Keep z H H' := fun b o e _ => h b o e
theorem same_new {H : Hp} {p : Addr} {o : HO} (h : H p = none) : Same H (upd H p o) := fun b x e => by
  rw [upd_ne (ne_of_none e h)]
  exact e
theorem StOk.same {H H' : Hp} {z : Addr} (s : StOk H z) (h : Same H H') : StOk H' z := let ⟨x, y, e, r⟩ := s; ⟨x, y, h _ _ e, r⟩
theorem StOk.ne {H : Hp} {z p : Addr} (s : StOk H z) (h : H p = none) : z ≠ p := let ⟨_, _, e, _⟩ := s; ne_of_none e h
/-- a thing of whatever kind, by its class -/
inductive Tg (H : Hp) : V → String → Prop where
  | non : Tg H .non "NoneType"
  | bl (b : Bool) : Tg H (.bl b) "bool"
  | int (i : Int) : Tg H (.int i) "int"
  | str (x : Str) : Tg H (.str x) "str"
  | lst {a : Addr} {xs : List V} : H a = some (.lst xs) → Tg H (.ref a) "list"
  | tup {a : Addr} {xs : List V} : H a = some (.tup xs) → Tg H (.ref a) "tuple"
  | dct {a : Addr} {xs : List (Key × V)} : H a = some (.dK xs) → Tg H (.ref a) "dict"
theorem Tg.tyx {K : PySem.W.Frag} {H : Hp} {v : V} {n : String} (t : Tg H v n) : TyX K H v (.type n) := by
  cases t with
  | non => exact .base .non
  | bl b => exact .base (.bl b)
  | int i => exact .base (.int i)
  | str x => exact .base (.str x)
  | lst e => exact .base (.lst e)
  | tup e => exact .base (.tup e)
  | dct e => exact .base (.dK e)
theorem Tg.keep {H H' : Hp} {v : V} {n : String} (t : Tg H v n) (h : Same H H') : Tg H' v n := by
  cases t with
  | non => exact .non
  | bl b => exact .bl b
  | int i => exact .int i
  | str x => exact .str x
  | lst e => exact .lst (h _ _ e)
  | tup e => exact .tup (h _ _ e)
  | dct e => exact .dct (h _ _ e)
def kInt (n : String) : Bool := n == "int" || n == "bool"
theorem isi_int {K : PySem.W.Frag} {H : Hp} {v : V} {n : String} (t : Tg H v n) : PySem.W.kitOne K (.type n) (.type "int") = some (kInt n) := by
  cases t <;> exact kit_ty (by decide +kernel)
theorem isi_bool {K : PySem.W.Frag} {H : Hp} {v : V} {n : String} (t : Tg H v n) : PySem.W.kitOne K (.type n) (.type "bool") = some (n == "bool") := by
  cases t <;> exact kit_ty (by decide +kernel)
theorem isi_tuple {K : PySem.W.Frag} {H : Hp} {v : V} {n : String} (t : Tg H v n) : PySem.W.kitOne K (.type n) (.type "tuple") = some (n == "tuple") := by
  cases t <;> exact kit_ty (by decide +kernel)
/-- a whole number from lo to hi -/
def isIn (v : V) (lo hi : Int) : Bool := match v with
  | .int i => decide (lo ≤ i) && decide (i ≤ hi)
  | _ => false
section
variable {P : Program} {w : World} {K : PySem.W.Frag} {mg : Str → Option Value} {base : Heap}
theorem scTake : FnScope ["_law_state_here", "_law_far", "_law_found", "_law_stirred"] ["_law_state_here", "_law_far"] (defScope sTake) := ⟨rfl, rfl, rfl, by decide +kernel, rfl, by decide +kernel, by decide +kernel⟩
def spTake : Sp := fun vs H Q _ => ∃ (z : Addr) (m : Int), vs = [.ref z, .int m] ∧ StOk H z ∧ 0 < m ∧ m < 1073741824 ∧
  ∀ H' n, Keep z H H' → StOk H' z → 0 ≤ n → n < m → Q (.int n) H'
theorem ok_take {f : Addr} {fd : FuncData} {k : Nat} (D : Df K mg "_law_take" sTake ["_law_state_here", "_law_far"] f fd) : FnOk P w K mg base CX0 (k + 1) f fd ["_law_state_here", "_law_far"] spTake := by
  refine D.F.ok scTake (fun vs H Q E h => ?_) (fun cdv A outer s H vs Q E hr h => ?_)
  · obtain ⟨_, _, rfl, _⟩ := h
    rfl
  · obtain ⟨z, m, rfl, ⟨x, y, e, hx, hy, hy2⟩, hm, hm2, q⟩ := h
    refine ⟨_, pss_cons (ps_if (pt_cmpR op_gt (pe_ix ix_list (pv 0) pe_int (fun _ _ => rfl)) pe_int (nomark _))
        (pss_cons (ps_set (i := 2) scTake.nd rfl (.inl rfl) (pe_op op_mod (pe_ix ix_list (pv 0) pe_int (fun _ _ => rfl)) (pv 1)))
        (pss_cons (ps_asg (pe_op op_fdiv (pe_ix ix_list (pv 0) pe_int (fun _ _ => rfl)) (pv 1)) (pg_sub (pv 0) pe_int set_list))
        (pss_one (ps_ret (pv 2))))) pss_nil)
      (pss_cons (ps_asg (pe_op op_mod (pe_op op_add (pe_op op_mul (pe_ix ix_list (pv 0) pe_int (fun _ _ => rfl)) pe_int) pe_int) pe_int) (pg_sub (pv 0) pe_int set_list))
      (pss_cons (ps_set (i := 3) scTake.nd rfl (.inl rfl) (pe_op op_mod (pe_op op_add (pe_op op_add (pe_op op_mul (pe_ix ix_list (pv 0) pe_int (fun _ _ => rfl)) (pe_ix ix_list (pv 0) pe_int (fun _ _ => rfl))) (pe_op op_mul pe_int (pe_ix ix_list (pv 0) pe_int (fun _ _ => rfl)))) pe_int) pe_int))
      (pss_cons (ps_set (i := 3) scTake.nd rfl (.inl rfl) (pe_op op_mod (pe_op op_add (pe_op op_mul (pv 3) (pv 3)) (pe_op op_mul pe_int (pv 3))) pe_int))
      (pss_one (ps_ret (pe_op op_mod (pe_op op_fdiv (pv 3) pe_int) (pv 1))))))), ?_⟩
    refine ⟨.ref z, rfl, z, _, 0, _, rfl, rfl, SqL.of e, rfl, x, 0, rfl, rfl, _, rfl, ite2 (fun c => ?_) (fun c => ?_)⟩
    · refine ⟨.ref z, rfl, z, _, 0, _, rfl, rfl, SqL.of e, rfl, .int m, rfl, x, m, rfl, rfl, hm, ?_⟩
      refine ⟨.ref z, rfl, z, _, 0, _, rfl, rfl, SqL.of e, rfl, .int m, rfl, x, m, rfl, rfl, ⟨hm, hm2⟩, ?_⟩
      refine ⟨.ref z, rfl, z, _, 0, 0, rfl, rfl, e, rfl, ?_⟩
      refine ⟨.int (x % m), rfl, q _ _ .self ⟨x / m, y, upd_same, Int.ediv_nonneg hx (Int.le_of_lt hm), hy, hy2⟩ (Int.emod_nonneg _ (by omega)) (Int.emod_lt_of_pos _ hm)⟩
    · have b1 := Int.emod_nonneg (y * 48271 + 29) (show (2147483647 : Int) ≠ 0 by decide)
      have b2 := Int.emod_lt_of_pos (y * 48271 + 29) (show (0 : Int) < 2147483647 by decide)
      refine ⟨.ref z, rfl, z, _, 1, _, rfl, rfl, SqL.of e, rfl, y, 48271, rfl, rfl, .inr ⟨by decide, by decide⟩, _, _, rfl, rfl, _, 2147483647, rfl, rfl, (by show (0 : Int) < 2147483647; decide), ?_⟩
      refine ⟨.ref z, rfl, z, _, 1, 1, rfl, rfl, e, rfl, ?_⟩
      have e2 : (upd H z (.lst [.int x, .int ((y * 48271 + 29) % 2147483647)])) z = some (.lst [.int x, .int ((y * 48271 + 29) % 2147483647)]) := upd_same
      obtain ⟨y2, ey⟩ : ∃ y2, y2 = (y * 48271 + 29) % 2147483647 := ⟨_, rfl⟩
      rw [← ey] at b1 b2 e2
      show (fun H0 : Hp => _) (upd H z (.lst [.int x, .int ((y * 48271 + 29) % 2147483647)]))
      rw [← ey]
      refine ⟨.ref z, rfl, z, _, 1, _, rfl, rfl, SqL.of e2, rfl, .ref z, rfl, z, _, 1, _, rfl, rfl, SqL.of e2, rfl, y2, y2, rfl, rfl, .inl ⟨by omega, by omega⟩, .ref z, rfl, z, _, 1, _, rfl, rfl, SqL.of e2, rfl, 39373, y2, rfl, rfl, .inl ⟨by decide, by decide⟩, _, _, rfl, rfl, _, 7, rfl, rfl, _, 2147483629, rfl, rfl, (by show (0 : Int) < 2147483629; decide), ?_⟩
      have c1 := Int.emod_nonneg (y2 * y2 + 39373 * y2 + 7) (show (2147483629 : Int) ≠ 0 by decide)
      have c2 := Int.emod_lt_of_pos (y2 * y2 + 39373 * y2 + 7) (show (0 : Int) < 2147483629 by decide)
      have d1 : -(2 : Int) ^ 64 < (y2 * y2 + 39373 * y2 + 7) % 2147483629 := Int.lt_of_lt_of_le (by decide) c1
      have d2 : (y2 * y2 + 39373 * y2 + 7) % 2147483629 < (2 : Int) ^ 64 := Int.lt_trans c2 (by decide)
      refine ⟨_, rfl, _, rfl, _, _, rfl, rfl, .inl ⟨d1, d2⟩, _, rfl, 16807, _, rfl, rfl, .inl ⟨by decide, by decide⟩, _, _, rfl, rfl, _, 2147483587, rfl, rfl, (by show (0 : Int) < 2147483587; decide), ?_⟩
      refine ⟨_, rfl, _, 8, rfl, rfl, ⟨by decide, by decide⟩, .int m, rfl, _, m, rfl, rfl, hm, ?_⟩
      exact q _ _ .self ⟨x, y2, e2, hx, b1, b2⟩ (Int.emod_nonneg _ (by omega)) (Int.emod_lt_of_pos _ hm)
theorem scCell : FnScope ["_law_script", "_law_k"] ["_law_script", "_law_k"] (defScope sCell) := ⟨rfl, rfl, rfl, by decide +kernel, rfl, by decide +kernel, by decide +kernel⟩
def spCell (K : PySem.W.Frag) : Sp := fun vs H Q _ => ∃ (a : Addr) (ns : List Int) (i : Nat), vs = [.ref a, .int (i : Int)] ∧ SqL K H a (ns.map V.int) ∧ ∀ n, Q (.int n) H
theorem ok_cell {f : Addr} {fd : FuncData} {k : Nat} (D : Df K mg "_law_cell_at" sCell ["_law_script", "_law_k"] f fd) (ml : mg "len" = none) : FnOk P w K mg base CX0 (k + 1) f fd ["_law_script", "_law_k"] (spCell K) := by
  refine D.F.ok scCell (fun vs H Q E h => ?_) (fun cdv A outer s H vs Q E hr h => ?_)
  · obtain ⟨_, _, _, rfl, _⟩ := h
    rfl
  · obtain ⟨a, ns, i, rfl, hS, q⟩ := h
    refine ⟨_, pss_cons (ps_if (pt_cmpR op_lt (pv 1) (pe_callB call_len_seq (by rfl) ml PySem.boot_len (pa_cons (pv 0) pa_nil)) (nomark _))
        (pss_one (ps_ret (pe_ix ix_list (pv 0) (pv 1) (fun _ _ => rfl)))) pss_nil) (pss_one (ps_ret pe_int)), ?_⟩
    refine ⟨.int i, rfl, .ref a, rfl, a, _, rfl, .inl hS, _, _, rfl, rfl, _, rfl, ite2 (fun c => ?_) (fun c => ?_)⟩
    · have c' : (i : Int) < ((ns.map V.int).length : Int) := of_decide_eq_true c
      rw [List.length_map] at c'
      have hi : i < ns.length := by omega
      refine ⟨.ref a, rfl, .int i, rfl, a, _, i, .int ns[i], rfl, rfl, hS, atI_nat ?_, q _⟩
      rw [List.getElem?_map, List.getElem?_eq_getElem hi]
      rfl
    · exact q _
theorem scState : FnScope ["_law_script", "_law_k", "_law_cell"] ["_law_script", "_law_k"] (defScope sState) := ⟨rfl, rfl, rfl, by decide +kernel, rfl, by decide +kernel, by decide +kernel⟩
def spState (K : PySem.W.Frag) : Sp := fun vs H Q _ => ∃ (a : Addr) (ns : List Int) (i : Nat), vs = [.ref a, .int (i : Int)] ∧ SqL K H a (ns.map V.int) ∧ ∀ H' z, Same H H' → H z = none → StOk H' z → Q (.ref z) H'
theorem ok_state {f fC : Addr} {fd fdC : FuncData} {k : Nat} (D : Df K mg "_law_state" sState ["_law_script", "_law_k"] f fd) (DC : Df K mg "_law_cell_at" sCell ["_law_script", "_law_k"] fC fdC) (ml : mg "len" = none) (mm : mg "max" = none) : FnOk P w K mg base CX0 (k + 2) f fd ["_law_script", "_law_k"] (spState K) := by
  have G : FnOk P w K mg base CX0 (k + 1) fC fdC ["_law_script", "_law_k"] (spCell K) := ok_cell DC ml
  refine D.F.ok scState (fun vs H Q E h => ?_) (fun cdv A outer s H vs Q E hr h => ?_)
  · obtain ⟨_, _, _, rfl, _⟩ := h
    rfl
  · obtain ⟨a, ns, i, rfl, hS, q⟩ := h
    refine ⟨_, pss_cons (ps_set (i := 2) scState.nd rfl (.inl rfl) (pe_call G hr (by rfl) DC.g DC.F.kp DC.b .nil pass0 (pa_cons (pv 0) (pa_cons (pv 1) pa_nil))))
      (pss_one (ps_ret (pe_lst (pa_cons (pe_callB (call_max2 rfl) (by rfl) mm (by decide +kernel) (pa_cons pe_int (pa_cons (pe_op op_sub (pv 2) (pe_op op_pow pe_int pe_int)) pa_nil)))
        (pa_cons (pe_op op_mod (pv 2) pe_int) pa_nil))))), ?_⟩
    refine ⟨.ref a, rfl, .int i, rfl, a, ns, i, rfl, hS, fun n => ?_⟩
    refine ⟨.int n, rfl, 10, 18, rfl, rfl, ⟨by decide, by decide, by decide⟩, n, _, rfl, rfl, 0, _, rfl, .int n, rfl, n, 2147483647, rfl, rfl, (by show (0 : Int) < 2147483647; decide), by show 2 ≤ sizeLine; decide, fun z hz => ?_⟩
    refine q _ z (same_new hz) hz ⟨_, _, upd_same, ?_, Int.emod_nonneg _ (by decide), Int.emod_lt_of_pos _ (by decide)⟩
    split <;> omega
end
end Wy

namespace Wy
open PySem PySem.Spec PyProof.Rows L2
abbrev sNetQ : Stmt := topS 15
abbrev sRoadQ : Stmt := topS 17
abbrev sChkN : Stmt := topS 18
abbrev sChkP : Stmt := topS 19
/-! ### nets -/
structure Road where
  one : Int
  other : Int
  cost : Int
  time : Int
def Road.vs (q : Road) : List V := [.int q.one, .int q.other, .int q.cost, .int q.time]
structure RoadOk (p : Int) (q : Road) : Prop where
  o1 : 0 ≤ q.one
  o2 : q.one ≤ p - 1
  t1 : 0 ≤ q.other
  t2 : q.other ≤ p - 1
  ne : q.one ≠ q.other
  c1 : 1 ≤ q.cost
  c2 : q.cost ≤ 99
  m1 : 0 ≤ q.time
  m2 : q.time ≤ 99
structure NetOk (p : Int) (rs : List Road) : Prop where
  p1 : 1 ≤ p
  p2 : p ≤ 10
  len : rs.length ≤ 30
  all : ∀ q ∈ rs, RoadOk p q
/-- the tuples at ts are the roads rs -/
def RoadsAt (H : Hp) : List Addr → List Road → Prop := Paired fun t q => H t = some (.tup q.vs)
def NetAt (H : Hp) (a r : Addr) (ts : List Addr) (p : Int) (rs : List Road) : Prop := H a = some (.tup [.int p, .ref r]) ∧ H r = some (.tup (ts.map V.ref)) ∧ RoadsAt H ts rs
theorem RoadsAt.keep {H H' : Hp} {ts : List Addr} {rs : List Road} (h : RoadsAt H ts rs) (k : ∀ b xs, H b = some (.tup xs) → H' b = some (.tup xs)) : RoadsAt H' ts rs := Paired.mapP h fun _ _ e => k _ _ e
theorem NetAt.keep {H H' : Hp} {a r : Addr} {ts : List Addr} {p : Int} {rs : List Road} (h : NetAt H a r ts p rs) (k : ∀ b xs, H b = some (.tup xs) → H' b = some (.tup xs)) : NetAt H' a r ts p rs := ⟨k _ _ h.1, k _ _ h.2.1, h.2.2.keep k⟩
theorem RoadsAt.len {H : Hp} {ts : List Addr} {rs : List Road} (h : RoadsAt H ts rs) : ts.length = rs.length := Paired.length h
theorem RoadsAt.get {H : Hp} : ∀ {ts : List Addr} {rs : List Road} {i : Nat} {t : Addr}, RoadsAt H ts rs → ts[i]? = some t → ∃ q, rs[i]? = some q ∧ H t = some (.tup q.vs)
  | _, _, _, _, .nil, e => by simp at e
  | _, _, 0, _, .cons r _, e => by
    simp at e
    subst e
    exact ⟨_, rfl, r⟩
  | _, _, i + 1, t, .cons _ s, e => by
    obtain ⟨q, h1, h2⟩ := RoadsAt.get (i := i) (t := t) s (by simpa using e)
    exact ⟨q, by simpa using h1, h2⟩
/-! ### ways -/
def step (rs : List Road) (here : Int) (v : V) : Option Road := match v with
  | .int i => if 0 ≤ i ∧ i ≤ (rs.length : Int) - 1 then (match rs[i.toNat]? with
    | some q => if q.one = here then some q else none
    | none => none) else none
  | _ => none
def goes (rs : List Road) : Int → List V → Option (List Road)
  | _, [] => some []
  | here, v :: r => match step rs here v with
    | none => none
    | some q => (goes rs q.other r).map (q :: ·)
def lastOf (here : Int) (qs : List Road) : Int := ((here :: qs.map Road.other).getLast?).getD here
def metOf (here : Int) (qs : List Road) : List Int := here :: qs.map Road.other
theorem lastOf_cons (here : Int) (q : Road) (qs : List Road) : lastOf here (q :: qs) = lastOf q.other qs := by
  unfold lastOf
  rw [List.map_cons, List.getLast?_cons_cons]
  cases e : (q.other :: qs.map Road.other).getLast? with
  | none => simp at e
  | some z => rfl
theorem lastOf_snoc (here : Int) (qs : List Road) (q : Road) : lastOf here (qs ++ [q]) = q.other := by
  unfold lastOf
  rw [List.map_append, List.map_singleton, ← List.cons_append, List.getLast?_append]
  rfl
theorem goes_snoc (rs : List Road) : ∀ (xs : List V) (here : Int) (v : V), goes rs here (xs ++ [v]) = (goes rs here xs).bind fun qs => (step rs (lastOf here qs) v).map fun q => qs ++ [q]
  | [], here, v => by
    show (match step rs here v with | none => none | some q => (some []).map (q :: ·)) = (step rs (lastOf here []) v).map fun q => [] ++ [q]
    show _ = (step rs here v).map fun q => [q]
    cases step rs here v <;> rfl
  | x :: r, here, v => by
    show (match step rs here x with | none => none | some q => (goes rs q.other (r ++ [v])).map (q :: ·)) = (match step rs here x with | none => none | some q => (goes rs q.other r).map (q :: ·)).bind _
    cases e : step rs here x with
    | none => rfl
    | some q =>
      show (goes rs q.other (r ++ [v])).map (q :: ·) = ((goes rs q.other r).map (q :: ·)).bind _
      rw [goes_snoc rs r q.other v]
      cases e2 : goes rs q.other r with
      | none => rfl
      | some qs =>
        show ((step rs (lastOf q.other qs) v).map fun q => qs ++ [q]).map (q :: ·) = (step rs (lastOf here (q :: qs)) v).map fun z => (q :: qs) ++ [z]
        rw [lastOf_cons]
        cases step rs (lastOf q.other qs) v <;> rfl
theorem goes_none (rs : List Road) : ∀ (ys xs : List V) (here : Int), goes rs here xs = none → goes rs here (xs ++ ys) = none
  | ys, [], here, h => by
    have h : some [] = (none : Option (List Road)) := h
    cases h
  | ys, x :: r, here, h => by
    show (match step rs here x with | none => none | some q => (goes rs q.other (r ++ ys)).map (q :: ·)) = none
    have h : (match step rs here x with | none => none | some q => (goes rs q.other r).map (q :: ·)) = none := h
    cases e : step rs here x with
    | none => rfl
    | some q =>
      rw [e] at h
      have h2 : goes rs q.other r = none := by
        cases e2 : goes rs q.other r with
        | none => rfl
        | some z =>
          have h3 : (goes rs q.other r).map (q :: ·) = none := h
          rw [e2] at h3
          cases h3
      show (goes rs q.other (r ++ ys)).map (q :: ·) = none
      rw [goes_none rs ys r q.other h2]
      rfl
theorem goes_stop (rs : List Road) {xs : List V} {here : Int} {i : Nat} {v : V} {qs : List Road} (hi : xs[i]? = some v) (h : goes rs here (xs.take i) = some qs) (hs : step rs (lastOf here qs) v = none) : goes rs here xs = none := by
  have e : goes rs here (xs.take (i + 1)) = none := by
    rw [List.take_add_one, hi]
    show goes rs here (xs.take i ++ [v]) = none
    rw [goes_snoc, h]
    show (step rs (lastOf here qs) v).map _ = none
    rw [hs]
    rfl
  have := goes_none rs (xs.drop (i + 1)) _ here e
  rwa [List.take_append_drop] at this
theorem goes_go (rs : List Road) {xs : List V} {here : Int} {i : Nat} {v : V} {qs : List Road} {q : Road} (hi : xs[i]? = some v) (h : goes rs here (xs.take i) = some qs) (hs : step rs (lastOf here qs) v = some q) : goes rs here (xs.take (i + 1)) = some (qs ++ [q]) := by
  rw [List.take_add_one, hi]
  show goes rs here (xs.take i ++ [v]) = _
  rw [goes_snoc, h]
  show (step rs (lastOf here qs) v).map _ = _
  rw [hs]
  rfl
theorem goes_len (rs : List Road) : ∀ {xs : List V} {here : Int} {qs : List Road}, goes rs here xs = some qs → qs.length = xs.length
  | [], _, _, h => by
    have h := Option.some.inj h
    subst h
    rfl
  | x :: r, here, qs, h => by
    have h : (match step rs here x with | none => none | some q => (goes rs q.other r).map (q :: ·)) = some qs := h
    cases e : step rs here x with
    | none =>
      rw [e] at h
      cases h
    | some q =>
      rw [e] at h
      obtain ⟨z, e1, e2⟩ := Option.map_eq_some_iff.mp h
      subst e2
      rw [List.length_cons, List.length_cons, goes_len rs e1]
/-- the roads of a way, by its numbers -/
theorem goes_at (rs : List Road) : ∀ {xs : List V} {here : Int} {qs : List Road} {i : Nat} {v : V}, goes rs here xs = some qs → xs[i]? = some v → ∃ (n : Nat) (q : Road), v = .int (n : Int) ∧ rs[n]? = some q ∧ qs[i]? = some q
  | [], _, _, _, _, _, e => by simp at e
  | x :: r, here, qs, i, v, h, e => by
    have h : (match step rs here x with | none => none | some q => (goes rs q.other r).map (q :: ·)) = some qs := h
    cases e1 : step rs here x with
    | none =>
      rw [e1] at h
      cases h
    | some q =>
      rw [e1] at h
      obtain ⟨z, e2, e3⟩ := Option.map_eq_some_iff.mp h
      subst e3
      cases i with
      | zero =>
        simp at e
        subst e
        unfold step at e1
        split at e1
        · rename_i k
          split at e1
          · rename_i hk
            split at e1
            · rename_i q' eq
              split at e1
              · cases e1
                exact ⟨k.toNat, q, by rw [Int.toNat_of_nonneg hk.1], eq, rfl⟩
              · cases e1
            · cases e1
          · cases e1
        · cases e1
      | succ i => exact goes_at rs (i := i) e2 (by simpa using e)
theorem step_int (rs : List Road) {here : Int} {n : Nat} {q : Road} (h : rs[n]? = some q) : step rs here (.int (n : Int)) = if q.one = here then some q else none := by
  have hn : n < rs.length := (List.getElem?_eq_some_iff.mp h).1
  unfold step
  dsimp only
  rw [if_pos (by omega), Int.toNat_natCast, h]
theorem step_out (rs : List Road) {here : Int} {v : V} (h : isIn v 0 ((rs.length : Int) - 1) = false) : step rs here v = none := by
  unfold step
  split
  · rename_i i
    have h : (decide (0 ≤ i) && decide (i ≤ (rs.length : Int) - 1)) = false := h
    rw [if_neg]
    rintro ⟨a, b⟩
    rw [decide_eq_true a, decide_eq_true b] at h
    cases h
  · rfl
theorem isIn_true {v : V} {lo hi : Int} (h : isIn v lo hi = true) : ∃ i, v = .int i ∧ lo ≤ i ∧ i ≤ hi := by
  unfold isIn at h
  split at h
  · rename_i i
    rw [Bool.and_eq_true, decide_eq_true_eq, decide_eq_true_eq] at h
    exact ⟨i, rfl, h.1, h.2⟩
  · cases h
section
variable {P : Program} {w : World} {K : PySem.W.Frag} {mg : Str → Option Value} {base : Heap}
theorem scWhole : FnScope ["thing"] ["thing"] (defScope sWhole) := ⟨rfl, rfl, rfl, by decide +kernel, rfl, by decide +kernel, by decide +kernel⟩
def isInt : V → Bool
  | .int _ => true
  | _ => false
def spWhole : Sp := fun vs H Q _ => ∃ (v : V) (n : String), vs = [v] ∧ Tg H v n ∧ Q (.bl (isInt v)) H
theorem ok_whole {f : Addr} {fd : FuncData} {k : Nat} (D : Df K mg "is_whole" sWhole ["thing"] f fd) (mi : mg "isinstance" = none) (mI : mg "int" = none) (mB : mg "bool" = none) : FnOk P w K mg base CX0 (k + 1) f fd ["thing"] spWhole := by
  refine D.F.ok scWhole (fun vs H Q E h => ?_) (fun cdv A outer s H vs Q E hr h => ?_)
  · obtain ⟨_, _, rfl, _⟩ := h
    rfl
  · obtain ⟨v, n, rfl, t, q⟩ := h
    refine ⟨_, pss_one (ps_ret (pe_and (pe_callB call_isi (by rfl) mi (by decide +kernel) (pa_cons (pv 0) (pa_cons (pe_bltn (v := .ty "int") (by rfl) mI (by decide +kernel) rfl) pa_nil)))
      (pe_one (pe_not (pe_callB call_isi (by rfl) mi (by decide +kernel) (pa_cons (pv 0) (pa_cons (pe_bltn (v := .ty "bool") (by rfl) mB (by decide +kernel) rfl) pa_nil))))))), ?_⟩
    refine ⟨v, rfl, v, .ty "int", .type n, .type "int", kInt n, rfl, .ty _, t.tyx, isi_int t, _, rfl, ?_⟩
    cases t with
    | int i => exact iteT ⟨_, rfl, .int i, .ty "bool", .type "int", .type "bool", false, rfl, .ty _, .base (.int i), isi_bool (.int (H := H) i), _, rfl, q⟩
    | bl b => exact iteT ⟨_, rfl, .bl b, .ty "bool", .type "bool", .type "bool", true, rfl, .ty _, .base (.bl b), isi_bool (.bl (H := H) b), _, rfl, q⟩
    | non => exact iteF q
    | str x => exact iteF q
    | lst e => exact iteF q
    | tup e => exact iteF q
    | dct e => exact iteF q
theorem scWithin : FnScope ["thing", "low", "high"] ["thing", "low", "high"] (defScope sWithin) := ⟨rfl, rfl, rfl, by decide +kernel, rfl, by decide +kernel, by decide +kernel⟩
/-- the defs of the two small modules -/
structure Sm (K : PySem.W.Frag) (mg : Str → Option Value) (f1 f2 f3 f4 f5 : Addr) (d1 d2 d3 d4 d5 : FuncData) : Prop where
  mi : mg "isinstance" = none
  mI : mg "int" = none
  mB : mg "bool" = none
  mT : mg "tuple" = none
  ml : mg "len" = none
  mA : mg "all" = none
  mS : mg "sum" = none
  mE : mg "set" = none
  c1 : ∃ t, mg "MOST_PLACES" = some (.int 10 t)
  c2 : ∃ t, mg "MOST_ROADS" = some (.int 30 t)
  c3 : ∃ t, mg "LEAST_COST" = some (.int 1 t)
  c4 : ∃ t, mg "MOST_COST" = some (.int 99 t)
  c5 : ∃ t, mg "MOST_TIME" = some (.int 99 t)
  whole : Df K mg "is_whole" sWhole ["thing"] f1 d1
  within : Df K mg "is_within" sWithin ["thing", "low", "high"] f2 d2
  tupOf : Df K mg "is_tuple_of" sTupOf ["thing", "many"] f3 d3
  roadQ : Df K mg "is_road_among" sRoadQ ["places", "thing"] f4 d4
  netQ : Df K mg "is_net" sNetQ ["thing"] f5 d5
variable {f1 f2 f3 f4 f5 : Addr} {d1 d2 d3 d4 d5 : FuncData}
def spWithin : Sp := fun vs H Q _ => ∃ (v : V) (n : String) (lo hi : Int), vs = [v, .int lo, .int hi] ∧ Tg H v n ∧ Q (.bl (isIn v lo hi)) H
theorem ok_within {k : Nat} (S : Sm K mg f1 f2 f3 f4 f5 d1 d2 d3 d4 d5) : FnOk P w K mg base CX0 (k + 2) f2 d2 ["thing", "low", "high"] spWithin := by
  have G : FnOk P w K mg base CX0 (k + 1) f1 d1 ["thing"] spWhole := ok_whole S.whole S.mi S.mI S.mB
  refine S.within.F.ok scWithin (fun vs H Q E h => ?_) (fun cdv A outer s H vs Q E hr h => ?_)
  · obtain ⟨_, _, _, _, rfl, _⟩ := h
    rfl
  · obtain ⟨v, n, lo, hi, rfl, t, q⟩ := h
    refine ⟨_, pss_one (ps_ret (pe_and (pe_call G hr (by rfl) S.whole.g S.whole.F.kp S.whole.b .nil pass0 (pa_cons (pv 0) pa_nil)) (pe_one (pe_chain op_le op_le (pv 1) (pv 0) (pv 2))))), ?_⟩
    refine ⟨v, rfl, v, n, rfl, t, _, rfl, ?_⟩
    cases v with
    | int i =>
      refine iteT ⟨.int lo, rfl, .int i, rfl, lo, i, rfl, rfl, _, rfl, ite2 (fun c => ?_) (fun c => ?_)⟩
      · refine ⟨.int hi, rfl, i, hi, rfl, rfl, ?_⟩
        have e : isIn (.int i) lo hi = decide (i ≤ hi) := by
          show (decide (lo ≤ i) && decide (i ≤ hi)) = _
          rw [c, Bool.true_and]
        rw [e] at q
        exact q
      · have e : isIn (.int i) lo hi = false := by
          show (decide (lo ≤ i) && decide (i ≤ hi)) = _
          rw [Bool.eq_false_iff.mpr c, Bool.false_and]
        rw [e] at q
        exact q
    | _ => exact iteF q
theorem scTupOf : FnScope ["thing", "many"] ["thing", "many"] (defScope sTupOf) := ⟨rfl, rfl, rfl, by decide +kernel, rfl, by decide +kernel, by decide +kernel⟩
def spTupOf : Sp := fun vs H Q _ => ∃ (a : Addr) (xs : List V) (m : Int), vs = [.ref a, .int m] ∧ H a = some (.tup xs) ∧ (xs.length : Int) = m ∧ Q (.bl true) H
theorem ok_tupOf {k : Nat} (S : Sm K mg f1 f2 f3 f4 f5 d1 d2 d3 d4 d5) : FnOk P w K mg base CX0 (k + 1) f3 d3 ["thing", "many"] spTupOf := by
  refine S.tupOf.F.ok scTupOf (fun vs H Q E h => ?_) (fun cdv A outer s H vs Q E hr h => ?_)
  · obtain ⟨_, _, _, rfl, _⟩ := h
    rfl
  · obtain ⟨a, xs, m, rfl, e, el, q⟩ := h
    refine ⟨_, pss_one (ps_ret (pe_and (pe_callB call_isi (by rfl) S.mi (by decide +kernel) (pa_cons (pv 0) (pa_cons (pe_bltn (v := .ty "tuple") (by rfl) S.mT (by decide +kernel) rfl) pa_nil)))
      (pe_one (pe_cmpR op_eq (pe_callB call_len_seq (by rfl) S.ml PySem.boot_len (pa_cons (pv 0) pa_nil)) (pv 1) (nomark _))))), ?_⟩
    have t : Tg H (.ref a) "tuple" := .tup e
    refine ⟨.ref a, rfl, .ref a, .ty "tuple", .type "tuple", .type "tuple", true, rfl, .ty _, t.tyx, isi_tuple t, _, rfl, iteT ?_⟩
    refine ⟨.ref a, rfl, a, xs, rfl, .inr (SqT.of e), .int m, rfl, rfl, ?_⟩
    rw [el, decide_eq_true rfl]
    exact q
theorem scRoadQ : FnScope ["places", "thing", "one", "other", "cost", "time"] ["places", "thing"] (defScope sRoadQ) := ⟨rfl, rfl, rfl, by decide +kernel, rfl, by decide +kernel, by decide +kernel⟩
def spRoadQ : Sp := fun vs H Q _ => ∃ (t : Addr) (p : Int) (q : Road), vs = [.int p, .ref t] ∧ H t = some (.tup q.vs) ∧ RoadOk p q ∧ Q (.bl true) H
theorem isIn_of {i lo hi : Int} (a : lo ≤ i) (b : i ≤ hi) : isIn (.int i) lo hi = true := by
  show (decide (lo ≤ i) && decide (i ≤ hi)) = true
  rw [decide_eq_true a, decide_eq_true b]
  rfl
theorem ok_roadQ {k : Nat} (S : Sm K mg f1 f2 f3 f4 f5 d1 d2 d3 d4 d5) : FnOk P w K mg base CX0 (k + 3) f4 d4 ["places", "thing"] spRoadQ := by
  have G : FnOk P w K mg base CX0 (k + 2) f2 d2 ["thing", "low", "high"] spWithin := ok_within S
  have GT : FnOk P w K mg base CX0 (k + 2) f3 d3 ["thing", "many"] spTupOf := ok_tupOf S
  obtain ⟨t3, c3⟩ := S.c3
  obtain ⟨t4, c4⟩ := S.c4
  obtain ⟨t5, c5⟩ := S.c5
  refine S.roadQ.F.ok scRoadQ (fun vs H Q E h => ?_) (fun cdv A outer s H vs Q E hr h => ?_)
  · obtain ⟨_, _, _, rfl, _⟩ := h
    rfl
  · obtain ⟨t, p, r, rfl, e, ok, q⟩ := h
    refine ⟨_, pss_cons (ps_if (pt_not (pt_val (pe_call GT hr (by rfl) S.tupOf.g S.tupOf.F.kp S.tupOf.b .nil pass0 (pa_cons (pv 1) (pa_cons pe_int pa_nil))))) pss_never pss_nil)
      (pss_cons (ps_asg (pv 1) (pg_tup (by rfl) (pgs_cons (pg_name (i := 2) scRoadQ.nd rfl (.inl rfl)) (pgs_cons (pg_name (i := 3) scRoadQ.nd rfl (.inl rfl)) (pgs_cons (pg_name (i := 4) scRoadQ.nd rfl (.inl rfl)) (pgs_cons (pg_name (i := 5) scRoadQ.nd rfl (.inl rfl)) pgs_nil))))))
      (pss_cons (ps_if (PW.pt (pw_or (pt_not (pt_val (pe_call G hr (by rfl) S.within.g S.within.F.kp S.within.b .nil pass0 (pa_cons (pv 2) (pa_cons pe_int (pa_cons (pe_op op_sub (pv 0) pe_int) pa_nil)))))) (pw_or1 (pt_not (pt_val (pe_call G hr (by rfl) S.within.g S.within.F.kp S.within.b .nil pass0 (pa_cons (pv 3) (pa_cons pe_int (pa_cons (pe_op op_sub (pv 0) pe_int) pa_nil)))))))))
        pss_never pss_nil)
      (pss_one (ps_ret (pe_and (pe_cmpR op_ne (pv 2) (pv 3) (nomark _)) (pe_and (pe_call G hr (by rfl) S.within.g S.within.F.kp S.within.b .nil pass0 (pa_cons (pv 4) (pa_cons (pe_glob (v := .int 1) (by rfl) c3 ⟨t3, rfl⟩) (pa_cons (pe_glob (v := .int 99) (by rfl) c4 ⟨t4, rfl⟩) pa_nil))))
        (pe_one (pe_call G hr (by rfl) S.within.g S.within.F.kp S.within.b .nil pass0 (pa_cons (pv 5) (pa_cons pe_int (pa_cons (pe_glob (v := .int 99) (by rfl) c5 ⟨t5, rfl⟩) pa_nil))))))))))), ?_⟩
    refine ⟨.ref t, rfl, t, _, 4, rfl, e, rfl, _, rfl, iteF ?_⟩
    refine ⟨.ref t, rfl, t, _, rfl, SqT.of e, rfl, .int r.one, _, rfl, .int r.other, _, rfl, .int r.cost, _, rfl, .int r.time, _, rfl, rfl, ?_⟩
    refine ⟨.int r.one, rfl, .int p, rfl, p, 1, rfl, rfl, .int r.one, "int", 0, p - 1, rfl, .int _, _, rfl, ?_⟩
    rw [isIn_of ok.o1 ok.o2]
    refine iteF ?_
    refine ⟨.int r.other, rfl, .int p, rfl, p, 1, rfl, rfl, .int r.other, "int", 0, p - 1, rfl, .int _, _, rfl, ?_⟩
    rw [isIn_of ok.t1 ok.t2]
    refine iteF ?_
    refine ⟨.int r.one, rfl, .int r.other, rfl, rfl, _, rfl, ?_⟩
    have hne : (V.int r.one) ≠ (V.int r.other) := fun z => ok.ne (V.int.inj z)
    rw [decide_eq_false hne]
    refine iteT ⟨.int r.cost, rfl, .int r.cost, "int", 1, 99, rfl, .int _, _, rfl, ?_⟩
    rw [isIn_of ok.c1 ok.c2]
    refine iteT ⟨.int r.time, rfl, .int r.time, "int", 0, 99, rfl, .int _, ?_⟩
    rw [isIn_of ok.m1 ok.m2]
    exact q
end
end Wy

namespace Wy
open PySem PySem.Spec PyProof.Rows L2
theorem Same.upd_lst {H H' : Hp} {D : Addr} {o : HO} (s : Same H H') (h : H D = none) : Same H (upd H' D o) := fun b x e => by
  rw [upd_ne (ne_of_none e h)]
  exact s b x e
/-! ### how many unlike numbers a list has -/
def manyOf (ns : List Int) : Nat := (PyProof.Rows.firstMet (fun i => ns.getD i 0) ns.length).length
theorem met_take {ns : List Int} : ∀ i, i ≤ ns.length → ((List.range i).map fun j => ns.getD j 0) = ns.take i
  | 0, _ => rfl
  | i + 1, hi => by
    rw [List.range_succ, List.map_append, met_take i (by omega), List.take_add_one, List.getElem?_eq_getElem (show i < ns.length from hi)]
    congr 1
    rw [List.map_singleton, List.getD_eq_getElem?_getD, List.getElem?_eq_getElem (show i < ns.length from hi)]
    rfl
theorem met_nodup {ns : List Int} : ∀ i, i ≤ ns.length → ((PyProof.Rows.firstMet (fun j => ns.getD j 0) i).length = i ↔ (ns.take i).Nodup)
  | 0, _ => by
    rw [PyProof.Rows.firstMet_zero]
    exact ⟨fun _ => List.nodup_nil, fun _ => rfl⟩
  | i + 1, hi => by
    have hlt : i < ns.length := hi
    have ih := met_nodup (ns := ns) i (by omega)
    have le := PyProof.Rows.firstMet_length_le (fun j => ns.getD j 0) i
    have ea := PyProof.Rows.firstMet_any (fun j => ns.getD j 0) i (ns.getD i 0)
    rw [met_take i (by omega)] at ea
    have ex : ns.getD i 0 = ns[i] := by
      rw [List.getD_eq_getElem?_getD, List.getElem?_eq_getElem hlt]
      rfl
    rw [PyProof.Rows.firstMet_succ, List.take_add_one, List.getElem?_eq_getElem hlt]
    show (PyProof.Rows.step_dedup _ (ns.getD i 0)).length = i + 1 ↔ (ns.take i ++ [ns[i]]).Nodup
    unfold PyProof.Rows.step_dedup
    rw [ea, ex]
    have hn : (ns.take i ++ [ns[i]]).Nodup ↔ (ns.take i).Nodup ∧ ns[i] ∉ ns.take i := by
      rw [List.nodup_append]
      constructor
      · rintro ⟨a, _, c⟩
        exact ⟨a, fun z => c _ z _ (List.mem_singleton.mpr rfl) rfl⟩
      · rintro ⟨a, c⟩
        refine ⟨a, List.Pairwise.cons (fun _ h => nomatch h) .nil, fun x hx y hy => ?_⟩
        rw [List.mem_singleton.mp hy]
        exact fun z => c (z ▸ hx)
    rw [hn]
    by_cases hm : ns[i] ∈ ns.take i
    · rw [if_pos (List.any_eq_true.mpr ⟨ns[i], hm, beq_self_eq_true ns[i]⟩ : ((List.take i ns).any fun x => x == ns[i]) = true)]
      constructor
      · intro z
        omega
      · intro z
        exact absurd hm z.2
    · rw [if_neg (fun (z : ((List.take i ns).any fun x => x == ns[i]) = true) => by
        obtain ⟨y, h1, h2⟩ := List.any_eq_true.mp z
        rw [eq_of_beq h2] at h1
        exact hm h1), List.length_append, List.length_singleton]
      constructor
      · intro z
        exact ⟨ih.mp (by omega), hm⟩
      · intro z
        have := ih.mpr z.1
        omega
theorem many_nodup (ns : List Int) : decide (manyOf ns = ns.length) = decide ns.Nodup := by
  have := met_nodup (ns := ns) ns.length (Nat.le_refl _)
  rw [List.take_length] at this
  exact decide_eq_decide.mpr this
def tSetLen (K : PySem.W.Frag) (ta : TE) : TE := fun σ H Q => ta σ H fun x G => ∃ (l : Addr) (ns : List Int), x = .ref l ∧ SqL K G l (ns.map V.int) ∧ ns.length ≤ 2000 ∧ Q (.int (manyOf ns : Nat)) G
theorem pe_setLen {X : Cx} {a : Expr} {ta : TE} {u1 u2 u3 u4 : Pos} (gl : Gl X "len") (ml : X.mg "len" = none) (gs : Gl X "set") (ms : X.mg "set" = none) (ha : PE X a ta) (calm : X.calm = true := by rfl)
    (st : starEach [a] X.env = (false, eval a X.env) :: starEach [] X.env := by rfl) : PE X (.Call (.Name "len" u1) [.Call (.Name "set" u2) [a] [] u3] [] u4) (tSetLen X.K ta) :=
  ⟨fun pins s σ H Q I h => by
    refine PyProof.Rows.Call_ (ld_blt I gl ml boot_len ?_)
    refine PyProof.Rows.callWith_builtin1 (PyProof.Rows.args_cons ?_ rfl) rfl rfl
    refine PyProof.Rows.Call_ (ld_blt I gs ms boot_set ?_)
    refine PyProof.Rows.callWith_type1 (PyProof.Rows.args_cons (thn (ha.run pins s σ H _ I h) fun v t ⟨x, G, J, rx, hx⟩ => PyProof.Rows.args_nil ?_) st) st rfl
    obtain ⟨l, ns, rfl, sq, len, fin⟩ := hx
    cases rx
    obtain ⟨items, vals, place, _⟩ := J.list sq
    have size : items.toArray.size = ns.length := by rw [List.size_toArray, ← vals.length, List.length_map]
    refine call_set_list (J.ok.hd calm) place.isList (by simpa using RZ.intsAre_vals vals) (by rw [size]; unfold scanBound; omega) fun h' tk made kept => ?_
    refine PyProof.Rows.args_nil ?_
    rw [size] at made
    have few := PyProof.Rows.firstMet_length_le (fun i => ns.getD i 0) ns.length
    obtain ⟨o, es, ep, t', ho, hex, hd, _, _, _, hf, hn⟩ := made
    have J2 : Inv X pins σ G { t with heap := h', toks := tk } := J.kept fun b o e => kept b o (Heap.lt_size e) e
    exact call_len_set ho hex hd hf (by rw [hn]; omega) ⟨.int (manyOf ns : Nat), G, J2.tok _, ⟨_, by rw [hn]; rfl⟩, fin⟩⟩
/-! ### what is handed in as a way -/
inductive Wh (H : Hp) : V → Option (List V) → Prop where
  | tup {b : Addr} {xs : List V} : H b = some (.tup xs) → (∀ y ∈ xs, ∃ n, Tg H y n) → xs.length ≤ 1000 → Wh H (.ref b) (some xs)
  | oth {v : V} {n : String} : Tg H v n → (n == "tuple") = false → Wh H v none
theorem Wh.keep {H H' : Hp} {v : V} {o : Option (List V)} (h : Wh H v o) (s : Same H H') : Wh H' v o := by
  cases h with
  | tup e a l =>
    refine .tup (s _ _ e) (fun y hy => ?_) l
    obtain ⟨n, t⟩ := a y hy
    exact ⟨n, t.keep s⟩
  | oth t n => exact .oth (t.keep s) n
def goesO (rs : List Road) (here : Int) (o : Option (List V)) : Option (List Road) := o.bind (goes rs here)
theorem met_last (here : Int) (qs : List Road) : atI ((metOf here qs).map V.int) (-1) = some (.int (lastOf here qs)) := by
  have e : metOf here qs ≠ [] := List.cons_ne_nil _ _
  have el : lastOf here qs = (metOf here qs).getLast e := by
    unfold lastOf
    show ((metOf here qs).getLast?).getD here = _
    rw [List.getLast?_eq_some_getLast e]
    rfl
  rw [el]
  conv => lhs; rw [← List.dropLast_concat_getLast e, List.map_append, List.map_singleton]
  exact atI_last _ _
theorem met_len (here : Int) (qs : List Road) : (metOf here qs).length = qs.length + 1 := by
  unfold metOf
  rw [List.length_cons, List.length_map]
theorem met_snoc (here : Int) (qs : List Road) (q : Road) : metOf here (qs ++ [q]) = metOf here qs ++ [q.other] := by
  unfold metOf
  rw [List.map_append, List.map_singleton, List.cons_append]
section
variable {P : Program} {w : World} {K : PySem.W.Frag} {mg : Str → Option Value} {base : Heap}
variable {f1 f2 f3 f4 f5 : Addr} {d1 d2 d3 d4 d5 : FuncData}
theorem scNetQ : FnScope ["thing", "places", "roads", "road"] ["thing"] (defScope sNetQ) := ⟨rfl, rfl, rfl, by decide +kernel, rfl, by decide +kernel, by decide +kernel⟩
def spNetQ : Sp := fun vs H Q _ => ∃ (a r : Addr) (ts : List Addr) (p : Int) (rs : List Road), vs = [.ref a] ∧ NetAt H a r ts p rs ∧ NetOk p rs ∧ ∀ H', Same H H' → Q (.bl true) H'
theorem all_yes (n : Nat) : (List.replicate n true).all id = true := by
  rw [List.all_eq_true]
  intro x hx
  rw [(List.mem_replicate.mp hx).2]
  rfl
theorem ok_netQ {k : Nat} (S : Sm K mg f1 f2 f3 f4 f5 d1 d2 d3 d4 d5) : FnOk P w K mg base CX0 (k + 4) f5 d5 ["thing"] spNetQ := by
  have G : FnOk P w K mg base CX0 (k + 3) f2 d2 ["thing", "low", "high"] spWithin := ok_within S
  have GT : FnOk P w K mg base CX0 (k + 3) f3 d3 ["thing", "many"] spTupOf := ok_tupOf S
  have GR : FnOk P w K mg base CX0 (k + 3) f4 d4 ["places", "thing"] spRoadQ := ok_roadQ S
  obtain ⟨t1, c1⟩ := S.c1
  obtain ⟨t2, c2⟩ := S.c2
  refine S.netQ.F.ok scNetQ (fun vs H Q E h => ?_) (fun cdv A outer s H vs Q E hr h => ?_)
  · obtain ⟨_, _, _, _, _, rfl, _⟩ := h
    rfl
  · obtain ⟨a, r, ts, p, rs, rfl, ⟨ea, er, et⟩, ok, q⟩ := h
    refine ⟨_, pss_cons (ps_if (pt_not (pt_val (pe_call GT hr (by rfl) S.tupOf.g S.tupOf.F.kp S.tupOf.b .nil pass0 (pa_cons (pv 0) (pa_cons pe_int pa_nil))))) pss_never pss_nil)
      (pss_cons (ps_asg (pv 0) (pg_tup (by rfl) (pgs_cons (pg_name (i := 1) scNetQ.nd rfl (.inr rfl)) (pgs_cons (pg_name (i := 2) scNetQ.nd rfl (.inl rfl)) pgs_nil))))
      (pss_cons (ps_if (pt_not (pt_val (pe_call G hr (by rfl) S.within.g S.within.F.kp S.within.b .nil pass0 (pa_cons (pv 1) (pa_cons pe_int (pa_cons (pe_glob (v := .int 10) (by rfl) c1 ⟨t1, rfl⟩) pa_nil)))))) pss_never pss_nil)
      (pss_cons (ps_if (PW.pt (pw_or (pt_not (pt_val (pe_callB call_isi (by rfl) S.mi (by decide +kernel) (pa_cons (pv 2) (pa_cons (pe_bltn (v := .ty "tuple") (by rfl) S.mT (by decide +kernel) rfl) pa_nil)))))
          (pw_or1 (pt_cmpR op_gt (pe_callB call_len_seq (by rfl) S.ml PySem.boot_len (pa_cons (pv 2) pa_nil)) (pe_glob (v := .int 30) (by rfl) c2 ⟨t2, rfl⟩) (nomark _))))) pss_never pss_nil)
      (pss_one (ps_ret (pe_callB (cr_all rfl) (by rfl) S.mA (by decide +kernel) (pa_cons
        (pe_lc (own := [("road", 3)]) (g := gName 3) (tt := tYes) rfl scNetQ.nd (pi_tup (pv 2)) (blkOk_by (N := ["thing", "places", "roads", "road"]) (sc := defScope sNetQ) (by decide +kernel))
          (fun _ _ _ _ _ => pg_name (i := 3) scNetQ.nd rfl (.inl rfl)) (fun _ _ _ _ _ => pts_nil)
          (fun _ _ _ _ _ => pe_call GR hr (by rfl) S.roadQ.g S.roadQ.F.kp S.roadQ.b .nil pass0 (pa_cons (pv 1) (pa_cons (pv 3) pa_nil)))) pa_nil))))))), ?_⟩
    refine ⟨.ref a, rfl, a, _, 2, rfl, ea, rfl, _, rfl, iteF ?_⟩
    refine ⟨.ref a, rfl, a, _, rfl, SqT.of ea, rfl, .int p, _, rfl, .ref r, _, rfl, rfl, ?_⟩
    refine ⟨.int p, rfl, .int p, "int", 1, 10, rfl, .int _, _, rfl, ?_⟩
    rw [isIn_of ok.p1 ok.p2]
    refine iteF ?_
    have t : Tg H (.ref r) "tuple" := .tup er
    refine ⟨.ref r, rfl, .ref r, .ty "tuple", .type "tuple", .type "tuple", true, rfl, .ty _, t.tyx, isi_tuple t, _, rfl, iteF ?_⟩
    have hl : ¬ ((30 : Int) < ((ts.map V.ref).length : Int)) := by
      rw [List.length_map, et.len]
      have := ok.len
      omega
    refine ⟨.ref r, rfl, r, _, rfl, .inr (SqT.of er), _, 30, rfl, rfl, _, rfl, ?_⟩
    rw [decide_eq_false hl]
    refine iteF ?_
    refine ⟨.ref r, rfl, r, rfl, ⟨_, SqT.of er⟩, fun D hD => ?_⟩
    refine lc_tup (xs := ts.map V.ref) (fun i H' => Same H H' ∧ H' D = some (.lst ((List.replicate i true).map V.bl))) ⟨same_new hD, upd_same⟩ (fun i H' _ h => SqT.of (h.1 _ _ er)) (fun i x H' hx h => ?_) (fun H' h => ?_)
    · obtain ⟨sm, eD⟩ := h
      have hi : i < ts.length := by
        have := (List.getElem?_eq_some_iff.mp hx).1
        rwa [List.length_map] at this
      rw [List.getElem?_map, List.getElem?_eq_getElem hi] at hx
      cases hx
      obtain ⟨rd, e1, e2⟩ := et.get (List.getElem?_eq_getElem hi)
      refine ⟨rfl, ?_⟩
      unfold tYes
      dsimp only
      rw [if_pos rfl]
      refine ⟨.int p, rfl, .ref ts[i], rfl, ts[i], p, rd, rfl, sm _ _ e2, ok.all _ (List.mem_of_getElem? e1), _, eD, ?_, ?_, ?_⟩
      · rw [List.length_map, List.length_replicate]
        have := ok.len
        rw [et.len] at hi
        exact small1000 (by omega)
      · exact Same.upd_lst sm hD
      · rw [upd_same, List.replicate_succ', List.map_append]
        rfl
    · obtain ⟨sm, eD⟩ := h
      refine ⟨D, _, rfl, SqL.of eD, ?_⟩
      rw [all_yes]
      exact q _ sm
theorem scChkN : FnScope ["thing"] ["thing"] (defScope sChkN) := ⟨rfl, rfl, rfl, by decide +kernel, rfl, by decide +kernel, by decide +kernel⟩
def spChkN : Sp := fun vs H Q _ => ∃ (a r : Addr) (ts : List Addr) (p : Int) (rs : List Road), vs = [.ref a] ∧ NetAt H a r ts p rs ∧ NetOk p rs ∧ ∀ H', Same H H' → Q .non H'
theorem ok_chkN {f : Addr} {fd : FuncData} {k : Nat} (S : Sm K mg f1 f2 f3 f4 f5 d1 d2 d3 d4 d5) (D : Df K mg "check_net" sChkN ["thing"] f fd) : FnOk P w K mg base CX0 (k + 5) f fd ["thing"] spChkN := by
  have G : FnOk P w K mg base CX0 (k + 4) f5 d5 ["thing"] spNetQ := ok_netQ S
  refine D.F.ok scChkN (fun vs H Q E h => ?_) (fun cdv A outer s H vs Q E hr h => ?_)
  · obtain ⟨_, _, _, _, _, rfl, _⟩ := h
    rfl
  · obtain ⟨a, r, ts, p, rs, rfl, hn, ok, q⟩ := h
    refine ⟨_, pss_one (ps_if (pt_not (pt_val (pe_call G hr (by rfl) S.netQ.g S.netQ.F.kp S.netQ.b .nil pass0 (pa_cons (pv 0) pa_nil)))) pss_never pss_nil), ?_⟩
    exact ⟨.ref a, rfl, a, r, ts, p, rs, rfl, hn, ok, fun H' sm => ⟨_, rfl, iteF (q _ sm)⟩⟩
/-- a class of refusals without an __init__ of its own -/
structure Ex (K : PySem.W.Frag) (mg : Str → Option Value) (x : Str) (C : Addr) : Prop where
  g : mg x = some (.ref C)
  x : PySem.W.excIn K C [.type "ValueError", .type "Exception", .type "BaseException", .type "object"] "ValueError.__new__" = true
  k : PySem.W.keepIn K (.ref C) = true
  b : PySem.W.subIn K (.ref C) (.type "BaseException") = some true
  t : PySem.W.typeIn K (.ref C) = some (.type "type")
theorem scChkP : FnScope ["net", "thing"] ["net", "thing"] (defScope sChkP) := ⟨rfl, rfl, rfl, by decide +kernel, rfl, by decide +kernel, by decide +kernel⟩
def spChkP (C : Addr) : Sp := fun vs H Q E => ∃ (a r : Addr) (ts : List Addr) (p : Int) (rs : List Road) (v : V) (n : String), vs = [.ref a, v] ∧ NetAt H a r ts p rs ∧ Tg H v n ∧ (isIn v 0 (p - 1) = true → Q .non H) ∧ (isIn v 0 (p - 1) = false → E (.ref C) none H)
theorem ok_chkP {f C : Addr} {fd : FuncData} {k : Nat} (S : Sm K mg f1 f2 f3 f4 f5 d1 d2 d3 d4 d5) (D : Df K mg "check_place" sChkP ["net", "thing"] f fd) (Z : Ex K mg "NoPlace" C) : FnOk P w K mg base (L2.CX P w) (k + 3) f fd ["net", "thing"] (spChkP C) := by
  have G : FnOk P w K mg base CX0 (k + 2) f2 d2 ["thing", "low", "high"] spWithin := ok_within S
  refine D.F.okX scChkP (fun vs H Q E h => ?_) (fun cdv A outer s H vs Q E hr h => ?_)
  · obtain ⟨_, _, _, _, _, _, _, rfl, _⟩ := h
    rfl
  · obtain ⟨a, r, ts, p, rs, v, n, rfl, ⟨ea, _, _⟩, t, q1, q2⟩ := h
    refine ⟨_, pss_one (ps_if (pt_not (pt_val (pe_call G hr (by rfl) S.within.g S.within.F.kp S.within.b .nil pass0 (pa_cons (pv 1) (pa_cons pe_int (pa_cons (pe_op op_sub (pe_ix ix_tup (pv 0) pe_int (fun _ _ => rfl)) pe_int) pa_nil))))))
      (pss_one (ps_raise rfl (takes_of rfl rfl rfl rfl) (pmk_own PySem.F.excBase_ValueError Z.x Z.g Z.k (raises_own Z.b Z.t) rfl))) pss_nil), ?_⟩
    refine ⟨v, rfl, .ref a, rfl, a, _, 0, _, rfl, rfl, SqT.of ea, rfl, p, 1, rfl, rfl, v, n, 0, p - 1, rfl, t, _, rfl, ?_⟩
    cases e : isIn v 0 (p - 1) with
    | true => exact iteF (q1 e)
    | false => exact iteT (q2 e)
end
end Wy

namespace Wy
open PySem PySem.Spec PyProof.Rows L2
abbrev sNet : Stmt := topS 32
/-! ### roads by their numbers -/
theorem road_at {H : Hp} {ts : List Addr} {rs : List Road} {n : Nat} (h : RoadsAt H ts rs) (hn : n < rs.length) : ∃ (t : Addr) (q : Road), ts[n]? = some t ∧ rs[n]? = some q ∧ H t = some (.tup q.vs) := by
  have h1 : n < ts.length := by rw [h.len]; exact hn
  obtain ⟨q, e1, e2⟩ := h.get (List.getElem?_eq_getElem h1)
  exact ⟨ts[n], q, List.getElem?_eq_getElem h1, e1, e2⟩
theorem ref_at {ts : List Addr} {n : Nat} {t : Addr} (h : ts[n]? = some t) : (ts.map V.ref)[n]? = some (.ref t) := by
  rw [List.getElem?_map, h]
  rfl
theorem ix_tupK {X : Cx} {K : PySem.W.Frag} (h : X.K = K) : IxR X (rIxT K) := by
  subst h
  exact ix_tup
theorem laid_snoc {H : Hp} {us : List Addr} {qs : List Road} {t : Addr} {q : Road} (h : RoadsAt H us qs) (e : H t = some (.tup q.vs)) : RoadsAt H (us ++ [t]) (qs ++ [q]) := by
  induction h with
  | nil => exact .cons e .nil
  | cons a _ ih => exact .cons a ih
/-! ### data of nets -/
def dRoad (q : Road) : PyData := .tuple [.int q.one, .int q.other, .int q.cost, .int q.time]
theorem road_dp {K : PySem.W.Frag} {H : Hp} {t : Addr} {q : Road} (e : H t = some (.tup q.vs)) : Dp K H (.ref t) (dRoad q) := .tup (SqT.of e) (.cons (.int _) (.cons (.int _) (.cons (.int _) (.cons (.int _) .nil))))
theorem roads_dp {K : PySem.W.Frag} {H : Hp} : ∀ {ts : List Addr} {rs : List Road}, RoadsAt H ts rs → DpAll K H (ts.map V.ref) (rs.map dRoad)
  | _, _, .nil => .nil
  | _, _, .cons e r => .cons (road_dp e) (roads_dp r)
theorem roads_lay : ∀ rs : List Road, PyData.canLayAll0 (rs.map dRoad) = true
  | [] => rfl
  | q :: r => by
    rw [List.map_cons, PyData.canLayAll0, roads_lay r]
    simp [dRoad, PyData.canLay0, PyData.canLayAll0]
theorem roads_deep : ∀ rs : List Road, PyData.depthAll (rs.map dRoad) ≤ 1
  | [] => by
    show PyData.depthAll [] ≤ 1
    rw [PyData.depthAll]
    omega
  | q :: r => by
    rw [List.map_cons, PyData.depthAll]
    have := roads_deep r
    have h2 : (dRoad q).depth ≤ 1 := by simp [dRoad, PyData.depth, PyData.depthAll]
    omega
theorem roads_shaped (rs : List Road) : SeqAt.shaped (.list (rs.map dRoad)) = true ∧ SeqAt.shaped (.tuple (rs.map dRoad)) = true := by
  have h := roads_deep rs
  constructor <;> (unfold SeqAt.shaped; rw [PyData.canLay0, roads_lay, PyData.depth, Bool.true_and]; exact decide_eq_true (by omega))
theorem pick {α : Type} {xs : List α} {n : Int} (h0 : 0 ≤ n) (h1 : n < (xs.length : Int)) : ∃ v, v ∈ xs ∧ atI xs n = some v := by
  obtain ⟨m, rfl⟩ := Int.eq_ofNat_of_zero_le h0
  have hm : m < xs.length := by omega
  exact ⟨xs[m], List.getElem_mem hm, atI_nat (List.getElem?_eq_getElem hm)⟩
theorem Keep.at {z b : Addr} {H H' : Hp} {o : HO} (k : Keep z H H') (h : H b = some o) (n : b ≠ z) : H' b = some o := k b o h n
theorem StOk.neT {H : Hp} {z b : Addr} {xs : List V} (s : StOk H z) (h : H b = some (.tup xs)) : b ≠ z := let ⟨_, _, e, _⟩ := s; ne_of h e (fun q => nomatch q)
theorem Keep.tups {z : Addr} {H H' : Hp} (k : Keep z H H') (s : StOk H z) : ∀ b xs, H b = some (.tup xs) → H' b = some (.tup xs) := fun b xs e => k b _ e (s.neT e)
end Wy

namespace Wy
open PySem PySem.Spec PyProof.Rows L2
def tCutT (t : TT) : TT := fun σ H Q => ∃ R : Bool → Hp → Prop, t σ H R ∧ ∀ b H', R b H' → Q b H'
theorem pt_cut {X : Cx} {e : Expr} {t : TT} (h : PT X e t) : PT X e (tCutT t) := ⟨fun pins s σ H Q I hq => by
  obtain ⟨R, h1, h2⟩ := hq
  exact thn (h.run pins s σ H R I h1) fun b s1 ⟨G, J, q⟩ => ⟨G, J, h2 _ _ q⟩⟩
theorem ints_dp {K : PySem.W.Frag} {H : Hp} : ∀ ms : List Int, DpAll K H (ms.map V.int) (ms.map PyData.int)
  | [] => .nil
  | m :: r => .cons (.int m) (ints_dp r)
theorem ints_lay : ∀ ms : List Int, PyData.canLayAll0 (ms.map PyData.int) = true ∧ PyData.depthAll (ms.map PyData.int) = 0
  | [] => by
    rw [List.map_nil, PyData.canLayAll0, PyData.depthAll]
    exact ⟨rfl, rfl⟩
  | m :: r => by
    rw [List.map_cons, PyData.canLayAll0, PyData.depthAll, (ints_lay r).1, (ints_lay r).2, PyData.canLay0, PyData.depth]
    exact ⟨rfl, rfl⟩
theorem ints_shaped (ms : List Int) : SeqAt.shaped (.list (ms.map PyData.int)) = true := by
  unfold SeqAt.shaped
  rw [PyData.canLay0, (ints_lay ms).1, PyData.depth, (ints_lay ms).2]
  rfl
theorem Keep.free {z b : Addr} {H H' : Hp} (k : Keep z H H') (h : H' b = none) (n : b ≠ z) : H b = none := by
  cases e : H b with
  | none => rfl
  | some o =>
    rw [k _ _ e n] at h
    cases h
end Wy

namespace Wy
open PySem PySem.Spec PyProof.Rows L2 HT
/-! ### t[::-1] of a tuple -/
theorem rev_adjust (n : Nat) : Builtin.Slice.sliceAdjust none none (-1) (n : Int) = ((n : Int) - 1, -1) := by
  unfold Builtin.Slice.sliceAdjust
  rfl
theorem rev_places (n : Nat) : Builtin.Slice.slicePlaces ((n : Int) - 1) (-1) (-1) = n := by
  unfold Builtin.Slice.slicePlaces
  simp
  omega
theorem rev_pick (xs : List Value) : ((List.range xs.length).filterMap fun (k : Nat) => xs.toArray[(((xs.length : Int) - 1) + (k : Int) * (-1)).toNat]?) = xs.reverse := by
  have e : ∀ m, m ≤ xs.length → ((List.range m).filterMap fun (k : Nat) => xs.toArray[(((xs.length : Int) - 1) + (k : Int) * (-1)).toNat]?) = xs.reverse.take m := by
    intro m
    induction m with
    | zero =>
      intro _
      rfl
    | succ m ih =>
      intro h
      rw [List.range_succ, List.filterMap_append, ih (by omega), List.take_add_one]
      congr 1
      have hi : (((xs.length : Int) - 1) + (m : Int) * (-1)).toNat = xs.length - 1 - m := by omega
      have hr : xs.reverse[m]? = some xs[xs.length - 1 - m] := by
        rw [List.getElem?_reverse (by omega), List.getElem?_eq_getElem (by omega)]
      have ha : xs.toArray[xs.length - 1 - m]? = some xs[xs.length - 1 - m] := by
        rw [List.getElem?_toArray, List.getElem?_eq_getElem (by omega)]
      rw [hr]
      show List.filterMap _ [m] = [xs[xs.length - 1 - m]]
      rw [List.filterMap_cons_some (b := xs[xs.length - 1 - m]) (by rw [hi]; exact ha)]
      rfl
  rw [e _ (Nat.le_refl _), List.take_of_length_le (by rw [List.length_reverse]; exact Nat.le_refl _)]
section
variable {prog : Program} {w : World} {A : Around} {E : Value → Shared → Prop} {s : Shared}
theorem tuple_back {u sl : Addr} {its : List Value} {tk : Tok} {Q : Value → Shared → Prop} (hT : IsTup s.heap u its.toArray) (hs : s.heap.IsSliceOf sl .none .none (.int (-1) tk)) (hz : its.length ≤ sizeLine)
    (h : Q (.ref s.heap.objs.size) { s with heap := s.heap.push { cls := .type "tuple", data := .seq its.reverse.toArray } }) : wpAny (model prog w) A (getItem (.ref u) (.ref sl)) Q E s := by
  have fits : sizeOk (.seq its.reverse.toArray) := by
    show its.reverse.toArray.size ≤ sizeLine
    rw [List.size_toArray, List.length_reverse]
    exact hz
  obtain ⟨os, ho, hc, hd⟩ := id hs
  have ty : s.TypeIs (.ref sl) "slice" := ⟨os, ho, hc⟩
  unfold getItem
  try with_reducible refine wpAny_holding ?_
  first | refine wpAny_bind (wpAny_pure ?_) | skip
  refine wpAny_bind (wpAny_sequenceKey hT.typeIs (by decide) (wpAny_bind (wpAny_callSpecial?_slot (name := Str.ofString "__getitem__") hT.typeIs PyProof.Rows.slot_tuple_getitem (wpAny_call_entry PyProof.Rows.slot_tuple_getitem hT.typeIs entry_tuple_getitem ?_ (args_tuple_getitem _ _)))))
  show wpAny _ _ (Builtin.Tuple.tupleItemsOf (.ref u) >>= _) _ _ s
  refine wpAny_bind (tupleItemsOf_ hT (wpAny_bind (wpAny_typeOf ty ?_)))
  rw [if_pos (by decide)]
  refine wpAny_bind (m := Builtin.Slice.sliceApplied _ _) ?_
  unfold Builtin.Slice.sliceApplied Builtin.Slice.sliceFields
  refine wpAny_bind (wpAny_bind (wpAny_field ho hd (x := .none) rfl (wpAny_bind (wpAny_field ho hd (x := .none) rfl (wpAny_bind (wpAny_field ho hd (x := .int (-1) tk) rfl (wpAny_pure ?_)))))))
  refine wpAny_bind (slicePart_int ?_)
  show wpAny _ _ (if ((-1 : Int) == 0) = true then _ else _) _ _ s
  rw [if_neg (by decide)]
  refine wpAny_bind (slicePart_none (wpAny_bind (slicePart_none (wpAny_bind (wpAny_pure ?_)))))
  show wpAny _ _ (match Builtin.Slice.sliceAdjust none none (-1) (its.toArray.size : Int) with | (lo, hi) => pure (lo, (-1 : Int), Builtin.Slice.slicePlaces lo hi (-1))) _ _ s
  rw [rev_adjust]
  show wpAny _ _ (pure (((its.toArray.size : Int) - 1), (-1 : Int), Builtin.Slice.slicePlaces ((its.toArray.size : Int) - 1) (-1) (-1))) _ _ s
  rw [rev_places]
  refine wpAny_pure ?_
  show wpAny _ _ (if ((((its.toArray.size : Int) - 1) == 0 && (-1 : Int) == 1 && its.toArray.size == its.toArray.size) = true) then _ else _) _ _ s
  rw [if_neg (by simp), List.size_toArray, rev_pick]
  first
    | exact wpAny_bind (m := Builtin.Tuple.tupleExact _) (wpAny_newObj_type (wpAny_pure ⟨_, rfl, wpAny_pure h⟩) fits)
    | exact wpAny_bind (m := Builtin.Tuple.tupleExact _) (wpAny_newObj_type (wpAny_bind (wpAny_pure (wpAny_pure ⟨_, rfl, wpAny_pure h⟩))) fits)
    | exact wpAny_bind (wpAny_bind (m := Builtin.Tuple.tupleExact _) (wpAny_newObj_type (wpAny_pure (wpAny_pure ⟨_, rfl, wpAny_pure h⟩)) fits))
    | exact wpAny_bind (wpAny_bind (m := Builtin.Tuple.tupleExact _) (wpAny_newObj_type (wpAny_pure ⟨_, rfl, wpAny_pure h⟩) fits))
end
def tBackT (K : PySem.W.Frag) (te : TE) : TE := fun σ H Q => te σ H fun x G => ∃ a xs, x = .ref a ∧ SqT K G a xs ∧ ∀ p, G p = none → Q (.ref p) (upd G p (.tup xs.reverse))
theorem pe_backT {X : Cx} {e : Expr} {te : TE} {k : Nat} {u1 u2 u3 u4 : Pos} (he : PE X e te) : PE X (.Subscript e (.Slice none none (some (.UnaryOp .USub (.Constant (.int 1) k u1) u2)) u3) u4) (tBackT X.K te) := by
  refine ⟨fun pins s σ H Q I h => ?_⟩
  refine Subscript_ (thn (he.run pins s σ H _ I h) fun v t1 ⟨x, G1, J1, r1, g1⟩ => ?_)
  obtain ⟨a, xs, ex, hx, q⟩ := g1
  subst ex
  cases r1
  have step : PO X (some (.UnaryOp .USub (.Constant (.int 1) k u1) u2)) (tPart (tUn (rU fun i => .int (-i)) (tC (.int 1)))) := po_some (pe_un un_neg pe_int)
  refine wpAny_Slice (thn (po_none.run pins t1 σ G1 (fun o G => o = none ∧ G = G1) J1 ⟨rfl, rfl⟩) fun vl t2 ⟨l, G2, J2, pl, el, e2⟩ => ?_)
  subst el e2
  refine thn (po_none.run pins t2 σ G2 (fun o G => o = none ∧ G = G2) J2 ⟨rfl, rfl⟩) fun vu t3 ⟨u, G3, J3, pu, eu, e3⟩ => ?_
  subst eu e3
  refine thn (step.run pins t3 σ G3 (fun o G => o = some (-1) ∧ G = G3) J3 ⟨1, rfl, -1, rfl, rfl, rfl⟩) fun vs t4 ⟨o, G4, J4, ps, eo, e4⟩ => ?_
  subst eo e4
  have J5 : Inv X pins σ G4 { t4 with heap := t4.heap.push { cls := .type "slice", data := .fields #[vl, vu, vs] } } := J4.kept (t' := t4.toks) fun b ob z => Heap.get?_push_of_some _ z
  obtain ⟨its, r, hT, hz⟩ := J5.tuple hx
  have hlen := r.length
  show wpAny (model X.prog X.w) X.A (subscriptTail e (.Slice none none (some (.UnaryOp .USub (.Constant (.int 1) k u1) u2)) u3) (.ref a) (.ref t4.heap.objs.size)) (EP X pins σ Q) X.xe _
  refine tail_any (ops := [.ref a, .ref t4.heap.objs.size]) hT.typeIs (PyProof.Rows.slot_tuple_getitem.lookup) ?_ (by with_unfolding_all rfl)
  cases pl
  cases pu
  cases ps
  refine tuple_back hT (Heap.IsSliceOf.new _ _ _ _) (by omega) ?_
  refine ⟨.ref _, _, J5.laid (t' := t4.toks) (o := .tup xs.reverse) (fun b ob z => Heap.get?_push_of_some _ z) (Nat.le_refl _) ?_, rfl, q _ (J5.hok.fresh (Nat.le_refl _))⟩
  exact ⟨by rw [List.length_reverse]; exact hz, _, r.reverse, ⟨_, Heap.get?_push_size _ rfl, rfl, _, rfl⟩⟩
/-! ### repr of data -/
theorem dp_plain {K : PySem.W.Frag} {H : Hp} : ∀ {v : V} {d : PyData}, Dp K H v d → d.hasDict = false
  | _, _, .non => by simp only [PyData.hasDict]
  | _, _, .bl _ => by simp only [PyData.hasDict]
  | _, _, .int _ => by simp only [PyData.hasDict]
  | _, _, .str _ => by simp only [PyData.hasDict]
  | _, _, .lst _ a => by
    rw [PyData.hasDict]
    exact dpAll_plain a
  | _, _, .tup _ a => by
    rw [PyData.hasDict]
    exact dpAll_plain a
where dpAll_plain {K : PySem.W.Frag} {H : Hp} : ∀ {vs : List V} {ds : List PyData}, DpAll K H vs ds → PyData.hasDictAll ds = false
  | _, _, .nil => by simp only [PyData.hasDictAll]
  | _, _, .cons a b => by
    rw [PyData.hasDictAll, dp_plain a, dpAll_plain b]
    rfl
end Wy

namespace Wy
open PySem PySem.Spec PyProof.Rows L2
/-! ### how long a thing's text is -/
structure Sh (d : PyData) (n m : Nat) : Prop where
  s : d.showable = true
  l : d.shown.length ≤ n
  k : d.depth ≤ m
theorem Sh.mono {d : PyData} {n m n' m' : Nat} (h : Sh d n m) (a : n ≤ n') (b : m ≤ m') : Sh d n' m' := ⟨h.s, Nat.le_trans h.l a, Nat.le_trans h.k b⟩
theorem piled_le {c : Nat} : ∀ ts : List Str, (∀ t ∈ ts, t.length ≤ c) → piled ts ≤ ts.length * (c + 2)
  | [], _ => by
    show piled [] ≤ 0 * _
    simp [piled]
  | t :: r, h => by
    have h1 := h t List.mem_cons_self
    have h2 := piled_le r fun u hu => h u (List.mem_cons_of_mem _ hu)
    rw [piled_cons, List.length_cons, Nat.add_mul, Nat.one_mul]
    omega
theorem tuple_le {c : Nat} (ts : List Str) (h : ∀ t ∈ ts, t.length ≤ c) : (tupleText ts).length ≤ 4 + ts.length * (c + 2) := by
  unfold tupleText
  rw [strLen_append, strLen_append]
  have e1 : ((("(" : String) : Str)).length = 1 := rfl
  have e3 : (((if ts.length == 1 then ",)" else ")" : String) : Str)).length ≤ 2 := by split <;> decide
  have e4 := piled_le ts h
  rw [e1]
  by_cases hn : ts = []
  · subst hn
    have : (Str.join ", " []).length = 0 := rfl
    omega
  · have := join_length_add ts hn
    omega
theorem from_le {c : Nat} : ∀ (ts : List Str) (k : Nat) (acc : Str), (∀ t ∈ ts, t.length ≤ c) → (textFrom k acc ts).length ≤ acc.length + ts.length * (c + 2)
  | [], _, acc, _ => by
    show acc.length ≤ _
    omega
  | t :: r, k, acc, h => by
    have h1 := h t List.mem_cons_self
    have h2 := from_le r (k + 1) (acc ++ (if k > 0 then ", " else "" : String) ++ t) fun u hu => h u (List.mem_cons_of_mem _ hu)
    have e : (acc ++ (if k > 0 then ", " else "" : String) ++ t).length ≤ acc.length + 2 + t.length := by
      rw [strLen_append, strLen_append]
      have : (((if k > 0 then ", " else "" : String) : Str)).length ≤ 2 := by split <;> decide
      omega
    show (textFrom (k + 1) _ r).length ≤ _
    rw [List.length_cons, Nat.add_mul, Nat.one_mul]
    omega
theorem list_le {c : Nat} (ts : List Str) (h : ∀ t ∈ ts, t.length ≤ c) : (listText ts).length ≤ 4 + ts.length * (c + 2) := by
  unfold listText
  rw [strLen_append]
  have e1 : ((("[" : String) : Str)).length = 1 := rfl
  have e2 : ((("]" : String) : Str)).length = 1 := rfl
  have := from_le ts 0 "[" h
  rw [e2]
  omega
theorem shown_mem : ∀ {ds : List PyData} {t : Str}, t ∈ PyData.shownAll ds → ∃ d ∈ ds, t = d.shown
  | [], _, h => by
    rw [PyData.shownAll] at h
    cases h
  | d :: r, t, h => by
    rw [PyData.shownAll] at h
    rcases List.mem_cons.mp h with e | e
    · exact ⟨d, List.mem_cons_self, e⟩
    · obtain ⟨x, hx, e⟩ := shown_mem e
      exact ⟨x, List.mem_cons_of_mem _ hx, e⟩
theorem shown_len : ∀ ds : List PyData, (PyData.shownAll ds).length = ds.length
  | [] => by
    rw [PyData.shownAll]
    rfl
  | d :: r => by rw [PyData.shownAll, List.length_cons, List.length_cons, shown_len r]
theorem show_all : ∀ {ds : List PyData} {n m : Nat}, (∀ d ∈ ds, Sh d n m) → PyData.showableAll ds = true ∧ PyData.depthAll ds ≤ m
  | [], n, m, _ => by
    rw [PyData.showableAll, PyData.depthAll]
    exact ⟨rfl, Nat.zero_le _⟩
  | d :: r, n, m, h => by
    have h1 := h d List.mem_cons_self
    obtain ⟨h2, h3⟩ := show_all (n := n) (m := m) fun u hu => h u (List.mem_cons_of_mem _ hu)
    rw [PyData.showableAll, PyData.depthAll, h1.s, h2]
    have := h1.k
    exact ⟨rfl, by omega⟩
theorem Sh.tuple {ds : List PyData} {n m k : Nat} (h : ∀ d ∈ ds, Sh d n m) (hk : ds.length ≤ k) : Sh (.tuple ds) (4 + k * (n + 2)) (m + 1) := by
  obtain ⟨h1, h2⟩ := show_all h
  refine ⟨by rw [PyData.showable]; exact h1, ?_, by rw [PyData.depth]; omega⟩
  rw [PyData.shown]
  refine Nat.le_trans (tuple_le (c := n) _ fun t ht => ?_) ?_
  · obtain ⟨d, hd, e⟩ := shown_mem ht
    rw [e]
    exact (h d hd).l
  · rw [shown_len]
    have := Nat.mul_le_mul_right (n + 2) hk
    omega
theorem Sh.list {ds : List PyData} {n m k : Nat} (h : ∀ d ∈ ds, Sh d n m) (hk : ds.length ≤ k) : Sh (.list ds) (4 + k * (n + 2)) (m + 1) := by
  obtain ⟨h1, h2⟩ := show_all h
  refine ⟨by rw [PyData.showable]; exact h1, ?_, by rw [PyData.depth]; omega⟩
  rw [PyData.shown]
  refine Nat.le_trans (list_le (c := n) _ fun t ht => ?_) ?_
  · obtain ⟨d, hd, e⟩ := shown_mem ht
    rw [e]
    exact (h d hd).l
  · rw [shown_len]
    have := Nat.mul_le_mul_right (n + 2) hk
    omega
theorem Sh.int {i : Int} (h : i.natAbs < 10 ^ 30) : Sh (.int i) 40 0 := by
  refine ⟨?_, ?_, by rw [PyData.depth]; exact Nat.le_refl _⟩
  · rw [PyData.showable]
    refine decide_eq_true ?_
    by_cases h0 : i.natAbs = 0
    · rw [h0]
      decide
    · exact (Nat.log2_lt h0).mpr (Nat.lt_of_lt_of_le h (by decide +kernel))
  · rw [PyData.shown]
    show (Str.ofString (toString i)).length ≤ 40
    rw [PySem.ofString_length]
    have := int_text_length_le10 (k := 30) (by decide) h
    omega
theorem Sh.bool (b : Bool) : Sh (.bool b) 40 0 := by
  refine ⟨by rw [PyData.showable], ?_, by rw [PyData.depth]; exact Nat.le_refl _⟩
  rw [PyData.shown]
  cases b <;> decide
theorem Sh.none : Sh .none 40 0 := by
  refine ⟨by rw [PyData.showable], ?_, by rw [PyData.depth]; exact Nat.le_refl _⟩
  rw [PyData.shown]
  decide
theorem Sh.road {p : Int} {q : Road} (h : RoadOk p q) (hp : p ≤ 10) : Sh (dRoad q) 172 1 := by
  refine (Sh.tuple (n := 40) (m := 0) (k := 4) (fun d hd => ?_) (Nat.le_refl _)).mono (by decide) (Nat.le_refl _)
  have big : ∀ i : Int, 0 ≤ i → i ≤ 99 → Sh (.int i) 40 0 := fun i a b => Sh.int (Nat.lt_of_le_of_lt (show i.natAbs ≤ 99 by omega) (by decide +kernel))
  have o1 := h.o1
  have o2 := h.o2
  have t1 := h.t1
  have t2 := h.t2
  have c1 := h.c1
  simp only [List.mem_cons, List.not_mem_nil, or_false] at hd
  rcases hd with rfl | rfl | rfl | rfl
  · exact big _ h.o1 (by omega)
  · exact big _ h.t1 (by omega)
  · exact big _ (by omega) h.c2
  · exact big _ h.m1 h.m2
def dNet (p : Int) (rs : List Road) : PyData := .tuple [.int p, .tuple (rs.map dRoad)]
theorem Sh.net {p : Int} {rs : List Road} (h : NetOk p rs) : Sh (dNet p rs) 11000 3 := by
  have s1 : Sh (.tuple (rs.map dRoad)) (4 + 30 * (172 + 2)) 2 := Sh.tuple (n := 172) (m := 1) (k := 30) (fun d hd => by
    obtain ⟨q, hq, rfl⟩ := List.mem_map.mp hd
    exact Sh.road (h.all q hq) h.p2) (by rw [List.length_map]; exact h.len)
  have s2 : Sh (.int p) 40 0 := Sh.int (Nat.lt_of_le_of_lt (show p.natAbs ≤ 10 by have := h.p1; have := h.p2; omega) (by decide +kernel))
  refine (Sh.tuple (n := 4 + 30 * (172 + 2)) (m := 2) (k := 2) (fun d hd => ?_) (Nat.le_refl _)).mono (by decide) (Nat.le_refl _)
  simp only [List.mem_cons, List.not_mem_nil, or_false] at hd
  rcases hd with rfl | rfl
  · exact s2.mono (by decide) (by decide)
  · exact s1
/-! ### repr -/
inductive Dn (H : Hp) : V → PyData → Prop where
  | int (i : Int) : Dn H (.int i) (.int i)
  | tup {a : Addr} {xs : List V} {ds : List PyData} : H a = some (.tup xs) → Paired (Dn H) xs ds → Dn H (.ref a) (.tuple ds)
theorem net_reads {X : Cx} {pins : List (Addr × Obj)} {σ : L2.St} {H : Hp} {s : Shared} (I : Inv X pins σ H s) {a r : Addr} {ts : List Addr} {p : Int} {rs : List Road} (h : NetAt H a r ts p rs) : Reads s.heap (.ref a) (dNet p rs) [] := by
  obtain ⟨ea, er, et⟩ := h
  have rdInts : ∀ {ns : List Int} {us : List Value}, Vals (ns.map V.int) us → ReadsAll s.heap us (ns.map PyData.int) [] := by
    intro ns
    induction ns with
    | nil =>
      intro us r
      cases r
      exact .nil
    | cons n l ih =>
      intro us r
      cases r with
      | cons r1 r2 =>
        obtain ⟨t, rfl⟩ := r1
        exact ReadsAll.cons (as := []) (bs := []) (.int n t) (ih r2)
  have roads : ∀ {us : List Addr} {qs : List Road} {vs : List Value}, RoadsAt H us qs → Vals (us.map V.ref) vs → ReadsAll s.heap vs (qs.map dRoad) [] := by
    intro us qs vs h
    induction h generalizing vs with
    | nil =>
      intro r
      cases r
      exact .nil
    | @cons u q l l' e _ ih =>
      intro r
      cases r with
      | cons r1 r2 =>
        cases r1
        obtain ⟨its, rv, ⟨o, ho, hc, n, hd⟩, _⟩ := I.tuple (SqT.of (K := X.K) e)
        have hq : ReadsAll s.heap its [.int q.one, .int q.other, .int q.cost, .int q.time] [] := rdInts (ns := [q.one, q.other, q.cost, q.time]) rv
        exact ReadsAll.cons (as := []) (bs := []) (.tuple ho hc hd hq) (ih r2)
  obtain ⟨its, rv, ⟨o, ho, hc, n, hd⟩, _⟩ := I.tuple (SqT.of (K := X.K) ea)
  obtain ⟨its2, rv2, ⟨o2, ho2, hc2, n2, hd2⟩, _⟩ := I.tuple (SqT.of (K := X.K) er)
  refine .tuple ho hc hd ?_
  cases rv with
  | cons r1 r2 =>
    obtain ⟨t, rfl⟩ := r1
    cases r2 with
    | cons r3 r4 =>
      cases r3
      cases r4
      exact ReadsAll.cons (as := []) (bs := []) (.int p t) (ReadsAll.cons (as := []) (bs := []) (.tuple ho2 hc2 hd2 (roads et rv2)) .nil)
/-- the two dicts that the law hands in -/
inductive DictAt (H : Hp) (a : Addr) : List (PyData × PyData) → Prop where
  | nil : H a = some (.dK []) → DictAt H a []
  | one : H a = some (.dK [(Sum.inl 0, .int 1)]) → DictAt H a [(.int 0, .int 1)]
theorem dict_reads {X : Cx} {pins : List (Addr × Obj)} {σ : L2.St} {H : Hp} {s : Shared} (I : Inv X pins σ H s) {a : Addr} {kvs : List (PyData × PyData)} (h : DictAt H a kvs) : Reads s.heap (.ref a) (.dict kvs) [a] ∧ a ≠ sysModules := by
  cases h with
  | nil e =>
    obtain ⟨_, hs, vs, kv, o, es, ep, ho, hx, hd, _, hp, _⟩ := I.hok a _ e
    cases kv
    have he : es.toList = [] := by
      cases hes : es.toList with
      | nil => rfl
      | cons x l =>
        rw [hes] at hp
        cases hp
    refine ⟨?_, beq_eq_false_iff_ne.mp hs⟩
    have := Reads.dict (h := s.heap) (a := a) (es := es) (kvs := []) (as := []) (bs := []) ho hx.1 hd (by rw [he]; exact .nil) (by rw [he]; exact .nil)
    exact this
  | one e =>
    obtain ⟨_, hs, vs, kv, o, es, ep, ho, hx, hd, _, hp, _⟩ := I.hok a _ e
    cases kv with
    | @cons q0 q l1 l2 k1 k2 =>
      cases k2
      obtain ⟨ek, rv⟩ := k1
      obtain ⟨qk, qv⟩ := q
      obtain ⟨t, ev⟩ := rv
      have ek' : (Sum.inl 0 : Key) = qk := ek
      have ev' : qv = Value.int 1 t := ev
      cases hes : es.toList with
      | nil =>
        rw [hes] at hp
        cases hp
      | cons x r =>
        rw [hes] at hp
        cases hp with
        | cons h1 h2 h3 =>
          cases h3
          have h1' : keyIs qk x.key = true := h1
          rw [← ek'] at h1'
          obtain ⟨tk, hk⟩ : ∃ tk, x.key = .int 0 tk := by
            rcases keyIs_shape h1' with ⟨i, tk, e1, e2⟩ | ⟨y, tk, e1, e2⟩
            · cases e1
              exact ⟨tk, e2⟩
            · cases e1
          have hv : x.val = .int 1 t := h2.trans ev'
          refine ⟨?_, beq_eq_false_iff_ne.mp hs⟩
          have := Reads.dict (h := s.heap) (a := a) (es := es) (kvs := [(.int 0, .int 1)]) (as := []) (bs := []) ho hx.1 hd
            (by rw [hes]; show ReadsAll s.heap [x.key] [.int 0] []; rw [hk]; exact ReadsAll.cons (as := []) (bs := []) (.int 0 tk) .nil)
            (by rw [hes]; show ReadsAll s.heap [x.val] [.int 1] []; rw [hv]; exact ReadsAll.cons (as := []) (bs := []) (.int 1 t) .nil)
          exact this
/-- what repr is asked of -/
inductive Dr (K : PySem.W.Frag) (H : Hp) : V → PyData → Prop where
  | bl (b : Bool) : Dr K H (.bl b) (.bool b)
  | dp {a : Addr} {d : PyData} : Dp K H (.ref a) d → Dr K H (.ref a) d
  | dct {u a r b : Addr} {ts : List Addr} {p : Int} {rs : List Road} {kvs : List (PyData × PyData)} : H u = some (.tup [.ref a, .ref b]) → NetAt H a r ts p rs → DictAt H b kvs → Dr K H (.ref u) (.tuple [dNet p rs, .dict kvs])
def rRepr (K : PySem.W.Frag) : List V → Hp → VK → Prop := fun xs H Q => ∃ x d, xs = [x] ∧ Dr K H x d ∧ Sh d 30000 50 ∧ Q (.str d.shown) H
theorem call_reprD {X : Cx} (hg : X.A.guards = some []) (hu : X.A.units + 64 < cLine) : CallR X (.builtin "repr") (rRepr X.K) := by
  intro pins s σ H xs us Q I r h
  obtain ⟨x, d, rfl, hd, sh, q⟩ := h
  have fits : d.shown.length ≤ sizeLine := Nat.le_trans sh.l (by decide)
  have hk := sh.k
  cases r with
  | cons r1 r2 =>
    cases r2
    have go : ∀ {a : Addr} {as : List Addr}, Reads s.heap (.ref a) d as → (d.hasDict = true → sysModules ∉ as) → wpAny (model X.prog X.w) X.A (call (.builtin "repr") [.ref a]) (EP X pins σ Q) X.xe s := fun rd hs =>
      repr_of_reads' rd sh.s hs hg (by omega) (fun _ _ e => e) (fun h' u tk kept => ⟨.str d.shown, H, I.kept (t' := tk) kept, ⟨u, rfl⟩, q⟩) fits
    cases hd with
    | bl b =>
      cases r1
      refine PySem.P.repr_of_bool ⟨.str _, H, I.tok _, ⟨_, rfl⟩, ?_⟩
      rw [PyData.shown] at q
      cases b <;> exact q
    | dp hp =>
      cases r1
      obtain ⟨as, rd⟩ := Dp.reads I d _ _ hp rfl
      exact go rd (PyData.noDict_hsm (dp_plain hp))
    | dct hu' hn hb =>
      cases r1
      obtain ⟨hrd, hne⟩ := dict_reads I hb
      have hnr := net_reads I hn
      obtain ⟨its, rv, ⟨o, ho, hc, n, hdt⟩, _⟩ := I.tuple (SqT.of (K := X.K) hu')
      cases rv with
      | cons r3 r4 =>
        cases r4 with
        | cons r5 r6 =>
          cases r3
          cases r5
          cases r6
          refine go (.tuple ho hc hdt (ReadsAll.cons (as := []) hnr (ReadsAll.cons hrd .nil))) fun _ hm => ?_
          rcases List.mem_append.mp hm with z | z
          · cases z
          · rcases List.mem_append.mp z with z | z
            · exact hne (List.mem_singleton.mp z).symm
            · cases z
end Wy

namespace Wy
open PySem PySem.Spec PyProof.Rows L2
/-! ### repr of a list of great numbers -/
section
variable {prog : Program} {w : World} {A : Around} {E : Value → Shared → Prop} {s : Shared}
theorem pyReprObj_big {a : Int} {t : Tok} {Q : Value → Shared → Prop} (hu : A.units < cLine) (hn : s.heap.NoDigits) (ha : a.natAbs < 10 ^ 4300) (h : Q (.str (toString a) s.toks) { s with toks := s.toks + 1 }) : wpAny (model prog w) A (pyReprObj (.int a t)) Q E s := by
  refine wpAny_pyReprObj_slot hu (typeIs_int s a t) F.slot_int_repr.toG ?_
  refine wpAny_call (codeAny_call_builtin F.slot_int_repr.plain F.entry_int_repr (F.slot_int_repr.check _ _ _ _ _ _ _ _ (typeIs_int _ a t) (F.args_int_repr_1 _) ?_))
  unfold Builtin.«int.__repr__»
  show wpAny _ _ (do let r ← Builtin.overDigitLimit? a; _) _ _ s
  refine wpAny_bind (overDigitLimit_any hn (fun hlt => ?_) (fun hge => absurd ha (Nat.not_lt.mpr hge)))
  exact wpAny_bind (wpAny_mkStr (wpAny_pure ⟨_, _, rfl, h⟩) (int_text_fits10 hlt))
theorem reprK_big {as : List Addr} {h₀ : Heap} {d : Nat} {a : Int} {t : Tok} (hn : h₀.NoDigits) (ha : a.natAbs < 10 ^ 4300) : ReprK prog w as h₀ d (.int a t) (toString a) := fun n hb A _ E s Q _ _ hu hk hQ => by
  have hn' : n ≤ sizeLine := by omega
  rw [pyReprUnder_leaf (v := .int a t) hn' (fun _ e => nomatch e)]
  unfold pyRepr
  exact wpAny_bind (pyReprObj_big (by omega) (hn.keeps hk) ha (wpAny_pure (hQ _ _ fun _ _ e => e)))
end
def nTexts (ns : List Int) : List Str := ns.map fun n => (Str.ofString (toString n))
def rReprN (K : PySem.W.Frag) : List V → Hp → VK → Prop := fun xs H Q => ∃ (l : Addr) (ns : List Int), xs = [.ref l] ∧ SqL K H l (ns.map V.int) ∧ ns ≠ [] ∧ ns.length ≤ 100 ∧ (∀ n ∈ ns, n.natAbs < 10 ^ 4300) ∧ Q (.str (listText (nTexts ns))) H
theorem nTexts_le {ns : List Int} (hl : ns.length ≤ 100) (h : ∀ n ∈ ns, n.natAbs < 10 ^ 4300) : (listText (nTexts ns)).length ≤ sizeLine := by
  refine Nat.le_trans (list_le (c := 4302) (nTexts ns) fun t ht => ?_) ?_
  · obtain ⟨n, hn, rfl⟩ := List.mem_map.mp ht
    have := int_text_length_le10 (k := 4300) (by decide) (h n hn)
    rw [PySem.ofString_length]
    omega
  · have e : (nTexts ns).length = ns.length := List.length_map ..
    have := Nat.mul_le_mul_right (4302 + 2) hl
    rw [e, sizeLine_eq]
    omega
theorem call_reprN {X : Cx} (hd : X.base.NoDigits) (hg : X.A.guards = some []) (hu : X.A.units + 64 < cLine) : CallR X (.builtin "repr") (rReprN X.K) := by
  intro pins s σ H xs us Q I r h
  obtain ⟨l, ns, rfl, sq, ne, hl, hb, q⟩ := h
  rw [Vals.ref1 r]
  obtain ⟨its, rv, ⟨⟨cls, dd, data, sl⟩, n, ho, hc, hn, hdt⟩, _⟩ := I.list sq
  simp only at hc hdt
  subst hc hdt
  have hdg : s.heap.NoDigits := hd.keeps fun b o e => (I.env0.bs b o e).1
  have hlen := rv.length
  rw [List.length_map] at hlen
  cases its with
  | nil => exact absurd (List.length_eq_zero_iff.mp hlen) ne
  | cons y ys =>
    refine call_repr_slot (by omega) ⟨_, ho, rfl⟩ F.slot_list_repr.toG ?_
    refine call_list_reprK (h₀ := s.heap) (as := []) (d := 0) (ts := nTexts ns) ho rfl rfl (fun z => nomatch z) (by rw [nTexts, List.length_map, List.size_toArray]; exact hlen) (fun i v hv => ?_) hg (fun b _ => Clear.nil b) (by show X.A.units + 1 + (0 + 1) < cLine; omega) (fun _ _ e => e) (fun h' u tk kept => ⟨_, _, rfl, .str _, H, I.kept (t' := tk) kept, ⟨u, rfl⟩, q⟩) (nTexts_le hl hb)
    have hv : (y :: ys)[i]? = some v := by simpa using hv
    have hi : i < ns.length := by
      rw [hlen]
      exact (List.getElem?_eq_some_iff.mp hv).1
    obtain ⟨u, e1, rel⟩ := rv.get (i := i) (x := .int ns[i]) (by rw [List.getElem?_map, List.getElem?_eq_getElem hi]; rfl)
    rw [hv] at e1
    cases e1
    obtain ⟨tk, rfl⟩ := rel
    refine ⟨_, ?_, reprK_big hdg (hb _ (List.getElem_mem hi))⟩
    unfold nTexts
    rw [List.getElem?_map, List.getElem?_eq_getElem hi]
    rfl
end Wy

namespace Wy
open PySem PySem.Spec PyProof.Rows L2
/-! ### how many walks -/
def S {α : Type} (l : List α) (f : α → Int) : Int := (l.map f).sum
theorem S_nil {α : Type} (f : α → Int) : S [] f = 0 := rfl
theorem S_cons {α : Type} (x : α) (l : List α) (f : α → Int) : S (x :: l) f = f x + S l f := by
  unfold S
  rw [List.map_cons, List.sum_cons]
theorem S_congr {α : Type} {l : List α} {f g : α → Int} (h : ∀ x ∈ l, f x = g x) : S l f = S l g := by
  unfold S
  rw [List.map_congr_left h]
theorem S_add {α : Type} (l : List α) (f g : α → Int) : S l (fun x => f x + g x) = S l f + S l g := by
  induction l with
  | nil => rfl
  | cons x l ih =>
    rw [S_cons, S_cons, S_cons, ih]
    omega
theorem S_zero {α : Type} (l : List α) : S l (fun _ => 0) = 0 := by
  induction l with
  | nil => rfl
  | cons x l ih =>
    rw [S_cons, ih]
    rfl
theorem S_swap {α β : Type} (l : List α) (m : List β) (f : α → β → Int) : S l (fun x => S m (f x)) = S m (fun y => S l fun x => f x y) := by
  induction l with
  | nil =>
    show (0 : Int) = S m fun _ => 0
    rw [S_zero]
  | cons x l ih =>
    rw [S_cons, ih, ← S_add]
    exact S_congr fun y _ => by rw [S_cons]
theorem S_append {α : Type} (l m : List α) (f : α → Int) : S (l ++ m) f = S l f + S m f := by
  induction l with
  | nil =>
    rw [List.nil_append, S_nil]
    omega
  | cons x l ih =>
    rw [List.cons_append, S_cons, S_cons, ih]
    omega
theorem S_reverse {α : Type} (l : List α) (f : α → Int) : S l.reverse f = S l f := by
  induction l with
  | nil => rfl
  | cons x l ih =>
    rw [List.reverse_cons, S_append, ih, S_cons, S_cons, S_nil]
    omega
theorem S_map {α β : Type} (l : List α) (h : α → β) (f : β → Int) : S (l.map h) f = S l fun x => f (h x) := by
  unfold S
  rw [List.map_map]
  rfl
theorem S_ite {α : Type} (l : List α) (P : Prop) [Decidable P] (x : Int) (f : α → Int) : (if P then x + S l f else 0) = (if P then x else 0) + S l (fun r => if P then f r else 0) := by
  by_cases h : P
  · simp only [if_pos h]
  · simp only [if_neg h]
    rw [S_zero]
    rfl
/-- this road goes on from a place, with so much left -/
def On (q : Road) (a : Int) (c : Nat) : Prop := q.one = a ∧ 1 ≤ q.cost ∧ q.cost ≤ (c : Int)
instance (q : Road) (a : Int) (c : Nat) : Decidable (On q a c) := inferInstanceAs (Decidable (_ ∧ _ ∧ _))
theorem On.lt {q : Road} {a : Int} {c : Nat} (h : On q a c) : c - q.cost.toNat < c := by
  obtain ⟨_, h1, h2⟩ := h
  omega
def cnt (rs : List Road) (g : Int) (c : Nat) (a : Int) : Int :=
  (if c = 0 ∧ a = g then 1 else 0) + S rs fun q => if h : On q a c then cnt rs g (c - q.cost.toNat) q.other else 0
termination_by c
decreasing_by exact h.lt
theorem cnt_eq (rs : List Road) (g : Int) (c : Nat) (a : Int) : cnt rs g c a = (if c = 0 ∧ a = g then 1 else 0) + S rs fun q => if On q a c then cnt rs g (c - q.cost.toNat) q.other else 0 := by
  rw [cnt]
  rfl
def Road.rev (q : Road) : Road := ⟨q.other, q.one, q.cost, q.time⟩
theorem cnt_rev (rs : List Road) : ∀ (c : Nat) (g a : Int), cnt rs g c a = cnt (rs.map Road.rev) a c g := by
  intro c
  induction c using Nat.strongRecOn with
  | ind c ih =>
    intro g a
    rw [cnt_eq, cnt_eq (rs.map Road.rev), S_map]
    have e1 : (S rs fun q => if On q a c then cnt rs g (c - q.cost.toNat) q.other else 0) = (S rs fun q => if On q a c then (if c - q.cost.toNat = 0 ∧ g = q.other then 1 else 0) else 0) + S rs fun q => S rs fun r => if On q a c then (if On r.rev g (c - q.cost.toNat) then cnt (rs.map Road.rev) q.other (c - q.cost.toNat - r.cost.toNat) r.one else 0) else 0 := by
      rw [← S_add]
      refine S_congr fun q _ => ?_
      rw [← S_ite]
      by_cases h : On q a c
      · rw [if_pos h, if_pos h, ih _ h.lt, cnt_eq, S_map]
        rfl
      · rw [if_neg h, if_neg h]
    have e2 : (S rs fun r => if On r.rev g c then cnt (rs.map Road.rev) a (c - r.rev.cost.toNat) r.rev.other else 0) = (S rs fun r => if On r.rev g c then (if c - r.cost.toNat = 0 ∧ a = r.one then 1 else 0) else 0) + S rs fun r => S rs fun q => if On r.rev g c then (if On q a (c - r.cost.toNat) then cnt (rs.map Road.rev) q.other (c - q.cost.toNat - r.cost.toNat) r.one else 0) else 0 := by
      rw [← S_add]
      refine S_congr fun r _ => ?_
      rw [← S_ite]
      by_cases h : On r.rev g c
      · have hl : c - r.cost.toNat < c := h.lt
        rw [if_pos h, if_pos h]
        show cnt (rs.map Road.rev) a (c - r.cost.toNat) r.one = _
        rw [← ih _ hl, cnt_eq]
        congr 1
        refine S_congr fun q _ => ?_
        by_cases h2 : On q a (c - r.cost.toNat)
        · rw [if_pos h2, if_pos h2, ih _ (Nat.lt_trans h2.lt hl), Nat.sub_right_comm]
        · rw [if_neg h2, if_neg h2]
      · rw [if_neg h, if_neg h]
    rw [e1, e2, S_swap]
    have e3 : (S rs fun q => if On q a c then (if c - q.cost.toNat = 0 ∧ g = q.other then 1 else 0) else 0) = S rs fun r => if On r.rev g c then (if c - r.cost.toNat = 0 ∧ a = r.one then 1 else 0) else (0 : Int) := by
      refine S_congr fun q _ => ?_
      have i1 : (On q a c ∧ (c - q.cost.toNat = 0 ∧ g = q.other)) ↔ (On q.rev g c ∧ (c - q.cost.toNat = 0 ∧ a = q.one)) := by
        unfold On Road.rev
        dsimp only
        constructor
        · rintro ⟨⟨a1, a2, a3⟩, a4, a5⟩
          exact ⟨⟨a5.symm, a2, a3⟩, a4, a1.symm⟩
        · rintro ⟨⟨a1, a2, a3⟩, a4, a5⟩
          exact ⟨⟨a5.symm, a2, a3⟩, a4, a1.symm⟩
      by_cases h : On q a c ∧ (c - q.cost.toNat = 0 ∧ g = q.other)
      · have h2 := i1.mp h
        rw [if_pos h.1, if_pos h.2, if_pos h2.1, if_pos h2.2]
      · have h2 := fun z => h (i1.mpr z)
        have z1 : (if On q a c then (if c - q.cost.toNat = 0 ∧ g = q.other then (1 : Int) else 0) else 0) = 0 := by
          by_cases k : On q a c
          · rw [if_pos k, if_neg fun z => h ⟨k, z⟩]
          · rw [if_neg k]
        have z2 : (if On q.rev g c then (if c - q.cost.toNat = 0 ∧ a = q.one then (1 : Int) else 0) else 0) = 0 := by
          by_cases k : On q.rev g c
          · rw [if_pos k, if_neg fun z => h2 ⟨k, z⟩]
          · rw [if_neg k]
        rw [z1, z2]
    have e4 : (S rs fun r => S rs fun q => if On q a c then (if On r.rev g (c - q.cost.toNat) then cnt (rs.map Road.rev) q.other (c - q.cost.toNat - r.cost.toNat) r.one else 0) else 0) = S rs fun r => S rs fun q => if On r.rev g c then (if On q a (c - r.cost.toNat) then cnt (rs.map Road.rev) q.other (c - q.cost.toNat - r.cost.toNat) r.one else 0) else 0 := by
      refine S_congr fun r _ => S_congr fun q _ => ?_
      have i1 : (On q a c ∧ On r.rev g (c - q.cost.toNat)) ↔ (On r.rev g c ∧ On q a (c - r.cost.toNat)) := by
        unfold On Road.rev
        dsimp only
        constructor
        · rintro ⟨⟨a1, a2, a3⟩, a4, a5, a6⟩
          refine ⟨⟨a4, a5, ?_⟩, a1, a2, ?_⟩ <;> omega
        · rintro ⟨⟨a1, a2, a3⟩, a4, a5, a6⟩
          refine ⟨⟨a4, a5, ?_⟩, a1, a2, ?_⟩ <;> omega
      by_cases h : On q a c ∧ On r.rev g (c - q.cost.toNat)
      · have h2 := i1.mp h
        rw [if_pos h.1, if_pos h.2, if_pos h2.1, if_pos h2.2]
      · have h2 := fun z => h (i1.mpr z)
        by_cases k : On q a c
        · rw [if_pos k, if_neg fun z => h ⟨k, z⟩]
          by_cases k2 : On r.rev g c
          · rw [if_pos k2, if_neg fun z => h2 ⟨k2, z⟩]
          · rw [if_neg k2]
        · rw [if_neg k]
          by_cases k2 : On r.rev g c
          · rw [if_pos k2, if_neg fun z => h2 ⟨k2, z⟩]
          · rw [if_neg k2]
    rw [e3, e4]
    have e5 : (if c = 0 ∧ a = g then (1 : Int) else 0) = if c = 0 ∧ g = a then 1 else 0 := by
      by_cases h : c = 0 ∧ a = g
      · rw [if_pos h, if_pos ⟨h.1, h.2.symm⟩]
      · rw [if_neg h, if_neg fun z => h ⟨z.1, z.2.symm⟩]
    rw [e5]
theorem cnt_reverse (rs : List Road) : ∀ (c : Nat) (g a : Int), cnt rs.reverse g c a = cnt rs g c a := by
  intro c
  induction c using Nat.strongRecOn with
  | ind c ih =>
    intro g a
    rw [cnt_eq, cnt_eq rs, S_reverse]
    congr 1
    refine S_congr fun q _ => ?_
    by_cases h : On q a c
    · rw [if_pos h, if_pos h, ih _ h.lt]
    · rw [if_neg h, if_neg h]
end Wy

namespace Wy
open PySem PySem.Spec PyProof.Rows L2
abbrev sEnds : Stmt := topS 20
theorem sc_sEnds : FnScope ["net", "start", "goal"] ["net", "start", "goal"] (defScope sEnds) := ⟨rfl, rfl, rfl, by decide +kernel, rfl, by decide +kernel, by decide +kernel⟩
abbrev sCostQ : Stmt := topS 25
theorem sc_sCostQ : FnScope ["thing"] ["thing"] (defScope sCostQ) := ⟨rfl, rfl, rfl, by decide +kernel, rfl, by decide +kernel, by decide +kernel⟩
abbrev sRow : Stmt := topS 27
theorem sc_sRow : FnScope ["net", "goal", "rows", "cost", "row", "one", "other", "paid", "time"] ["net", "goal", "rows"] (defScope sRow) := ⟨rfl, rfl, rfl, by decide +kernel, rfl, by decide +kernel, by decide +kernel⟩
abbrev sRows : Stmt := topS 26
theorem sc_sRows : FnScope ["net", "goal", "cost", "rows"] ["net", "goal", "cost"] (defScope sRows) := ⟨rfl, rfl, rfl, by decide +kernel, rfl, by decide +kernel, by decide +kernel⟩
abbrev sCo : Stmt := topS 23
theorem sc_sCo : FnScope ["net", "start", "goal", "cost"] ["net", "start", "goal", "cost"] (defScope sCo) := ⟨rfl, rfl, rfl, by decide +kernel, rfl, by decide +kernel, by decide +kernel⟩
abbrev sCt : Stmt := topS 24
theorem sc_sCt : FnScope ["net", "start", "goal", "cost", "row"] ["net", "start", "goal", "cost"] (defScope sCt) := ⟨rfl, rfl, rfl, by decide +kernel, rfl, by decide +kernel, by decide +kernel⟩

theorem get_list {X : Cx} : PGet X (rIxL X.K) := by
  intro pins s σ H x y v u Q I rx ry h
  obtain ⟨p, xs, i, z, rfl, rfl, hq, he, q⟩ := h
  cases rx
  obtain ⟨t, rfl⟩ := ry
  obtain ⟨its, r, pl, hz⟩ := I.list hq
  obtain ⟨j, h1, h2, h3, h4, h5⟩ := atI_get he
  obtain ⟨w, ew, rw'⟩ := r.get h2
  have hl := r.length
  have hn := line63
  have fin : EP X pins σ Q w s := ⟨z, H, I, rw', q⟩
  by_cases h0 : 0 ≤ i
  · have hj : i.toNat = j := by
      rw [seqIndex_of h0 h5] at h1
      exact Option.some.inj h1
    exact wpAny_getItem_list pl.isList h0 (by omega) (by rw [hj]; simpa using ew) fin
  · have hj : (i + (its.toArray.size : Int)).toNat = j := by
      rw [seqIndex_neg (by omega) h4] at h1
      rw [List.size_toArray, ← hl]
      exact Option.some.inj h1
    exact wpAny_getItem_list_neg pl.isList (by omega) (by rw [List.size_toArray] <;> omega) (by omega) (by rw [hj]; simpa using ew) fin
/-! ### rows -/
def rowF (p : Int) (f : Int → Int) : List V := (List.range p.toNat).map fun (a : Nat) => V.int (f (a : Int))
theorem rowF_len (p : Int) (f : Int → Int) : (rowF p f).length = p.toNat := by
  unfold rowF
  rw [List.length_map, List.length_range]
theorem rowF_get {p : Int} {f : Int → Int} {j : Nat} (h : j < p.toNat) : (rowF p f)[j]? = some (V.int (f (j : Int))) := by
  unfold rowF
  rw [List.getElem?_map, List.getElem?_range h]
  rfl
theorem rowF_at {p a : Int} {f : Int → Int} (h0 : 0 ≤ a) (h1 : a ≤ p - 1) : atI (rowF p f) a = some (V.int (f a)) := by
  obtain ⟨j, rfl⟩ := Int.eq_ofNat_of_zero_le h0
  exact atI_nat (rowF_get (by omega))
theorem rowF_ix {p a : Int} {f : Int → Int} (h0 : 0 ≤ a) (h1 : a ≤ p - 1) : ixN (rowF p f).length a = some a.toNat := by
  unfold ixN
  rw [rowF_len, if_pos h0, if_pos (by omega)]
theorem rowF_congr {p : Int} {f g : Int → Int} (h : ∀ a : Int, 0 ≤ a → a ≤ p - 1 → f a = g a) : rowF p f = rowF p g := by
  unfold rowF
  refine List.map_congr_left fun a ha => ?_
  have := List.mem_range.mp ha
  rw [h a (by omega) (by omega)]
theorem rowF_set {p a y : Int} {f : Int → Int} (h0 : 0 ≤ a) (h1 : a ≤ p - 1) : (rowF p f).set a.toNat (V.int y) = rowF p fun b => if b = a then y else f b := by
  refine List.ext_getElem? fun j => ?_
  rw [List.getElem?_set]
  by_cases hj : j < p.toNat
  · by_cases e : a.toNat = j
    · rw [if_pos e, if_pos (by rw [rowF_len]; omega), rowF_get hj, if_pos (by omega)]
    · rw [if_neg e, rowF_get hj, rowF_get hj, if_neg (by omega)]
  · have n1 : (rowF p f)[j]? = none := List.getElem?_eq_none (by rw [rowF_len]; omega)
    have n2 : (rowF p fun b => if b = a then y else f b)[j]? = none := List.getElem?_eq_none (by rw [rowF_len]; omega)
    rw [n1, n2]
    by_cases e : a.toNat = j
    · rw [if_pos e, if_neg (by rw [rowF_len]; omega)]
    · rw [if_neg e]
theorem rowF_zero (p : Int) : (List.replicate p.toNat [V.int 0]).flatten = rowF p fun _ => 0 := by
  unfold rowF
  generalize p.toNat = n
  induction n with
  | zero => rfl
  | succ n ih =>
    rw [List.replicate_succ', List.flatten_append, ih, List.range_succ, List.map_append]
    rfl
/-- the rows of each cost, so far -/
def RowsAt (H : Hp) (p : Int) (rs : List Road) (g : Int) (us : List Addr) : Prop := ∀ (c : Nat) (u : Addr), us[c]? = some u → H u = some (.lst (rowF p (cnt rs g c)))
theorem RowsAt.same {H H' : Hp} {p g : Int} {rs : List Road} {us : List Addr} (h : RowsAt H p rs g us) (s : Same H H') : RowsAt H' p rs g us := fun c u e => s _ _ (h c u e)
theorem RowsAt.snoc {H : Hp} {p g : Int} {rs : List Road} {us : List Addr} {b : Addr} (h : RowsAt H p rs g us) (e : H b = some (.lst (rowF p (cnt rs g us.length)))) : RowsAt H p rs g (us ++ [b]) := by
  intro c u hu
  by_cases hc : c < us.length
  · rw [List.getElem?_append_left hc] at hu
    exact h c u hu
  · rw [List.getElem?_append_right (by omega)] at hu
    have hc2 : c - us.length = 0 := by
      have := (List.getElem?_eq_some_iff.mp hu).1
      rw [List.length_singleton] at this
      omega
    have hc3 : c = us.length := by omega
    subst hc3
    rw [Nat.sub_self] at hu
    cases hu
    exact e
/-- what a row has behind so many roads -/
def part (rs : List Road) (g : Int) (n i : Nat) (a : Int) : Int := (if n = 0 ∧ a = g then 1 else 0) + S (rs.take i) fun q => if On q a n then cnt rs g (n - q.cost.toNat) q.other else 0
theorem part_zero (rs : List Road) (g : Int) (n : Nat) (a : Int) : part rs g n 0 a = if n = 0 ∧ a = g then 1 else 0 := by
  unfold part
  rw [List.take_zero, S_nil]
  omega
theorem part_all (rs : List Road) (g : Int) (n : Nat) (a : Int) : part rs g n rs.length a = cnt rs g n a := by
  unfold part
  rw [List.take_length, ← cnt_eq]
theorem part_next {rs : List Road} {g : Int} {n i : Nat} {q : Road} (h : rs[i]? = some q) (a : Int) : part rs g n (i + 1) a = part rs g n i a + if On q a n then cnt rs g (n - q.cost.toNat) q.other else 0 := by
  unfold part
  rw [List.take_add_one, h]
  show _ + S (rs.take i ++ [q]) _ = _
  rw [S_append, S_cons, S_nil]
  omega
section
variable {P : Program} {w : World} {K : PySem.W.Frag} {mg : Str → Option Value} {base : Heap} {f1 f2 f3 f4 f5 : Addr} {d1 d2 d3 d4 d5 : FuncData}
def spP0 : Sp := fun vs H Q _ => ∃ (x r : Addr) (ts : List Addr) (p : Int) (rs : List Road) (a : Int), vs = [.ref x, .int a] ∧ NetAt H x r ts p rs ∧ 0 ≤ a ∧ a ≤ p - 1 ∧ Q .non H
theorem ok_P0 {f : Addr} {fd : FuncData} {k : Nat} (S : Sm K mg f1 f2 f3 f4 f5 d1 d2 d3 d4 d5) (D : Df K mg "check_place" sChkP ["net", "thing"] f fd) : FnOk P w K mg base CX0 (k + 3) f fd ["net", "thing"] spP0 := by
  have G : FnOk P w K mg base CX0 (k + 2) f2 d2 ["thing", "low", "high"] spWithin := ok_within S
  refine D.F.ok scChkP (fun vs H Q E h => ?_) (fun cdv A outer s H vs Q E hr h => ?_)
  · obtain ⟨_, _, _, _, _, _, rfl, _⟩ := h
    rfl
  · obtain ⟨x, r, ts, p, rs, a, rfl, ⟨ea, _, _⟩, a0, a1, q⟩ := h
    refine ⟨_, pss_one (ps_if (pt_not (pt_val (pe_call G hr (by rfl) S.within.g S.within.F.kp S.within.b .nil pass0 (pa_cons (pv 1) (pa_cons pe_int (pa_cons (pe_op op_sub (pe_ix ix_tup (pv 0) pe_int (fun _ _ => rfl)) pe_int) pa_nil)))))) pss_never pss_nil), ?_⟩
    refine ⟨.int a, rfl, .ref x, rfl, x, _, 0, _, rfl, rfl, SqT.of ea, rfl, p, 1, rfl, rfl, .int a, "int", 0, p - 1, rfl, .int _, _, rfl, ?_⟩
    rw [isIn_of a0 a1]
    exact iteF q
def spE0 : Sp := fun vs H Q _ => ∃ (x r : Addr) (ts : List Addr) (p : Int) (rs : List Road) (a b : Int), vs = [.ref x, .int a, .int b] ∧ NetAt H x r ts p rs ∧ NetOk p rs ∧ 0 ≤ a ∧ a ≤ p - 1 ∧ 0 ≤ b ∧ b ≤ p - 1 ∧ ∀ H', Same H H' → Q .non H'
theorem ok_E0 {f fN fP : Addr} {fd dN dP : FuncData} {k : Nat} (S : Sm K mg f1 f2 f3 f4 f5 d1 d2 d3 d4 d5) (DN : Df K mg "check_net" sChkN ["thing"] fN dN) (DP : Df K mg "check_place" sChkP ["net", "thing"] fP dP)
    (D : Df K mg "check_ends" sEnds ["net", "start", "goal"] f fd) : FnOk P w K mg base CX0 (k + 6) f fd ["net", "start", "goal"] spE0 := by
  have GN : FnOk P w K mg base CX0 (k + 5) fN dN ["thing"] spChkN := ok_chkN S DN
  have GP : FnOk P w K mg base CX0 (k + 5) fP dP ["net", "thing"] spP0 := ok_P0 (k := k + 2) S DP
  refine D.F.ok sc_sEnds (fun vs H Q E h => ?_) (fun cdv A outer s H vs Q E hr h => ?_)
  · obtain ⟨_, _, _, _, _, _, _, rfl, _⟩ := h
    rfl
  · obtain ⟨x, r, ts, p, rs, a, b, rfl, hN, ok, a0, a1, b0, b1, q⟩ := h
    refine ⟨_, pss_cons (ps_expr (pe_call GN hr (by rfl) DN.g DN.F.kp DN.b .nil pass0 (pa_cons (pv 0) pa_nil)))
      (pss_cons (ps_expr (pe_call GP hr (by rfl) DP.g DP.F.kp DP.b .nil pass0 (pa_cons (pv 0) (pa_cons (pv 1) pa_nil))))
      (pss_one (ps_expr (pe_call GP hr (by rfl) DP.g DP.F.kp DP.b .nil pass0 (pa_cons (pv 0) (pa_cons (pv 2) pa_nil)))))), ?_⟩
    refine ⟨.ref x, rfl, x, r, ts, p, rs, rfl, hN, ok, fun H' sm => ?_⟩
    have hN' : NetAt H' x r ts p rs := hN.keep fun b xs h => sm _ _ h
    exact ⟨.ref x, rfl, .int a, rfl, x, r, ts, p, rs, a, rfl, hN', a0, a1, .ref x, rfl, .int b, rfl, x, r, ts, p, rs, b, rfl, hN', b0, b1, q _ sm⟩
def spC0 : Sp := fun vs H Q _ => ∃ c : Int, vs = [.int c] ∧ 0 ≤ c ∧ c ≤ 600 ∧ Q .non H
theorem ok_C0 {f : Addr} {fd : FuncData} {k : Nat} (S : Sm K mg f1 f2 f3 f4 f5 d1 d2 d3 d4 d5) (D : Df K mg "check_cost" sCostQ ["thing"] f fd) (c : ∃ t, mg "MOST_WALK_COST" = some (.int 600 t)) : FnOk P w K mg base CX0 (k + 3) f fd ["thing"] spC0 := by
  have G : FnOk P w K mg base CX0 (k + 2) f2 d2 ["thing", "low", "high"] spWithin := ok_within S
  obtain ⟨tc, c⟩ := c
  refine D.F.ok sc_sCostQ (fun vs H Q E h => ?_) (fun cdv A outer s H vs Q E hr h => ?_)
  · obtain ⟨_, rfl, _⟩ := h
    rfl
  · obtain ⟨v, rfl, v0, v1, q⟩ := h
    refine ⟨_, pss_one (ps_if (pt_not (pt_val (pe_call G hr (by rfl) S.within.g S.within.F.kp S.within.b .nil pass0 (pa_cons (pv 0) (pa_cons pe_int (pa_cons (pe_glob (v := .int 600) (by rfl) c ⟨_, rfl⟩) pa_nil)))))) pss_never pss_nil), ?_⟩
    refine ⟨.int v, rfl, .int v, "int", 0, 600, rfl, .int _, _, rfl, ?_⟩
    rw [isIn_of v0 v1]
    exact iteF q
def spRow : Sp := fun vs H Q _ => ∃ (x r R : Addr) (ts us : List Addr) (p : Int) (rs : List Road) (g : Int), vs = [.ref x, .int g, .ref R] ∧ NetAt H x r ts p rs ∧ NetOk p rs ∧ 0 ≤ g ∧ g ≤ p - 1 ∧ H R = some (.lst (us.map V.ref)) ∧ us.length ≤ 700 ∧ RowsAt H p rs g us ∧
  ∀ H' b, Same H H' → H b = none → H' b = some (.lst (rowF p (cnt rs g us.length))) → Q (.ref b) H'
theorem ok_row {f : Addr} {fd : FuncData} {k : Nat} (ml : mg "len" = none) (D : Df K mg "next_row" sRow ["net", "goal", "rows"] f fd) : FnOk P w K mg base CX0 (k + 1) f fd ["net", "goal", "rows"] spRow := by
  refine D.F.ok sc_sRow (fun vs H Q E h => ?_) (fun cdv A outer s H vs Q E hr h => ?_)
  · obtain ⟨_, _, _, _, _, _, _, _, rfl, _⟩ := h
    rfl
  · obtain ⟨x, r, R, ts, us, p, rs, g, rfl, ⟨ea, er, et⟩, ok, g0, g1, eR, hus, hrows, q⟩ := h
    refine ⟨_, pss_cons (ps_set (i := 3) sc_sRow.nd rfl (.inl rfl) (pe_callB call_len_seq (by rfl) ml PySem.boot_len (pa_cons (pv 2) pa_nil)))
      (pss_cons (ps_set (i := 4) sc_sRow.nd rfl (.inl rfl) (pe_op op_rep (pe_lst (pa_cons pe_int pa_nil)) (pe_ix ix_tup (pv 0) pe_int (fun _ _ => rfl))))
      (C8.pss_cut (ps_if (pt_cmpR op_eq (pv 3) pe_int (nomark _)) (pss_one (ps_asg pe_int (pg_sub (pv 4) (pv 1) set_list))) pss_nil)
      (pss_cons (ps_for PassesOwn.never rfl (pi_tup (pe_ix ix_tup (pv 0) pe_int (fun _ _ => rfl))) (pg_tup (by rfl) (pgs_cons (pg_name (i := 5) sc_sRow.nd rfl (.inl rfl)) (pgs_cons (pg_name (i := 6) sc_sRow.nd rfl (.inl rfl)) (pgs_cons (pg_name (i := 7) sc_sRow.nd rfl (.inl rfl)) (pgs_cons (pg_name (i := 8) sc_sRow.nd rfl (.inl rfl)) pgs_nil)))))
        (pss_one (ps_if (pt_cmpR op_le (pv 7) (pv 3) (nomark _)) (pss_one (ps_augS (pv 4) (pv 5) get_list (pe_ix ix_list (pe_ix ix_list (pv 2) (pe_op op_sub (pv 3) (pv 7)) (fun _ _ => rfl)) (pv 6) (fun _ _ => rfl)) ip_add set_list)) pss_nil)))
      (pss_one (ps_ret (pv 4)))))), ?_⟩
    have p1 := ok.p1
    have p2 := ok.p2
    refine ⟨.ref R, rfl, R, _, rfl, .inl (SqL.of eR), ?_⟩
    rw [List.length_map]
    refine ⟨by show 1 ≤ sizeLine; decide, fun l0 n0 => ?_⟩
    have s0 : Same H (upd H l0 (.lst [.int 0])) := same_new n0
    refine ⟨.ref x, rfl, x, _, 0, _, rfl, rfl, SqT.of (s0 _ _ ea), rfl, l0, p, _, rfl, rfl, upd_same, by omega, by omega, ?_, fun b nb => ?_⟩
    · rw [List.length_singleton]
      exact Nat.le_of_lt (small1000 (by omega))
    rw [rowF_zero]
    have nbH : H b = none := by
      cases e : H b with
      | none => rfl
      | some o =>
        have := s0 _ _ e
        rw [nb] at this
        cases this
    have sb : Same H (upd (upd H l0 (.lst [.int 0])) b (.lst (rowF p fun _ => 0))) := fun c o e => same_new nb _ _ (s0 _ _ e)
    refine ⟨fun σ' H' => σ' = [some (.ref x), some (.int g), some (.ref R), some (.int us.length), some (.ref b), none, none, none, none] ∧ Same H H' ∧ H' b = some (.lst (rowF p (part rs g us.length 0))), ?_, ?_⟩
    · refine ⟨.int us.length, rfl, rfl, _, rfl, ite2 (fun c => ?_) (fun c => ?_)⟩
      · have c : us.length = 0 := by
          have c' := V.int.inj (of_decide_eq_true c)
          omega
        refine ⟨.ref b, rfl, .int g, rfl, b, _, g, _, rfl, rfl, upd_same, rowF_ix g0 g1, rfl, fun c' o e => ?_, ?_⟩
        · rw [upd_ne (ne_of_none e nbH)]
          exact sb _ _ e
        · rw [upd_same, rowF_set g0 g1]
          congr 2
          refine rowF_congr fun a _ _ => ?_
          rw [part_zero]
          by_cases e : a = g
          · rw [if_pos e, if_pos ⟨c, e⟩]
          · rw [if_neg e, if_neg fun z => e z.2]
      · have c : us.length ≠ 0 := fun z => c (decide_eq_true (by rw [z]; rfl))
        refine ⟨rfl, sb, ?_⟩
        rw [upd_same]
        congr 2
        refine rowF_congr fun a _ _ => ?_
        rw [part_zero, if_neg fun z => c z.1]
    · rintro σ' H' ⟨rfl, sm, eb⟩
      refine ⟨.ref x, rfl, x, _, 1, _, rfl, rfl, SqT.of (sm _ _ ea), rfl, r, rfl, ⟨_, SqT.of (sm _ _ er)⟩, ?_⟩
      refine for_tup (xs := ts.map V.ref) (fun i σ' H' => ∃ y5 y6 y7 y8, σ' = [some (.ref x), some (.int g), some (.ref R), some (.int us.length), some (.ref b), y5, y6, y7, y8] ∧ Same H H' ∧ H' b = some (.lst (rowF p (part rs g us.length i)))) ⟨none, none, none, none, rfl, sm, eb⟩ (fun i σ' H' _ h => ?_) (fun i v σ' H' hv h => ?_) (fun σ' H' h => ?_)
      · obtain ⟨_, _, _, _, _, sm, _⟩ := h
        exact SqT.of (sm _ _ er)
      · obtain ⟨y5, y6, y7, y8, rfl, sm, eb⟩ := h
        rw [List.getElem?_map] at hv
        obtain ⟨t, e1, rfl⟩ := Option.map_eq_some_iff.mp hv
        obtain ⟨rd, e2, e3⟩ := et.get e1
        have o := ok.all rd (List.mem_of_getElem? e2)
        refine ⟨t, _, rfl, SqT.of (sm _ _ e3), rfl, .int rd.one, _, rfl, .int rd.other, _, rfl, .int rd.cost, _, rfl, .int rd.time, _, rfl, rfl, ?_⟩
        refine ⟨.int rd.cost, rfl, .int us.length, rfl, _, _, rfl, rfl, _, rfl, ite2 (fun c => ?_) (fun c => ?_)⟩
        · have c : rd.cost ≤ (us.length : Int) := of_decide_eq_true c
          have o1 := o.c1
          have hlt : us.length - rd.cost.toNat < us.length := by omega
          have eu := List.getElem?_eq_getElem hlt
          have ei : ((us.length : Int) - rd.cost) = ((us.length - rd.cost.toNat : Nat) : Int) := by omega
          refine ⟨.ref b, rfl, .int rd.one, rfl, b, _, rd.one, _, rfl, rfl, SqL.of eb, rowF_at o.o1 o.o2, ?_⟩
          refine ⟨.ref R, rfl, .int us.length, rfl, .int rd.cost, rfl, _, _, rfl, rfl, R, _, _, .ref us[us.length - rd.cost.toNat], rfl, rfl, SqL.of (sm _ _ eR), ?_, ?_⟩
          · rw [ei]
            exact atI_nat (ref_at eu)
          refine ⟨.int rd.other, rfl, _, _, rd.other, _, rfl, rfl, SqL.of (sm _ _ (hrows _ _ eu)), rowF_at o.t1 o.t2, _, _, rfl, rfl, b, _, rd.one, _, rfl, rfl, eb, rowF_ix o.o1 o.o2, ?_⟩
          refine ⟨_, _, _, _, rfl, fun c' o' e => ?_, ?_⟩
          · rw [upd_ne (ne_of_none e nbH)]
            exact sm _ _ e
          · rw [upd_same, rowF_set o.o1 o.o2]
            congr 2
            refine rowF_congr fun a _ _ => ?_
            rw [part_next e2]
            by_cases e : a = rd.one
            · rw [if_pos e, e, if_pos ⟨rfl, o1, c⟩]
            · rw [if_neg e, if_neg fun z => e z.1.symm, Int.add_zero]
        · have c : ¬ rd.cost ≤ (us.length : Int) := fun z => c (decide_eq_true z)
          refine ⟨_, _, _, _, rfl, sm, ?_⟩
          rw [eb]
          congr 2
          refine rowF_congr fun a _ _ => ?_
          rw [part_next e2, if_neg fun z => c z.2.2, Int.add_zero]
      · obtain ⟨y5, y6, y7, y8, rfl, sm, eb⟩ := h
        refine ⟨.ref b, rfl, q _ b sm nbH ?_⟩
        rw [eb, List.length_map, et.len]
        congr 2
        exact rowF_congr fun a _ _ => part_all rs g us.length a
def spRows : Sp := fun vs H Q _ => ∃ (x r : Addr) (ts : List Addr) (p : Int) (rs : List Road) (g : Int) (c : Nat), vs = [.ref x, .int g, .int (c : Int)] ∧ NetAt H x r ts p rs ∧ NetOk p rs ∧ 0 ≤ g ∧ g ≤ p - 1 ∧ c ≤ 600 ∧
  ∀ H' R us, Same H H' → H' R = some (.lst (us.map V.ref)) → us.length = c + 1 → RowsAt H' p rs g us → Q (.ref R) H'
theorem ok_rows {f fR : Addr} {fd dR : FuncData} {k : Nat} (ml : mg "len" = none) (DR : Df K mg "next_row" sRow ["net", "goal", "rows"] fR dR) (D : Df K mg "rows_up_to" sRows ["net", "goal", "cost"] f fd) : FnOk P w K mg base CX0 (k + 2) f fd ["net", "goal", "cost"] spRows := by
  have G : FnOk P w K mg base CX0 (k + 1) fR dR ["net", "goal", "rows"] spRow := ok_row ml DR
  refine D.F.ok sc_sRows (fun vs H Q E h => ?_) (fun cdv A outer s H vs Q E hr h => ?_)
  · obtain ⟨_, _, _, _, _, _, _, rfl, _⟩ := h
    rfl
  · obtain ⟨x, r, ts, p, rs, g, c, rfl, hN, ok, g0, g1, hc, q⟩ := h
    refine ⟨_, pss_cons (ps_set (i := 3) sc_sRows.nd rfl (.inl rfl) (pe_lst pa_nil))
      (pss_cons (ps_while PassesOwn.never (pt_cmpR op_le (pe_callB call_len_seq (by rfl) ml PySem.boot_len (pa_cons (pv 3) pa_nil)) (pv 2) (nomark _))
        (pss_one (ps_expr (pe_bm PySem.F.plainAttrs_list PySem.F.slot_list_append PySem.F.type_list_append mt_append (pv 3) (pa_cons (pe_call G hr (by rfl) DR.g DR.F.kp DR.b .nil pass0 (pa_cons (pv 0) (pa_cons (pv 1) (pa_cons (pv 3) pa_nil)))) pa_nil)))))
      (pss_one (ps_ret (pv 3)))), ?_⟩
    refine ⟨Nat.zero_le _, fun R nR => ?_⟩
    refine ⟨fun m σ' H' => ∃ us, σ' = [some (.ref x), some (.int g), some (.int c), some (.ref R)] ∧ Same H H' ∧ H' R = some (.lst (us.map V.ref)) ∧ us.length + m = c + 1 ∧ RowsAt H' p rs g us, ⟨c + 1, [], rfl, same_new nR, upd_same, by simp, fun _ _ e => by simp at e⟩, ?_⟩
    rintro m σ' H' ⟨us, rfl, sm, eR, hm, hrows⟩
    refine ⟨.ref R, rfl, R, _, rfl, .inl (SqL.of eR), .int c, rfl, _, _, rfl, rfl, _, rfl, ?_⟩
    rw [List.length_map]
    refine ite2 (fun hle => ?_) (fun hle => ?_)
    · have hle : (us.length : Int) ≤ (c : Int) := of_decide_eq_true hle
      have hN' : NetAt H' x r ts p rs := hN.keep fun b xs h => sm _ _ h
      refine ⟨fun σ2 H2 => ∃ us, σ2 = [some (.ref x), some (.int g), some (.int c), some (.ref R)] ∧ Same H H2 ∧ H2 R = some (.lst (us.map V.ref)) ∧ us.length + (m - 1) = c + 1 ∧ RowsAt H2 p rs g us, fun σ2 H2 h => ⟨m - 1, by omega, h⟩, ?_⟩
      refine ⟨.ref R, rfl, .inl ⟨rfl, _, SqL.of eR⟩, .ref x, rfl, .int g, rfl, .ref R, rfl, x, r, R, ts, us, p, rs, g, rfl, hN', ok, g0, g1, eR, by omega, hrows, fun H2 b s2 nb eb => ?_⟩
      have ll : (us.map V.ref).length < sizeLine := by
        rw [List.length_map]
        exact small1000 (by omega)
      have bR : b ≠ R := (ne_of_none eR nb).symm
      refine ⟨R, _, _, rfl, rfl, s2 _ _ eR, ll, us ++ [b], rfl, fun c' o e => ?_, ?_, by simp; omega, ?_⟩
      · rw [upd_ne (ne_of_none e nR)]
        exact s2 _ _ (sm _ _ e)
      · rw [upd_same, List.map_append]
        rfl
      · refine RowsAt.snoc (fun c' u e => ?_) ?_
        · have h1 := s2 _ _ (hrows c' u e)
          rw [upd_ne fun z => ?_]
          · exact h1
          · subst z
            rw [s2 _ _ eR] at h1
            have h2 := HO.lst.inj (Option.some.inj h1)
            have h3 := rowF_get (f := cnt rs g c') (j := 0) (p := p) (by have := ok.p1; omega)
            rw [← h2, List.getElem?_map] at h3
            cases e0 : us[0]? with
            | none =>
              rw [e0] at h3
              cases h3
            | some y =>
              rw [e0] at h3
              cases h3
        · rw [upd_ne bR]
          exact eb
    · have hle : ¬ (us.length : Int) ≤ (c : Int) := fun z => hle (decide_eq_true z)
      exact ⟨.ref R, rfl, q _ R us sm eR (by omega) hrows⟩
end
end Wy

namespace Wy
open PySem PySem.Spec PyProof.Rows L2

theorem ix_listK {X : Cx} {K : PySem.W.Frag} (h : X.K = K) : IxR X (rIxL K) := by
  subst h
  exact ix_list
def cntTo (rs : List Road) (g : Int) (c : Nat) (a : Int) : Int := S (List.range (c + 1)) fun d => cnt rs g d a
theorem at_last {us : List Addr} {c : Nat} (h : us.length = c + 1) : ∃ u, us[c]? = some u ∧ atI (us.map V.ref) (-1) = some (.ref u) := by
  have hc : c < us.length := by omega
  refine ⟨us[c], List.getElem?_eq_getElem hc, ?_⟩
  unfold atI ixN
  rw [List.length_map, if_neg (by decide), if_pos (by omega)]
  have e : (-1 + (us.length : Int)).toNat = c := by omega
  rw [e]
  exact ref_at (List.getElem?_eq_getElem hc)
section
variable {P : Program} {w : World} {K : PySem.W.Frag} {mg : Str → Option Value} {base : Heap} {f1 f2 f3 f4 f5 : Addr} {d1 d2 d3 d4 d5 : FuncData}
/-- the program's counts, as they stand in the text -/
structure Ct (K : PySem.W.Frag) (mg : Str → Option Value) (fN fP fE fQ fR fRs : Addr) (dN dP dE dQ dR dRs : FuncData) : Prop where
  N : Df K mg "check_net" sChkN ["thing"] fN dN
  P : Df K mg "check_place" sChkP ["net", "thing"] fP dP
  E : Df K mg "check_ends" sEnds ["net", "start", "goal"] fE dE
  Q : Df K mg "check_cost" sCostQ ["thing"] fQ dQ
  R : Df K mg "next_row" sRow ["net", "goal", "rows"] fR dR
  Rs : Df K mg "rows_up_to" sRows ["net", "goal", "cost"] fRs dRs
  c : ∃ t, mg "MOST_WALK_COST" = some (.int 600 t)
def spCount (F : List Road → Int → Nat → Int → Int) : Sp := fun vs H Q _ => ∃ (x r : Addr) (ts : List Addr) (p : Int) (rs : List Road) (a g : Int) (c : Nat), vs = [.ref x, .int a, .int g, .int (c : Int)] ∧ NetAt H x r ts p rs ∧ NetOk p rs ∧ 0 ≤ a ∧ a ≤ p - 1 ∧ 0 ≤ g ∧ g ≤ p - 1 ∧ c ≤ 600 ∧ ∀ H', Same H H' → Q (.int (F rs g c a)) H'
variable {fN fP fE fQ fR fRs : Addr} {dN dP dE dQ dR dRs : FuncData}
theorem ok_co {f : Addr} {fd : FuncData} {k : Nat} (S : Sm K mg f1 f2 f3 f4 f5 d1 d2 d3 d4 d5) (T : Ct K mg fN fP fE fQ fR fRs dN dP dE dQ dR dRs) (D : Df K mg "count_of" sCo ["net", "start", "goal", "cost"] f fd) : FnOk P w K mg base CX0 (k + 7) f fd ["net", "start", "goal", "cost"] (spCount cnt) := by
  have GE : FnOk P w K mg base CX0 (k + 6) fE dE ["net", "start", "goal"] spE0 := ok_E0 S T.N T.P T.E
  have GQ : FnOk P w K mg base CX0 (k + 6) fQ dQ ["thing"] spC0 := ok_C0 (k := k + 3) S T.Q T.c
  have GR : FnOk P w K mg base CX0 (k + 6) fRs dRs ["net", "goal", "cost"] spRows := ok_rows (k := k + 4) S.ml T.R T.Rs
  refine D.F.ok sc_sCo (fun vs H Q E h => ?_) (fun cdv A outer s H vs Q E hr h => ?_)
  · obtain ⟨_, _, _, _, _, _, _, _, rfl, _⟩ := h
    rfl
  · obtain ⟨x, r, ts, p, rs, a, g, c, rfl, hN, ok, a0, a1, g0, g1, hc, q⟩ := h
    refine ⟨_, pss_cons (ps_expr (pe_call GE hr (by rfl) T.E.g T.E.F.kp T.E.b .nil pass0 (pa_cons (pv 0) (pa_cons (pv 1) (pa_cons (pv 2) pa_nil)))))
      (pss_cons (ps_expr (pe_call GQ hr (by rfl) T.Q.g T.Q.F.kp T.Q.b .nil pass0 (pa_cons (pv 3) pa_nil)))
      (pss_one (ps_ret (pe_ix ix_list (pe_ix ix_list (pe_call GR hr (by rfl) T.Rs.g T.Rs.F.kp T.Rs.b .nil pass0 (pa_cons (pv 0) (pa_cons (pv 2) (pa_cons (pv 3) pa_nil)))) (pe_un un_neg pe_int) (fun _ _ => rfl)) (pv 1) (fun _ _ => rfl))))), ?_⟩
    refine ⟨.ref x, rfl, .int a, rfl, .int g, rfl, x, r, ts, p, rs, a, g, rfl, hN, ok, a0, a1, g0, g1, fun H1 s1 => ?_⟩
    refine ⟨.int c, rfl, c, rfl, by omega, by omega, ?_⟩
    refine ⟨.ref x, rfl, .int g, rfl, .int c, rfl, x, r, ts, p, rs, g, c, rfl, hN.keep fun b xs h => s1 _ _ h, ok, g0, g1, hc, fun H2 R us s2 eR hl hrows => ?_⟩
    obtain ⟨u, eu, ea⟩ := at_last hl
    exact ⟨1, rfl, R, _, _, .ref u, rfl, rfl, SqL.of eR, ea, .int a, rfl, u, _, a, _, rfl, rfl, SqL.of (hrows c u eu), rowF_at a0 a1, q _ (s1.trans s2)⟩
theorem ok_ct {f : Addr} {fd : FuncData} {k : Nat} (S : Sm K mg f1 f2 f3 f4 f5 d1 d2 d3 d4 d5) (T : Ct K mg fN fP fE fQ fR fRs dN dP dE dQ dR dRs) (D : Df K mg "count_to" sCt ["net", "start", "goal", "cost"] f fd) : FnOk P w K mg base CX0 (k + 7) f fd ["net", "start", "goal", "cost"] (spCount cntTo) := by
  have GE : FnOk P w K mg base CX0 (k + 6) fE dE ["net", "start", "goal"] spE0 := ok_E0 S T.N T.P T.E
  have GQ : FnOk P w K mg base CX0 (k + 6) fQ dQ ["thing"] spC0 := ok_C0 (k := k + 3) S T.Q T.c
  have GR : FnOk P w K mg base CX0 (k + 6) fRs dRs ["net", "goal", "cost"] spRows := ok_rows (k := k + 4) S.ml T.R T.Rs
  refine D.F.ok sc_sCt (fun vs H Q E h => ?_) (fun cdv A outer s H vs Q E hr h => ?_)
  · obtain ⟨_, _, _, _, _, _, _, _, rfl, _⟩ := h
    rfl
  · obtain ⟨x, r, ts, p, rs, a, g, c, rfl, hN, ok, a0, a1, g0, g1, hc, q⟩ := h
    refine ⟨_, pss_cons (ps_expr (pe_call GE hr (by rfl) T.E.g T.E.F.kp T.E.b .nil pass0 (pa_cons (pv 0) (pa_cons (pv 1) (pa_cons (pv 2) pa_nil)))))
      (pss_cons (ps_expr (pe_call GQ hr (by rfl) T.Q.g T.Q.F.kp T.Q.b .nil pass0 (pa_cons (pv 3) pa_nil)))
      (pss_one (ps_ret (pe_callB (cr_sum rfl) (by rfl) S.mS (by decide +kernel) (pa_cons
        (pe_lc (own := [("row", 4)]) (g := gName 4) (tt := tYes) rfl sc_sCt.nd (pi_list (pe_call GR hr (by rfl) T.Rs.g T.Rs.F.kp T.Rs.b .nil pass0 (pa_cons (pv 0) (pa_cons (pv 2) (pa_cons (pv 3) pa_nil))))) (blkOk_by (N := ["net", "start", "goal", "cost", "row"]) (sc := defScope sCt) (by decide +kernel))
          (fun _ _ _ _ _ => pg_name (i := 4) sc_sCt.nd rfl (.inl rfl)) (fun _ _ _ _ _ => pts_nil)
          (fun _ _ _ _ _ => pe_ix (ix_listK (K := K) rfl) (pv 4) (pv 1) (fun _ _ => rfl))) pa_nil))))), ?_⟩
    refine ⟨.ref x, rfl, .int a, rfl, .int g, rfl, x, r, ts, p, rs, a, g, rfl, hN, ok, a0, a1, g0, g1, fun H1 s1 => ?_⟩
    refine ⟨.int c, rfl, c, rfl, by omega, by omega, ?_⟩
    refine ⟨.ref x, rfl, .int g, rfl, .int c, rfl, x, r, ts, p, rs, g, c, rfl, hN.keep fun b xs h => s1 _ _ h, ok, g0, g1, hc, fun H2 R us s2 eR hl hrows => ?_⟩
    refine ⟨R, rfl, ⟨_, SqL.of eR⟩, fun D nD => ?_⟩
    refine lc_list (xs := us.map V.ref) (fun i H' => Same H2 H' ∧ H' D = some (.lst (((List.range i).map fun d => cnt rs g d a).map V.int))) ⟨same_new nD, upd_same⟩ (fun i H' _ h => SqL.of (h.1 _ _ eR)) (fun i y H' hy h => ?_) (fun H' h => ?_)
    · obtain ⟨sm, eD⟩ := h
      rw [List.getElem?_map] at hy
      obtain ⟨u, e1, rfl⟩ := Option.map_eq_some_iff.mp hy
      have hi := (List.getElem?_eq_some_iff.mp e1).1
      refine ⟨rfl, ?_⟩
      unfold tYes
      dsimp only
      rw [if_pos rfl]
      refine ⟨.ref u, rfl, .int a, rfl, u, _, a, _, rfl, rfl, SqL.of (sm _ _ (hrows i u e1)), rowF_at a0 a1, _, eD, ?_, Same.upd_lst sm nD, ?_⟩
      · rw [List.length_map, List.length_map, List.length_range]
        exact small1000 (by omega)
      · rw [upd_same, List.range_succ, List.map_append, List.map_append]
        rfl
    · obtain ⟨sm, eD⟩ := h
      rw [List.length_map, hl] at eD
      exact ⟨D, _, rfl, SqL.of eD, q _ ((s1.trans s2).trans sm)⟩
end
end Wy

namespace Wy
open PySem PySem.Spec PyProof.Rows L2
def tCutE (t : TE) : TE := fun σ H Q => ∃ R : VK, t σ H R ∧ ∀ v H', R v H' → Q v H'
theorem pe_cut {X : Cx} {e : Expr} {t : TE} (h : PE X e t) : PE X e (tCutE t) := ⟨fun pins s σ H Q I hq => by
  obtain ⟨R, h1, h2⟩ := hq
  exact thn (h.run pins s σ H R I h1) fun u s1 ⟨v, G, J, r, q⟩ => ⟨v, G, J, r, h2 _ _ q⟩⟩
theorem other_ok {a b p : Int} (a0 : 0 ≤ a) (a1 : a < p) (b0 : 0 ≤ b) (b1 : b < p - 1) : 0 ≤ (a + 1 + b) % p ∧ (a + 1 + b) % p ≤ p - 1 ∧ a ≠ (a + 1 + b) % p := by
  by_cases h : a + 1 + b < p
  · rw [Int.emod_eq_of_lt (by omega) h]
    omega
  · have e : a + 1 + b = (a + 1 + b - p) + p := by omega
    rw [e, Int.add_emod_right, Int.emod_eq_of_lt (by omega) (by omega)]
    omega
/-- a number from lo to hi, drawn -/
def Got (z : Addr) (lo hi : Int) (H : Hp) : VK := fun v H' => ∃ a : Int, v = .int a ∧ lo ≤ a ∧ a ≤ hi ∧ Keep z H H' ∧ StOk H' z
def PvNet (z l : Addr) (m R p : Int) (H : Hp) (i : Nat) (σ : L2.St) (H' : Hp) : Prop :=
  ∃ y5 y6 y7 y8 y9 ts rs, σ = [some (.ref z), some (.int m), some (.int R), some (.int p), some (.ref l), y5, y6, y7, y8, y9] ∧ Keep z H H' ∧ StOk H' z ∧ H' l = some (.lst (ts.map V.ref)) ∧ RoadsAt H' ts rs ∧ rs.length = i ∧ ∀ q ∈ rs, RoadOk p q
section
variable {P : Program} {w : World} {K : PySem.W.Frag} {mg : Str → Option Value} {base : Heap}
theorem scNet : FnScope ["_law_state_here", "_law_most", "_law_far", "_law_places", "_law_roads", "_law_turn", "_law_one", "_law_other", "_law_cost", "_law_time"] ["_law_state_here", "_law_most", "_law_far"] (defScope sNet) := ⟨rfl, rfl, rfl, by decide +kernel, rfl, by decide +kernel, by decide +kernel⟩
def spNet : Sp := fun vs H Q _ => ∃ (z : Addr) (m R : Int), vs = [.ref z, .int m, .int R] ∧ StOk H z ∧ 0 < m ∧ m ≤ 10 ∧ 0 ≤ R ∧ R ≤ 30 ∧
  ∀ H' a r ts p rs, Keep z H H' → StOk H' z → NetAt H' a r ts p rs → NetOk p rs → p ≤ m → (rs.length : Int) ≤ R → Q (.ref a) H'
theorem ok_net {f fK : Addr} {fd dK : FuncData} {k : Nat} (DK : Df K mg "_law_take" sTake ["_law_state_here", "_law_far"] fK dK) (mR : mg "range" = none) (mT : mg "tuple" = none) (mI : mg "int" = none) (mm : mg "min" = none)
    (D : Df K mg "_law_net" sNet ["_law_state_here", "_law_most", "_law_far"] f fd) : FnOk P w K mg base CX0 (k + 2) f fd ["_law_state_here", "_law_most", "_law_far"] spNet := by
  have GK : FnOk P w K mg base CX0 (k + 1) fK dK ["_law_state_here", "_law_far"] spTake := ok_take DK
  refine D.F.ok scNet (fun vs H Q E h => ?_) (fun cdv A outer s H vs Q E hr h => ?_)
  · obtain ⟨_, _, _, rfl, _⟩ := h
    rfl
  · obtain ⟨z, m, R, rfl, st, hm0, hm1, hR0, hR1, q⟩ := h
    refine ⟨_, (pss_cons (ps_par (i := 3) (j := 4) (by rfl) scNet.nd rfl rfl (by decide) rfl rfl (pa_cons (pe_op op_add pe_int (pe_call GK hr (by rfl) DK.g DK.F.kp DK.b .nil pass0 (pa_cons (pv 0) (pa_cons (pv 1) pa_nil)))) (pa_cons (pe_lst pa_nil) pa_nil)) (by rfl))
    (pss_cons (ps_for PassesOwn.never rfl (pi_range1 (by rfl) mR (pa_cons (pe_cut (pe_op op_mul (pe_call GK hr (by rfl) DK.g DK.F.kp DK.b .nil pass0 (pa_cons (pv 0) (pa_cons (pe_op op_add (pv 2) pe_int) pa_nil))) (pe_callTy call_int1 (by rfl) mI (by decide +kernel) (pa_cons (pe_cmpR op_gt (pv 3) pe_int (nomark _)) pa_nil)))) pa_nil)) (pg_name (i := 5) scNet.nd rfl (.inl rfl))
    (pss_cons (ps_set (i := 6) scNet.nd rfl (.inl rfl) (pe_cut (pe_ix ix_list (pe_lst (pa_cons (pe_call GK hr (by rfl) DK.g DK.F.kp DK.b .nil pass0 (pa_cons (pv 0) (pa_cons (pv 3) pa_nil))) (pa_cons (pe_callB (call_min2 rfl) (by rfl) mm (by decide +kernel) (pa_cons (pv 5) (pa_cons (pe_op op_sub (pv 3) pe_int) pa_nil))) pa_nil))) (pe_call GK hr (by rfl) DK.g DK.F.kp DK.b .nil pass0 (pa_cons (pv 0) (pa_cons pe_int pa_nil))) (fun _ _ => rfl))))
    (pss_cons (ps_set (i := 7) scNet.nd rfl (.inl rfl) (pe_cut (pe_op op_mod (pe_op op_add (pe_op op_add (pv 6) pe_int) (pe_ix ix_list (pe_lst (pa_cons pe_int (pa_cons (pe_call GK hr (by rfl) DK.g DK.F.kp DK.b .nil pass0 (pa_cons (pv 0) (pa_cons (pe_op op_sub (pv 3) pe_int) pa_nil))) pa_nil))) (pe_call GK hr (by rfl) DK.g DK.F.kp DK.b .nil pass0 (pa_cons (pv 0) (pa_cons pe_int pa_nil))) (fun _ _ => rfl))) (pv 3))))
    (pss_cons (ps_set (i := 8) scNet.nd rfl (.inl rfl) (pe_cut (pe_ix ix_list (pe_lst (pa_cons (pe_op op_add pe_int (pe_call GK hr (by rfl) DK.g DK.F.kp DK.b .nil pass0 (pa_cons (pv 0) (pa_cons pe_int pa_nil)))) (pa_cons (pe_op op_add pe_int (pe_call GK hr (by rfl) DK.g DK.F.kp DK.b .nil pass0 (pa_cons (pv 0) (pa_cons pe_int pa_nil)))) (pa_cons pe_int pa_nil)))) (pe_call GK hr (by rfl) DK.g DK.F.kp DK.b .nil pass0 (pa_cons (pv 0) (pa_cons pe_int pa_nil))) (fun _ _ => rfl))))
    (pss_cons (ps_set (i := 9) scNet.nd rfl (.inl rfl) (pe_cut (pe_ix ix_list (pe_lst (pa_cons (pe_call GK hr (by rfl) DK.g DK.F.kp DK.b .nil pass0 (pa_cons (pv 0) (pa_cons pe_int pa_nil))) (pa_cons (pe_call GK hr (by rfl) DK.g DK.F.kp DK.b .nil pass0 (pa_cons (pv 0) (pa_cons pe_int pa_nil))) (pa_cons pe_int pa_nil)))) (pe_call GK hr (by rfl) DK.g DK.F.kp DK.b .nil pass0 (pa_cons (pv 0) (pa_cons pe_int pa_nil))) (fun _ _ => rfl))))
    (pss_one (ps_expr (pe_bm PySem.F.plainAttrs_list PySem.F.slot_list_append PySem.F.type_list_append mt_append (pv 4) (pa_cons (pe_tup (pa_cons (pv 6) (pa_cons (pv 7) (pa_cons (pv 8) (pa_cons (pv 9) pa_nil))))) pa_nil)))))))))
    (pss_one (ps_ret (pe_tup (pa_cons (pv 3) (pa_cons (pe_callTy call_tuple_of (by rfl) mT (by decide +kernel) (pa_cons (pv 4) pa_nil)) pa_nil))))))), ?_⟩
    -- places, roads
    refine ⟨.ref z, rfl, .int m, rfl, z, m, rfl, st, hm0, by omega, fun H1 n k1 st1 n0 n1 => ⟨1, n, rfl, rfl, Nat.zero_le _, fun l nl => ⟨_, _, rfl, ?_⟩⟩⟩
    have lz : l ≠ z := (st1.ne nl).symm
    have s2 : Same H1 (upd H1 l (.lst [])) := same_new nl
    have k2 : Keep z H (upd H1 l (.lst [])) := k1.trans (.of s2)
    -- range
    refine ⟨fun v H' => ∃ c : Int, v = .int c ∧ 0 ≤ c ∧ c ≤ R ∧ (1 < 1 + n ∨ c = 0) ∧ Keep z H H' ∧ StOk H' z ∧ H' l = some (.lst []), ?_, fun v H' hR => ?_⟩
    · refine ⟨.ref z, rfl, .int R, rfl, R, 1, rfl, rfl, z, _, rfl, st1.same s2, by omega, by omega, fun H3 c k3 st3 c0 c1 => ⟨.int (1 + n), rfl, _, _, rfl, rfl, .inr ⟨_, rfl, c, _, rfl, rfl, .inr ⟨by split <;> decide, by split <;> decide⟩, ?_⟩⟩⟩
      have el : H3 l = some (.lst []) := k3 _ _ upd_same lz
      by_cases hp : 1 < 1 + n
      · rw [if_pos (decide_eq_true hp)]
        exact ⟨c * 1, rfl, by omega, by omega, .inl hp, k2.trans k3, st3, el⟩
      · rw [if_neg (by rw [decide_eq_true_eq]; exact hp)]
        exact ⟨c * 0, rfl, by omega, by omega, .inr (Int.mul_zero c), k2.trans k3, st3, el⟩
    · obtain ⟨c, rfl, c0, c1, cp, k5, st5, el5⟩ := hR
      refine ⟨c, rfl, by omega, by omega, ?_⟩
      refine for_range (lo := 0) (n := c.toNat) (PvNet z l m R (1 + n) H) ⟨none, none, none, none, none, [], [], rfl, k5, st5, el5, .nil, rfl, fun _ h => nomatch h⟩ (fun i σ H' hi h => ?_) (fun σ H' h => ?_)
      · obtain ⟨y5, y6, y7, y8, y9, ts, rs, rfl, kH, stH, eL, rA, hlen, rOk⟩ := h
        have hp : 1 < 1 + n := by
          rcases cp with z | z
          · exact z
          · rw [z] at hi
            exact absurd hi (Nat.not_lt_zero _)
        -- one
        refine ⟨Got z 0 n H', ?_, fun v G1 hG1 => ?_⟩
        · refine ⟨.ref z, rfl, .int (1 + n), rfl, z, _, rfl, stH, by omega, by omega, fun Ha o1 ka sa u0 u1 => ⟨.int (0 + i), rfl, .int (1 + n), rfl, 1 + n, 1, rfl, rfl, _, _, rfl, by show 2 ≤ sizeLine; decide, fun d nd => ⟨.ref z, rfl, z, 2, rfl, sa.same (same_new nd), by decide, by decide, fun Hb o2 kb sb e0 e1 => ?_⟩⟩⟩
          have dz : d ≠ z := (sa.ne nd).symm
          obtain ⟨v, hv, ev⟩ := pick (xs := [V.int o1, V.int (if 1 + n - 1 < 0 + (i : Int) then 1 + n - 1 else 0 + i)]) e0 e1
          refine ⟨d, _, o2, v, rfl, rfl, SqL.of (kb _ _ upd_same dz), ev, ?_⟩
          have kk := ka.trans ((Keep.new nd).trans kb)
          simp only [List.mem_cons, List.not_mem_nil, or_false] at hv
          rcases hv with rfl | rfl
          · exact ⟨o1, rfl, u0, by omega, kk, sb⟩
          · exact ⟨_, rfl, by split <;> omega, by split <;> omega, kk, sb⟩
        obtain ⟨a, rfl, a0, a1, ka, sa⟩ := hG1
        -- other
        refine ⟨fun v G => ∃ b : Int, v = .int b ∧ 0 ≤ b ∧ b ≤ n ∧ a ≠ b ∧ Keep z G1 G ∧ StOk G z, ?_, fun v G2 hG2 => ?_⟩
        · refine ⟨.int a, rfl, a, 1, rfl, rfl, .ref z, rfl, .int (1 + n), rfl, 1 + n, 1, rfl, rfl, z, _, rfl, sa, by omega, by omega, fun Hb o2 kb sb v0 v1 => ⟨by show 2 ≤ sizeLine; decide, fun d nd => ⟨.ref z, rfl, z, 2, rfl, sb.same (same_new nd), by decide, by decide, fun Hc o3 kc sc e0 e1 => ?_⟩⟩⟩
          have dz : d ≠ z := (sb.ne nd).symm
          obtain ⟨v, hv, ev⟩ := pick (xs := [V.int 0, V.int o2]) e0 e1
          have kk := kb.trans ((Keep.new nd).trans kc)
          obtain ⟨b, rfl, b0, b1⟩ : ∃ b, v = .int b ∧ 0 ≤ b ∧ b < 1 + n - 1 := by
            simp only [List.mem_cons, List.not_mem_nil, or_false] at hv
            rcases hv with rfl | rfl
            · exact ⟨0, rfl, by decide, by omega⟩
            · exact ⟨o2, rfl, v0, v1⟩
          obtain ⟨x0, x1, x2⟩ := other_ok (p := 1 + n) a0 (by omega) b0 b1
          exact ⟨d, _, o3, .int b, rfl, rfl, SqL.of (kc _ _ upd_same dz), ev, _, b, rfl, rfl, .int (1 + n), rfl, _, 1 + n, rfl, rfl, by omega, _, rfl, x0, by omega, x2, kk, sc⟩
        obtain ⟨b, rfl, b0, b1, ab, kb, sb⟩ := hG2
        -- cost
        refine ⟨Got z 1 99 G2, ?_, fun v G3 hG3 => ?_⟩
        · refine ⟨.ref z, rfl, z, 4, rfl, sb, by decide, by decide, fun Ha o1 ka' sa' u0 u1 => ⟨1, o1, rfl, rfl, .ref z, rfl, z, 99, rfl, sa', by decide, by decide, fun Hb o2 kb' sb' v0 v1 => ⟨1, o2, rfl, rfl, by show 3 ≤ sizeLine; decide, fun d nd => ⟨.ref z, rfl, z, 3, rfl, sb'.same (same_new nd), by decide, by decide, fun Hc o3 kc sc e0 e1 => ?_⟩⟩⟩⟩
          have dz : d ≠ z := (sb'.ne nd).symm
          obtain ⟨v, hv, ev⟩ := pick (xs := [V.int (1 + o1), V.int (1 + o2), V.int 1]) e0 e1
          refine ⟨d, _, o3, v, rfl, rfl, SqL.of (kc _ _ upd_same dz), ev, ?_⟩
          have kk := ka'.trans (kb'.trans ((Keep.new nd).trans kc))
          simp only [List.mem_cons, List.not_mem_nil, or_false] at hv
          rcases hv with rfl | rfl | rfl
          · exact ⟨_, rfl, by omega, by omega, kk, sc⟩
          · exact ⟨_, rfl, by omega, by omega, kk, sc⟩
          · exact ⟨_, rfl, by decide, by decide, kk, sc⟩
        obtain ⟨x, rfl, x0, x1, kx, sx⟩ := hG3
        -- time
        refine ⟨Got z 0 99 G3, ?_, fun v G4 hG4 => ?_⟩
        · refine ⟨.ref z, rfl, z, 4, rfl, sx, by decide, by decide, fun Ha o1 ka' sa' u0 u1 => ⟨.ref z, rfl, z, 100, rfl, sa', by decide, by decide, fun Hb o2 kb' sb' v0 v1 => ⟨by show 3 ≤ sizeLine; decide, fun d nd => ⟨.ref z, rfl, z, 3, rfl, sb'.same (same_new nd), by decide, by decide, fun Hc o3 kc sc e0 e1 => ?_⟩⟩⟩⟩
          have dz : d ≠ z := (sb'.ne nd).symm
          obtain ⟨v, hv, ev⟩ := pick (xs := [V.int o1, V.int o2, V.int 0]) e0 e1
          refine ⟨d, _, o3, v, rfl, rfl, SqL.of (kc _ _ upd_same dz), ev, ?_⟩
          have kk := ka'.trans (kb'.trans ((Keep.new nd).trans kc))
          simp only [List.mem_cons, List.not_mem_nil, or_false] at hv
          rcases hv with rfl | rfl | rfl
          · exact ⟨_, rfl, by omega, by omega, kk, sc⟩
          · exact ⟨_, rfl, by omega, by omega, kk, sc⟩
          · exact ⟨_, rfl, by decide, by decide, kk, sc⟩
        obtain ⟨y, rfl, y0, y1, ky, sy⟩ := hG4
        have kdf : Keep z H' G4 := ka.trans (kb.trans (kx.trans ky))
        have eF := kdf _ _ eL lz
        have rF : RoadsAt G4 ts rs := rA.keep (kdf.tups stH)
        refine ⟨.ref l, rfl, .inl ⟨rfl, _, SqL.of eF⟩, .int a, rfl, .int b, rfl, .int x, rfl, .int y, rfl, by show 4 ≤ sizeLine; decide, fun T nT => ?_⟩
        have sT : Same G4 (upd G4 T (.tup [.int a, .int b, .int x, .int y])) := same_new nT
        have lT : l ≠ T := ne_of_none eF nT
        have ll : (ts.map V.ref).length < sizeLine := by
          rw [List.length_map, rF.len, hlen]
          exact small1000 (by omega)
        refine ⟨l, _, _, rfl, rfl, sT _ _ eF, ll, ?_⟩
        refine ⟨some (.int (0 + i)), some (.int a), some (.int b), some (.int x), some (.int y), ts ++ [T], rs ++ [⟨a, b, x, y⟩], rfl, fun c u hc hz => ?_, ?_, ?_, ?_, ?_, fun q hq => ?_⟩
        · by_cases hcl : c = l
          · exact absurd (k1 _ _ hc hz) (by rw [hcl, nl]; exact fun z => nomatch z)
          · rw [upd_ne hcl]
            exact sT _ _ (kdf _ _ (kH _ _ hc hz) hz)
        · obtain ⟨xx, yy, e1, e2⟩ := sy.same sT
          exact ⟨xx, yy, by rw [upd_ne lz.symm]; exact e1, e2⟩
        · rw [upd_same, List.map_append]
          rfl
        · refine laid_snoc ((rF.keep fun b xs h => sT _ _ h).keep fun b xs h => ?_) ?_
          · rw [upd_ne (ne_of h (sT _ _ eF) (fun q => nomatch q))]
            exact h
          · rw [upd_ne lT.symm]
            exact upd_same
        · rw [List.length_append, hlen]
          rfl
        · rcases List.mem_append.mp hq with h | h
          · exact rOk q h
          · rw [List.mem_singleton.mp h]
            exact ⟨a0, by show a ≤ 1 + n - 1; omega, b0, by show b ≤ 1 + n - 1; omega, ab, x0, x1, y0, y1⟩
      · obtain ⟨y5, y6, y7, y8, y9, ts, rs, rfl, kH, stH, eL, rA, hlen, rOk⟩ := h
        refine ⟨.int (1 + n), rfl, .ref l, rfl, l, _, rfl, .inl ⟨SqL.of eL, fun r nr => ⟨by show 2 ≤ sizeLine; decide, fun a na => ?_⟩⟩⟩
        have s1 := same_new (H := H') (o := .tup (ts.map V.ref)) nr
        have s2 := same_new (H := upd H' r (.tup (ts.map V.ref))) (o := .tup [.int (1 + n), .ref r]) na
        exact q _ a r ts (1 + n) rs ((kH.trans (.of s1)).trans (.of s2)) ((stH.same s1).same s2) ⟨upd_same, s2 _ _ upd_same, rA.keep fun b xs h => s2 _ _ (s1 _ _ h)⟩ ⟨by omega, by omega, by omega, rOk⟩ (by omega) (by omega)
end
end Wy

namespace Wy
open PySem PySem.Spec PyProof.Rows L2
/-- the law's call from its body at the caller's own surroundings; the script is tracked -/
theorem end_call0 {P : Program} {w : World} {K : PySem.W.Frag} {mg mb : Str → Option Value} {fa a : Addr} {st : Shared} {vs : List Value} {ns : List Int}
    (inK : K.In st.heap) (gl : st.heap.Ns mainGlobals mg) (bl : st.heap.Ns builtinsNs mb) (blt : ∀ x : Str, x ≠ "__name__" → mb x = bootBuiltins x) (lim : st.heap.NoLimit) (dig : st.heap.NoDigits) (gen : st.gens = #[])
    (ha : st.heap.get? a = some { cls := .type "list", data := .seq vs.toArray }) (hi : IntsAre vs ns) (hl : ns.length ≤ sizeLine)
    (F : ∀ (base : Heap) (H : Hp), base.NoDigits → SqL K H a (ns.map V.int) → Env0 P w K mg base callerA [] st H →
      codeAny (model P w) callerA (.call (.ref fa) ⟨[.ref a], []⟩) (CR CX0 [] P w H st (fun v _ => v = .bl true) E0) st) :
    codeAny (model P w) callerA (.call (.ref fa) ⟨[.ref a], []⟩) (fun r t => r = .ok (.ret (.bool true)) ∧ OldK st.heap t.heap ∧ t.os = st.os ∧ AllBare t.gens) st := by
  have vals := vals_ints hi
  have nvs := hi.length
  obtain ⟨so, hso⟩ : ∃ so : Obj, so = { cls := .type "list", data := .seq vs.toArray } := ⟨_, rfl⟩
  rw [← hso] at ha
  obtain ⟨H, hH⟩ : ∃ H : Hp, H = fun b => if b = a ∧ K.lookup a = none then some (.frz so (.lst (ns.map V.int))) else none := ⟨_, rfl⟩
  have cases2 : ∀ b u, H b = some u → (b = a ∧ K.lookup a = none ∧ u = .frz so (.lst (ns.map V.int))) := fun b u e => by
    rw [hH] at e
    by_cases h2 : b = a ∧ K.lookup a = none
    · exact ⟨h2.1, h2.2, (Option.some.inj ((if_pos h2).symm.trans e)).symm⟩
    · exact nomatch (if_neg h2).symm.trans e
  have lsOk : ObjOk P w H st.heap a (.lst (ns.map V.int)) := by
    exact ⟨by rw [List.length_map]; exact hl, vs, _, vals, (hso ▸ ha : st.heap.get? a = some { cls := .type "list", data := .seq vs.toArray })⟩
  have hok : HOk P w H st.heap := fun b u e => by
    obtain ⟨rfl, _, rfl⟩ := cases2 b u e
    exact ⟨ha, lsOk⟩
  have apart : ∀ {b : Addr} {o : Obj}, st.heap.get? b = some o → (∀ x n, o.data ≠ .seq x n) → H b = none := fun {b o} e n1 => by
    cases q : H b with
    | none => rfl
    | some u =>
      obtain ⟨rfl, _, _⟩ := cases2 b u q
      rw [ha, hso] at e
      cases e
      exact absurd rfl (n1 _ _)
  have nsB : ∀ {b : Addr} {m : Str → Option Value}, st.heap.Ns b m → (hidT st.heap H).Ns b m := fun {b m} ⟨o, es, ep, e, d, r⟩ =>
    ⟨o, es, ep, hidT_get e (apart e (fun x n z => nomatch d.symm.trans z)), d, r⟩
  have inB : K.In (hidT st.heap H) := fun b o e => hidT_get (inK b o e) (by
    cases q : H b with
    | none => rfl
    | some u =>
      obtain ⟨rfl, n, _⟩ := cases2 b u q
      exact nomatch n.symm.trans e)
  have md : L2.Mod K mg (hidT st.heap H) := ⟨inB, nsB gl, ⟨mb, nsB bl, blt⟩, let ⟨mc, q1, q2⟩ := lim; ⟨mc, nsB q1, q2⟩⟩
  have sq : SqL K H a (ns.map V.int) := by
    cases q : K.lookup a with
    | some o =>
      have e := (inK a o q).symm.trans ha
      rw [hso] at e
      cases e
      exact .inr ⟨_, vs.toArray, _, q, rfl, rfl, rfl, by rw [List.size_toArray, nvs]; exact hl, by simpa using vals⟩
    | none =>
      refine .inl (.inr ⟨so, ?_⟩)
      rw [hH]
      exact if_pos ⟨rfl, q⟩
  have env : Env0 P w K mg (hidT st.heap H) callerA [] st H := ⟨rfl, md, fun b o e => of_hidT e, Nat.le_of_eq (hidT_size _ _), trivial, (fun b z => nomatch (show b ∈ ([] : List Addr) from z)), hok, .of_eq gen⟩
  refine codeAny_mono (F _ H (let ⟨mc, q1, q2⟩ := dig; ⟨mc, nsB q1, q2⟩) sq env) fun r t h => ?_
  cases r with
  | error e => exact (show False from h).elim
  | ok fl =>
    cases fl with
    | next => exact (show False from h).elim
    | brk => exact (show False from h).elim
    | cont => exact (show False from h).elim
    | ret u =>
      obtain ⟨v, G, os, bare, un, okG, rv, q⟩ := h
      obtain rfl : v = .bl true := q
      obtain rfl : u = Value.bool true := rv
      have stays : ∀ b o, st.heap.get? b = some o → t.heap.get? b = some o := fun b o e => by
        cases q : H b with
        | none => exact un.keep b o e q (fun z => nomatch (show b ∈ ([] : List Addr) from z)) (by simp)
        | some u =>
          obtain ⟨rfl, _, rfl⟩ := cases2 b u q
          obtain ⟨e2, _⟩ := okG b _ (un.frzs b so _ q)
          rw [ha] at e
          cases e
          exact e2
      exact ⟨rfl, ⟨fun b o e => .inl (stays b o e), fun b o e => ⟨o, stays b o e⟩⟩, os, bare⟩
/-- what the law's def does from its place in the written part -/
def Runs0 (P : Program) (w : World) (K : PySem.W.Frag) (mg : Str → Option Value) (fa : Addr) : Prop := ∀ (base : Heap) (H : Hp) (s : Shared) (a : Addr) (ns : List Int), ns.length ≤ 63 → base.NoDigits → SqL K H a (ns.map V.int) → Env0 P w K mg base callerA [] s H →
  codeAny (model P w) callerA (.call (.ref fa) ⟨[.ref a], []⟩) (CR CX0 [] P w H s (fun v _ => v = .bl true) E0) s
theorem walk_end0 {l : PySem.W.OpenLaw} {q : Program} {loose : List Str} {XP : (Str → Option Value) → Heap → Prop} {YP : World → Heap → Prop} {d : DefRec} {K : Params → PySem.W.Frag}
    (most : l.most = some 63) (dflt : d.params.defaults = []) (inK : ∀ (w : World) (h : Heap), YP w h → (K w.params).In h)
    (F : ∀ (w : World) (mg : Str → Option Value) (fa : Addr) (h : Heap), (K w.params).In h → h.Ns mainGlobals mg → mg d.name = some (.ref fa) → Runs0 l.prog w (K w.params) mg fa) :
    PySem.W.WalkO q loose XP YP l.row.toRowW d [] (fun f vs => PySem.call f vs) := by
  refine Att.attach_call most dflt fun w s0 st mg mb fa o pm cd doc a vs ns G Y ho hd hcd hmg hobj hints hlen hg => ?_
  have KX := inK w _ Y
  have run := F w mg fa _ KX G.T.g hmg
  exact end_call0 KX G.T.g G.T.b G.T.builtins G.T.nolimit G.T.nodigits hg hobj hints (Nat.le_trans hlen (by decide)) fun base H dg sq env => run base H st a ns hlen dg sq env
end Wy

namespace Wy
open PySem PySem.Spec PyProof.Rows L2
abbrev sLEnds : Stmt := topS 34
theorem sc_sLEnds : FnScope ["_law_state_here", "_law_net_here", "_law_start"] ["_law_state_here", "_law_net_here"] (defScope sLEnds) := ⟨rfl, rfl, rfl, by decide +kernel, rfl, by decide +kernel, by decide +kernel⟩
abbrev sCnt : Stmt := topS 33
theorem sc_sCnt : FnScope ["_law_net_here", "_law_start", "_law_most", "_law_found", "_law_cost", "_law_row", "_law_place", "_law_one", "_law_other", "_law_more", "_law_longer"] ["_law_net_here", "_law_start", "_law_most"] (defScope sCnt) := ⟨rfl, rfl, rfl, by decide +kernel, rfl, by decide +kernel, by decide +kernel⟩

theorem one_yes {c : Nat} {a g : Int} (h : decide (V.int (c : Int) = V.int 0) = true) : V.int (if decide (V.int a = V.int g) = true then 1 else 0) = V.int (if c = 0 ∧ a = g then 1 else 0) := by
  have h1 : c = 0 := by
    have := V.int.inj (of_decide_eq_true h)
    omega
  by_cases h2 : a = g
  · rw [if_pos (decide_eq_true (by rw [h2])), if_pos ⟨h1, h2⟩]
  · rw [if_neg (by rw [decide_eq_true_eq]; exact fun z => h2 (V.int.inj z)), if_neg fun z => h2 z.2]
theorem one_no {c : Nat} {a g : Int} (h : ¬ decide (V.int (c : Int) = V.int 0) = true) : V.int (if false = true then 1 else 0) = V.int (if c = 0 ∧ a = g then 1 else 0) := by
  rw [if_neg (by decide), if_neg fun z => h (decide_eq_true (by rw [z.1]; rfl))]
/-! ### how great the counts are -/
theorem S_le {α : Type} {l : List α} {f : α → Int} {m : Int} (h : ∀ x ∈ l, 0 ≤ f x ∧ f x ≤ m) : 0 ≤ S l f ∧ S l f ≤ l.length * m := by
  induction l with
  | nil =>
    rw [S_nil]
    exact ⟨Int.le_refl _, by simp⟩
  | cons x l ih =>
    rw [S_cons, List.length_cons]
    have h1 := h x (List.mem_cons_self ..)
    have h2 := ih fun y hy => h y (List.mem_cons_of_mem _ hy)
    have e : ((l.length + 1 : Nat) : Int) * m = l.length * m + m := by
      rw [Int.natCast_add, Int.add_mul]
      simp
    rw [e]
    omega
theorem cnt_le {rs : List Road} (hl : rs.length ≤ 30) : ∀ (c : Nat) (g a : Int), 0 ≤ cnt rs g c a ∧ cnt rs g c a ≤ ((31 ^ c : Nat) : Int) := by
  intro c
  induction c using Nat.strongRecOn with
  | ind c ih =>
    intro g a
    rw [cnt_eq]
    cases c with
    | zero =>
      have z : (S rs fun q => if On q a 0 then cnt rs g (0 - q.cost.toNat) q.other else 0) = 0 := by
        rw [S_congr (g := fun _ => 0) fun q _ => ?_, S_zero]
        rw [if_neg]
        rintro ⟨_, h1, h2⟩
        omega
      rw [z]
      by_cases h : 0 = 0 ∧ a = g
      · rw [if_pos h]
        exact ⟨by decide, by decide⟩
      · rw [if_neg h]
        exact ⟨by decide, by decide⟩
    | succ c =>
      have h : ∀ q ∈ rs, 0 ≤ (if On q a (c + 1) then cnt rs g (c + 1 - q.cost.toNat) q.other else 0) ∧ (if On q a (c + 1) then cnt rs g (c + 1 - q.cost.toNat) q.other else 0) ≤ ((31 ^ c : Nat) : Int) := fun q _ => by
        by_cases h : On q a (c + 1)
        · rw [if_pos h]
          have := ih _ h.lt g q.other
          refine ⟨this.1, Int.le_trans this.2 ?_⟩
          have h1 := h.2.1
          exact Int.ofNat_le.mpr (Nat.pow_le_pow_right (by decide) (by omega))
        · rw [if_neg h]
          exact ⟨Int.le_refl _, Int.natCast_nonneg _⟩
      have k := S_le h
      rw [if_neg fun z => by omega]
      have e : ((31 ^ (c + 1) : Nat) : Int) = 31 * ((31 ^ c : Nat) : Int) := by
        rw [Nat.pow_succ, Nat.mul_comm, Int.natCast_mul]
        rfl
      rw [e]
      have p0 : (0 : Int) ≤ ((31 ^ c : Nat) : Int) := Int.natCast_nonneg _
      have hm : (rs.length : Int) * ((31 ^ c : Nat) : Int) ≤ 30 * ((31 ^ c : Nat) : Int) := Int.mul_le_mul_of_nonneg_right (by omega) p0
      generalize ((31 ^ c : Nat) : Int) = M at *
      omega
theorem cntTo_le {rs : List Road} (hl : rs.length ≤ 30) {c : Nat} (hc : c ≤ 600) (g a : Int) : 0 ≤ cntTo rs g c a ∧ cntTo rs g c a ≤ 601 * ((31 ^ 600 : Nat) : Int) := by
  have h : ∀ d ∈ List.range (c + 1), 0 ≤ cnt rs g d a ∧ cnt rs g d a ≤ ((31 ^ 600 : Nat) : Int) := fun d hd => by
    have h1 := cnt_le hl d g a
    have h2 := List.mem_range.mp hd
    exact ⟨h1.1, Int.le_trans h1.2 (Int.ofNat_le.mpr (Nat.pow_le_pow_right (by decide) (by omega)))⟩
  have k := S_le h
  unfold cntTo
  refine ⟨k.1, Int.le_trans k.2 ?_⟩
  rw [List.length_range]
  exact Int.mul_le_mul_of_nonneg_right (by omega) (Int.natCast_nonneg _)
theorem big_ok : 601 * 31 ^ 600 < 10 ^ 4300 := by decide +kernel
theorem cnt_big {rs : List Road} (hl : rs.length ≤ 30) {c : Nat} (hc : c ≤ 600) (g a : Int) : (cnt rs g c a).natAbs < 10 ^ 4300 := by
  have h1 := cnt_le hl c g a
  have h2 : 31 ^ c ≤ 31 ^ 600 := Nat.pow_le_pow_right (by decide) hc
  have h3 := big_ok
  have h4 : (cnt rs g c a).natAbs ≤ 31 ^ c := by omega
  generalize 31 ^ 600 = M at *
  generalize 10 ^ 4300 = N at *
  omega
theorem cntTo_big {rs : List Road} (hl : rs.length ≤ 30) {c : Nat} (hc : c ≤ 600) (g a : Int) : (cntTo rs g c a).natAbs < 10 ^ 4300 := by
  have h1 := cntTo_le hl hc g a
  have h3 := big_ok
  generalize 31 ^ 600 = M at *
  generalize 10 ^ 4300 = N at *
  omega
/-! ### counts by hand -/
def cntF : Nat → List Road → Int → Nat → Int → Int
  | 0, _, _, _, _ => 0
  | n + 1, rs, g, c, a => (if c = 0 ∧ a = g then 1 else 0) + S rs fun q => if On q a c then cntF n rs g (c - q.cost.toNat) q.other else 0
theorem cnt_F (rs : List Road) (g : Int) : ∀ (n c : Nat) (a : Int), c < n → cnt rs g c a = cntF n rs g c a
  | 0, _, _, h => absurd h (Nat.not_lt_zero _)
  | n + 1, c, a, h => by
    rw [cnt_eq, cntF]
    congr 1
    refine S_congr fun q _ => ?_
    by_cases k : On q a c
    · have := k.lt
      rw [if_pos k, if_pos k, cnt_F rs g n _ _ (by omega)]
    · rw [if_neg k, if_neg k]
theorem cntTo_F (rs : List Road) (g : Int) (n c : Nat) (a : Int) (h : c < n) : cntTo rs g c a = S (List.range (c + 1)) fun d => cntF n rs g d a := by
  unfold cntTo
  refine S_congr fun d hd => ?_
  have := List.mem_range.mp hd
  exact cnt_F rs g n d a (by omega)
section
variable {P : Program} {w : World} {K : PySem.W.Frag} {mg : Str → Option Value} {base : Heap}
def spLEnds : Sp := fun vs H Q _ => ∃ (z x r : Addr) (ts : List Addr) (p : Int) (rs : List Road), vs = [.ref z, .ref x] ∧ StOk H z ∧ NetAt H x r ts p rs ∧ NetOk p rs ∧ ∀ H' T a b, Keep z H H' → StOk H' z → H' T = some (.tup [.int a, .int b]) → 0 ≤ a → a ≤ p - 1 → 0 ≤ b → b ≤ p - 1 → Q (.ref T) H'
theorem ok_lends {f fK : Addr} {fd dK : FuncData} {k : Nat} (DK : Df K mg "_law_take" sTake ["_law_state_here", "_law_far"] fK dK) (D : Df K mg "_law_ends" sLEnds ["_law_state_here", "_law_net_here"] f fd) : FnOk P w K mg base CX0 (k + 2) f fd ["_law_state_here", "_law_net_here"] spLEnds := by
  have GK : FnOk P w K mg base CX0 (k + 1) fK dK ["_law_state_here", "_law_far"] spTake := ok_take DK
  refine D.F.ok sc_sLEnds (fun vs H Q E h => ?_) (fun cdv A outer s H vs Q E hr h => ?_)
  · obtain ⟨_, _, _, _, _, _, rfl, _⟩ := h
    rfl
  · obtain ⟨z, x, r, ts, p, rs, rfl, st, hN, ok, q⟩ := h
    refine ⟨_, (pss_cons (ps_set (i := 2) sc_sLEnds.nd rfl (.inl rfl) (pe_call GK hr (by rfl) DK.g DK.F.kp DK.b .nil pass0 (pa_cons (pv 0) (pa_cons (pe_ix ix_tup (pv 1) pe_int (fun _ _ => rfl)) pa_nil))))
    (pss_one (ps_ret (pe_tup (pa_cons (pv 2) (pa_cons (pe_ix ix_list (pe_lst (pa_cons (pv 2) (pa_cons (pe_call GK hr (by rfl) DK.g DK.F.kp DK.b .nil pass0 (pa_cons (pv 0) (pa_cons (pe_ix ix_tup (pv 1) pe_int (fun _ _ => rfl)) pa_nil))) (pa_cons (pe_call GK hr (by rfl) DK.g DK.F.kp DK.b .nil pass0 (pa_cons (pv 0) (pa_cons (pe_ix ix_tup (pv 1) pe_int (fun _ _ => rfl)) pa_nil))) pa_nil)))) (pe_call GK hr (by rfl) DK.g DK.F.kp DK.b .nil pass0 (pa_cons (pv 0) (pa_cons pe_int pa_nil))) (fun _ _ => rfl)) pa_nil)))))), ?_⟩
    have p1 := ok.p1
    have p2 := ok.p2
    refine ⟨.ref z, rfl, .ref x, rfl, x, _, 0, _, rfl, rfl, SqT.of hN.1, rfl, z, p, rfl, st, by omega, by omega, fun H1 a k1 st1 a0 a1 => ?_⟩
    have hN1 := hN.keep (k1.tups st)
    refine ⟨.int a, rfl, .int a, rfl, .ref z, rfl, .ref x, rfl, x, _, 0, _, rfl, rfl, SqT.of hN1.1, rfl, z, p, rfl, st1, by omega, by omega, fun H2 b k2 st2 b0 b1 => ?_⟩
    have hN2 := hN1.keep (k2.tups st1)
    refine ⟨.ref z, rfl, .ref x, rfl, x, _, 0, _, rfl, rfl, SqT.of hN2.1, rfl, z, p, rfl, st2, by omega, by omega, fun H3 c k3 st3 c0 c1 => ?_⟩
    refine ⟨by show 3 ≤ sizeLine; decide, fun d nd => ?_⟩
    have s3 := same_new (H := H3) (o := .lst [.int a, .int b, .int c]) nd
    refine ⟨.ref z, rfl, z, 3, rfl, st3.same s3, by decide, by decide, fun H4 e k4 st4 e0 e1 => ?_⟩
    have dz : d ≠ z := (st3.ne nd).symm
    obtain ⟨v, hv, ev⟩ := pick (xs := [V.int a, V.int b, V.int c]) e0 e1
    refine ⟨d, _, e, v, rfl, rfl, SqL.of (k4 _ _ upd_same dz), ev, by show 2 ≤ sizeLine; decide, fun T nT => ?_⟩
    obtain ⟨g, rfl, g0, g1⟩ : ∃ g, v = .int g ∧ 0 ≤ g ∧ g ≤ p - 1 := by
      simp only [List.mem_cons, List.not_mem_nil, or_false] at hv
      rcases hv with rfl | rfl | rfl
      · exact ⟨a, rfl, a0, by omega⟩
      · exact ⟨b, rfl, b0, by omega⟩
      · exact ⟨c, rfl, c0, by omega⟩
    have s4 := same_new (H := H4) (o := .tup [.int a, .int g]) nT
    exact q _ T a g (k1.trans (k2.trans (k3.trans ((Keep.of s3).trans (k4.trans (.of s4)))))) (st4.same s4) upd_same a0 (by omega) g0 g1

def spCnt : Sp := fun vs H Q _ => ∃ (x r : Addr) (ts : List Addr) (p : Int) (rs : List Road) (b : Int) (c : Nat), vs = [.ref x, .int b, .int (c : Int)] ∧ NetAt H x r ts p rs ∧ NetOk p rs ∧ 0 ≤ b ∧ b ≤ p - 1 ∧ c ≤ 600 ∧
  ∀ H' R us, Same H H' → H' R = some (.lst (us.map V.ref)) → us.length = c + 1 → RowsAt H' p (rs.map Road.rev) b us → Q (.ref R) H'
set_option maxHeartbeats 2000000 in
theorem ok_cnt {f : Addr} {fd : FuncData} {k : Nat} (mR : mg "range" = none) (mI : mg "int" = none) (D : Df K mg "_law_counts" sCnt ["_law_net_here", "_law_start", "_law_most"] f fd) : FnOk P w K mg base CX0 (k + 1) f fd ["_law_net_here", "_law_start", "_law_most"] spCnt := by
  refine D.F.ok sc_sCnt (fun vs H Q E h => ?_) (fun cdv A outer s H vs Q E hr h => ?_)
  · obtain ⟨_, _, _, _, _, _, _, rfl, _⟩ := h
    rfl
  · obtain ⟨x, r, ts, p, rs, b, c, rfl, hN, ok, b0, b1, hc, q⟩ := h
    refine ⟨_, (pss_cons (ps_set (i := 3) sc_sCnt.nd rfl (.inl rfl) (pe_lst pa_nil))
    (pss_cons (ps_for PassesOwn.never rfl (pi_range1 (by rfl) mR (pa_cons (pe_op op_add (pv 2) pe_int) pa_nil)) (pg_name (i := 4) sc_sCnt.nd rfl (.inr rfl))
    (pss_cons (ps_setLc (i := 5) (own := [("_law_place", 6)]) (g := gName 6) (tt := tYes) rfl sc_sCnt.nd rfl rfl (sw_true rfl rfl rfl (by decide +kernel)) (pi_range1 (by rfl) mR (pa_cons (pe_ix (ix_tupK (K := K) rfl) (pv 0) pe_int (fun _ _ => rfl)) pa_nil)) (blkOk_by (N := ["_law_net_here", "_law_start", "_law_most", "_law_found", "_law_cost", "_law_row", "_law_place", "_law_one", "_law_other", "_law_more", "_law_longer"]) (sc := defScope sCnt) (by decide +kernel)) (fun _ _ _ _ _ => pg_name (i := 6) sc_sCnt.nd rfl (.inl rfl)) (fun _ _ _ _ _ => pts_nil) (fun _ _ _ _ _ => pe_cut (pe_callTy call_int1 (by rfl) mI (by decide +kernel) (pa_cons (pe_and (pe_cmpR op_eq (pv 4) pe_int (nomark _)) (pe_one (pe_cmpR op_eq (pv 6) (pv 1) (nomark _)))) pa_nil))))
    (pss_cons (ps_for PassesOwn.never rfl (pi_tup (pe_ix (ix_tupK (K := K) rfl) (pv 0) pe_int (fun _ _ => rfl))) (pg_tup (by rfl) (pgs_cons (pg_name (i := 7) sc_sCnt.nd rfl (.inl rfl)) (pgs_cons (pg_name (i := 8) sc_sCnt.nd rfl (.inl rfl)) (pgs_cons (pg_name (i := 9) sc_sCnt.nd rfl (.inl rfl)) (pgs_cons (pg_name (i := 10) sc_sCnt.nd rfl (.inl rfl)) pgs_nil)))))
      (pss_one (ps_if (pt_cmpR op_le (pv 9) (pv 4) (nomark _)) (pss_one (ps_asg (pe_op op_add (pe_ix ix_list (pv 5) (pv 8) (fun _ _ => rfl)) (pe_ix ix_list (pe_ix ix_list (pv 3) (pe_op op_sub (pv 4) (pv 9)) (fun _ _ => rfl)) (pv 7) (fun _ _ => rfl))) (pg_sub (pv 5) (pv 8) set_list))) pss_nil)))
    (pss_one (ps_expr (pe_bm PySem.F.plainAttrs_list PySem.F.slot_list_append PySem.F.type_list_append mt_append (pv 3) (pa_cons (pv 5) pa_nil)))))))
    (pss_one (ps_ret (pv 3))))), ?_⟩
    have p1 := ok.p1
    have p2 := ok.p2
    have hlr : (rs.map Road.rev).length = rs.length := List.length_map ..
    refine ⟨Nat.zero_le _, fun R nR => ?_⟩
    refine ⟨.int c, rfl, _, _, rfl, rfl, _, rfl, by omega, by omega, ?_⟩
    have hcn : ((c : Int) + 1).toNat = c + 1 := by omega
    refine for_range (lo := 0) (n := ((c : Int) + 1).toNat) (fun i σ H' => ∃ (us : List Addr) (y4 y5 y7 y8 y9 y10 : Option V), σ = [some (.ref x), some (.int b), some (.int c), some (.ref R), y4, y5, none, y7, y8, y9, y10] ∧ Same H H' ∧ H' R = some (.lst (us.map V.ref)) ∧ us.length = i ∧ RowsAt H' p (rs.map Road.rev) b us) ⟨[], none, none, none, none, none, none, rfl, same_new nR, upd_same, rfl, fun _ _ e => by simp at e⟩ (fun i σ H' hi h => ?_) (fun σ H' h => ?_)
    · obtain ⟨us, y4, y5, y7, y8, y9, y10, rfl, sm, eR, hul, hrows⟩ := h
      have hN' : NetAt H' x r ts p rs := hN.keep fun b xs h => sm _ _ h
      refine ⟨.ref x, rfl, x, _, 0, _, rfl, rfl, SqT.of hN'.1, rfl, p, rfl, by omega, by omega, fun B nB => ?_⟩
      refine lc_range (lo := 0) (n := p.toNat) (fun e G => Same H' G ∧ G B = some (.lst ((List.range e).map fun (a : Nat) => V.int (part (rs.map Road.rev) b i 0 (a : Int))))) ⟨same_new nB, upd_same⟩ (fun e G he h => ?_) (fun G h => ?_)
      · obtain ⟨sG, eB⟩ := h
        refine ⟨rfl, ?_⟩
        unfold tYes
        dsimp only
        rw [if_pos rfl]
        refine ⟨fun v G2 => v = .int (part (rs.map Road.rev) b i 0 (e : Int)) ∧ G = G2, ?_, ?_⟩
        · rw [part_zero]
          have e0 : (0 : Int) + (e : Int) = e := Int.zero_add _
          have i0 : (0 : Int) + (i : Int) = i := Int.zero_add _
          refine ⟨.int (0 + (i : Int)), rfl, rfl, _, rfl, ?_⟩
          rw [i0]
          refine ite2 (fun h1 => ⟨.int (0 + (e : Int)), rfl, .int b, rfl, rfl, .inr ⟨_, rfl, ?_, rfl⟩⟩) (fun h1 => .inr ⟨_, rfl, one_no h1, rfl⟩)
          rw [e0]
          exact one_yes h1
        · rintro _ _ ⟨rfl, rfl⟩
          refine ⟨_, eB, ?_, Same.upd_lst sG nB, ?_⟩
          · rw [List.length_map, List.length_range]
            exact small1000 (by omega)
          · rw [upd_same, List.range_succ, List.map_append]
            rfl
      obtain ⟨sG, eB⟩ := h
      have eB : G B = some (.lst (rowF p (part (rs.map Road.rev) b i 0))) := eB
      have sA := sm.trans sG
      have nBH : H B = none := sm.free nB
      have eRG := sG _ _ eR
      have hrG := hrows.same sG
      have hNG : NetAt G x r ts p rs := hN.keep fun b xs h => sA _ _ h
      have RB : R ≠ B := ne_of_none eR nB
      refine ⟨.ref x, rfl, x, _, 1, _, rfl, rfl, SqT.of hNG.1, rfl, r, rfl, ⟨_, SqT.of hNG.2.1⟩, ?_⟩
      have uB : ∀ (c : Nat) (u : Addr), us[c]? = some u → u ≠ B := fun c u e => ne_of_none (hrows c u e) nB
      refine for_tup (xs := ts.map V.ref) (fun e σ G2 => ∃ y7 y8 y9 y10 : Option V, σ = [some (.ref x), some (.int b), some (.int c), some (.ref R), some (.int (0 + (i : Int))), some (.ref B), none, y7, y8, y9, y10] ∧ (∀ c o, G c = some o → c ≠ B → G2 c = some o) ∧ G2 B = some (.lst (rowF p (part (rs.map Road.rev) b i e)))) ⟨y7, y8, y9, y10, rfl, fun _ _ e _ => e, eB⟩ (fun e σ G2 _ h => ?_) (fun e v σ G2 hv h => ?_) (fun σ G2 h => ?_)
      · obtain ⟨_, _, _, _, _, kp, _⟩ := h
        exact SqT.of (kp _ _ hNG.2.1 (ne_of hNG.2.1 eB (fun q => nomatch q)))
      · obtain ⟨z7, z8, z9, z10, rfl, kp, eB2⟩ := h
        rw [List.getElem?_map] at hv
        obtain ⟨t, e1, rfl⟩ := Option.map_eq_some_iff.mp hv
        obtain ⟨rd, e2, e3⟩ := hNG.2.2.get e1
        have e2r : (rs.map Road.rev)[e]? = some rd.rev := by
          rw [List.getElem?_map, e2]
          rfl
        have o := ok.all rd (List.mem_of_getElem? e2)
        have et := kp _ _ e3 (ne_of e3 eB (fun q => nomatch q))
        refine ⟨t, _, rfl, SqT.of et, rfl, .int rd.one, _, rfl, .int rd.other, _, rfl, .int rd.cost, _, rfl, .int rd.time, _, rfl, rfl, ?_⟩
        refine ⟨.int rd.cost, rfl, .int (0 + (i : Int)), rfl, _, _, rfl, rfl, _, rfl, ite2 (fun hle => ?_) (fun hle => ?_)⟩
        · have hle : rd.cost ≤ 0 + (i : Int) := of_decide_eq_true hle
          have hle : rd.cost ≤ (i : Int) := by omega
          have o1 := o.c1
          have hlt : i - rd.cost.toNat < us.length := by omega
          have eu := List.getElem?_eq_getElem hlt
          have ei : (0 + (i : Int) - rd.cost) = ((i - rd.cost.toNat : Nat) : Int) := by omega
          refine ⟨.ref B, rfl, .int rd.other, rfl, B, _, rd.other, _, rfl, rfl, SqL.of eB2, rowF_at o.t1 o.t2, ?_⟩
          refine ⟨.ref R, rfl, .int (0 + (i : Int)), rfl, .int rd.cost, rfl, _, _, rfl, rfl, R, _, _, .ref us[i - rd.cost.toNat], rfl, rfl, SqL.of (kp _ _ eRG RB), ?_, ?_⟩
          · rw [ei]
            exact atI_nat (ref_at eu)
          refine ⟨.int rd.one, rfl, _, _, rd.one, _, rfl, rfl, SqL.of (kp _ _ (hrG _ _ eu) (uB _ _ eu)), rowF_at o.o1 o.o2, _, _, rfl, rfl, ?_⟩
          refine ⟨.ref B, rfl, .int rd.other, rfl, B, _, rd.other, _, rfl, rfl, eB2, rowF_ix o.t1 o.t2, ?_⟩
          refine ⟨_, _, _, _, rfl, fun c' o' e nb => ?_, ?_⟩
          · rw [upd_ne nb]
            exact kp _ _ e nb
          · rw [upd_same, rowF_set o.t1 o.t2]
            congr 2
            refine rowF_congr fun a _ _ => ?_
            rw [part_next e2r]
            by_cases k : a = rd.other
            · rw [if_pos k, k, if_pos ⟨rfl, o1, hle⟩]
              rfl
            · rw [if_neg k, if_neg fun z => k z.1.symm, Int.add_zero]
        · have hle : ¬ rd.cost ≤ 0 + (i : Int) := fun z => hle (decide_eq_true z)
          refine ⟨_, _, _, _, rfl, kp, ?_⟩
          rw [eB2]
          congr 2
          refine rowF_congr fun a _ _ => ?_
          rw [part_next e2r, if_neg fun z => hle (by have := z.2.2; show rd.cost ≤ _; have : rd.rev.cost = rd.cost := rfl; omega), Int.add_zero]
      · obtain ⟨z7, z8, z9, z10, rfl, kp, eB2⟩ := h
        rw [List.length_map, hNG.2.2.len, ← hlr] at eB2
        have eB3 : G2 B = some (.lst (rowF p (cnt (rs.map Road.rev) b us.length))) := by
          rw [eB2, hul]
          congr 2
          exact rowF_congr fun a _ _ => part_all (rs.map Road.rev) b i a
        have eR2 := kp _ _ eRG RB
        have s2 : Same H G2 := fun c o e => kp _ _ (sA _ _ e) (ne_of_none e nBH)
        have ll : (us.map V.ref).length < sizeLine := by
          rw [List.length_map]
          exact small1000 (by omega)
        refine ⟨.ref R, rfl, .inl ⟨rfl, _, SqL.of eR2⟩, .ref B, rfl, R, _, _, rfl, rfl, eR2, ll, us ++ [B], _, _, _, _, _, _, rfl, fun c' o e => ?_, ?_, by simp [hul], ?_⟩
        · rw [upd_ne (ne_of_none e nR)]
          exact s2 _ _ e
        · rw [upd_same, List.map_append]
          rfl
        · refine RowsAt.snoc (fun c' u e => ?_) ?_
          · have h1 := kp _ _ (hrG c' u e) (uB c' u e)
            rw [upd_ne fun z => ?_]
            · exact h1
            · subst z
              rw [eR2] at h1
              have h2 := HO.lst.inj (Option.some.inj h1)
              have h3 := rowF_get (f := cnt (rs.map Road.rev) b c') (j := 0) (p := p) (by omega)
              rw [← h2, List.getElem?_map] at h3
              cases e0 : us[0]? with
              | none =>
                rw [e0] at h3
                cases h3
              | some y =>
                rw [e0] at h3
                cases h3
          · rw [upd_ne RB.symm]
            exact eB3
    · obtain ⟨us, y4, y5, y7, y8, y9, y10, rfl, sm, eR, hul, hrows⟩ := h
      exact ⟨.ref R, rfl, q _ R us sm eR (by omega) hrows⟩
end
end Wy

namespace Wy
open PySem PySem.Spec PyProof.Rows L2
abbrev sLaw : Stmt := topS 35
theorem scLaw : FnScope ["_law_script", "_law_by_hand", "_law_net_here", "_law_start", "_law_goal", "_law_cost", "_law_due", "_law_k", "_law_state_here", "_law_turn", "_law_rows", "_law_kept", "_law_row", "_law_lap"] ["_law_script"] (defScope sLaw) := ⟨rfl, rfl, rfl, by decide +kernel, rfl, by decide +kernel, by decide +kernel⟩

theorem sq_stays {K : PySem.W.Frag} {H H1 : Hp} {a z : Addr} {xs : List V} (h : SqL K H a xs) (s : Same H H1) (nz : H z = none) : ∀ G, Keep z H1 G → SqL K G a xs := fun G k => by
  rcases h with (h | ⟨o, h⟩) | h
  · exact .inl (.inl (k _ _ (s _ _ h) (ne_of_none h nz)))
  · exact .inl (.inr ⟨o, k _ _ (s _ _ h) (ne_of_none h nz)⟩)
  · exact .inr h
theorem sq_same {K : PySem.W.Frag} {H G : Hp} {a : Addr} {xs : List V} (h : SqL K H a xs) (s : Same H G) : SqL K G a xs := by
  rcases h with (h | ⟨o, h⟩) | h
  · exact .inl (.inl (s _ _ h))
  · exact .inl (.inr ⟨o, s _ _ h⟩)
  · exact .inr h
theorem net_dp {K : PySem.W.Frag} {H : Hp} {x r : Addr} {ts : List Addr} {p : Int} {rs : List Road} (h : NetAt H x r ts p rs) : Dp K H (.ref x) (dNet p rs) := .tup (SqT.of h.1) (.cons (.int _) (.cons (.tup (SqT.of h.2.1) (roads_dp h.2.2)) .nil))
theorem two_shaped (n m : Int) : SeqAt.shaped (.list [.int n, .int m]) = true := by
  unfold SeqAt.shaped
  simp [PyData.canLay0, PyData.canLayAll0, PyData.depth, PyData.depthAll]
/-- a net, a start, a goal, a cost, and the two counts, by hand -/
def Hand (H : Hp) (v : V) : Prop := ∃ (t x r d : Addr) (ts : List Addr) (p : Int) (rs : List Road) (a g : Int) (c : Nat), v = .ref t ∧ H t = some (.tup [.ref x, .int a, .int g, .int (c : Int), .ref d]) ∧ NetAt H x r ts p rs ∧ NetOk p rs ∧ 0 ≤ a ∧ a ≤ p - 1 ∧ 0 ≤ g ∧ g ≤ p - 1 ∧ c ≤ 600 ∧ H d = some (.lst [.int (cnt rs g c a), .int (cntTo rs g c a)])
theorem Hand.same {H H' : Hp} {v : V} (h : Hand H v) (s : Same H H') : Hand H' v := by
  obtain ⟨t, x, r, d, ts, p, rs, a, g, c, e, h1, h2, h3, h4, h5, h6, h7, h8, h9⟩ := h
  exact ⟨t, x, r, d, ts, p, rs, a, g, c, e, s _ _ h1, h2.keep fun b xs e => s _ _ e, h3, h4, h5, h6, h7, h8, s _ _ h9⟩
theorem hand_mk {H : Hp} {ts : List Addr} {rs : List Road} {p a g n1 n2 : Int} {c : Nat} {r x d t : Addr} (hR : RoadsAt H ts rs) (ok : NetOk p rs) (h1 : 0 ≤ a) (h2 : a ≤ p - 1) (h3 : 0 ≤ g) (h4 : g ≤ p - 1) (h5 : c ≤ 600) (e1 : cnt rs g c a = n1) (e2 : cntTo rs g c a = n2)
    (nr : H r = none) (nx : (upd H r (.tup (ts.map V.ref))) x = none) (nd : (upd (upd H r (.tup (ts.map V.ref))) x (.tup [.int p, .ref r])) d = none) (nt : (upd (upd (upd H r (.tup (ts.map V.ref))) x (.tup [.int p, .ref r])) d (.lst [.int n1, .int n2])) t = none) :
    ∀ G, G = upd (upd (upd (upd H r (.tup (ts.map V.ref))) x (.tup [.int p, .ref r])) d (.lst [.int n1, .int n2])) t (.tup [.ref x, .int a, .int g, .int (c : Int), .ref d]) → Hand G (.ref t) ∧ Same H G := by
  rintro _ rfl
  have s1 := same_new (H := H) (o := .tup (ts.map V.ref)) nr
  have s2 := same_new (o := .tup [.int p, .ref r]) nx
  have s3 := same_new (o := .lst [.int n1, .int n2]) nd
  have s4 := same_new (o := .tup [.ref x, .int a, .int g, .int (c : Int), .ref d]) nt
  refine ⟨⟨t, x, r, d, ts, p, rs, a, g, c, rfl, upd_same, ⟨s4 _ _ (s3 _ _ upd_same), s4 _ _ (s3 _ _ (s2 _ _ upd_same)), hR.keep fun b xs e => s4 _ _ (s3 _ _ (s2 _ _ (s1 _ _ e)))⟩, ok, h1, h2, h3, h4, h5, ?_⟩, s1.trans (s2.trans (s3.trans s4))⟩
  rw [e1, e2]
  exact s4 _ _ upd_same
def rdA : Road := ⟨0, 1, 3, 0⟩
def rsB : List Road := [⟨0, 1, 1, 0⟩, ⟨1, 0, 1, 0⟩, ⟨0, 1, 2, 0⟩]
section
variable {P : Program} {w : World} {K : PySem.W.Frag} {mg : Str → Option Value} {base : Heap}
set_option maxHeartbeats 4000000 in
theorem law_reads {fL fC fT fCn fEn fSt fTk fNe a : Addr} {dC dT dCn dEn dSt dTk dNe : FuncData} {cdv : Value} {s : Shared} {H : Hp} {ns : List Int} (hdg : base.NoDigits)
    (DC : Df K mg "count_of" sCo ["net", "start", "goal", "cost"] fC dC) (DT : Df K mg "count_to" sCt ["net", "start", "goal", "cost"] fT dT) (GC : FnOk P w K mg base CX0 7 fC dC ["net", "start", "goal", "cost"] (spCount cnt)) (GT : FnOk P w K mg base CX0 7 fT dT ["net", "start", "goal", "cost"] (spCount cntTo))
    (DCn : Df K mg "_law_counts" sCnt ["_law_net_here", "_law_start", "_law_most"] fCn dCn) (GCn : FnOk P w K mg base CX0 7 fCn dCn ["_law_net_here", "_law_start", "_law_most"] spCnt) (DEn : Df K mg "_law_ends" sLEnds ["_law_state_here", "_law_net_here"] fEn dEn) (GEn : FnOk P w K mg base CX0 7 fEn dEn ["_law_state_here", "_law_net_here"] spLEnds)
    (DSt : Df K mg "_law_state" sState ["_law_script", "_law_k"] fSt dSt) (GSt : FnOk P w K mg base CX0 7 fSt dSt ["_law_script", "_law_k"] (spState K)) (DK : Df K mg "_law_take" sTake ["_law_state_here", "_law_far"] fTk dTk) (GK : FnOk P w K mg base CX0 7 fTk dTk ["_law_state_here", "_law_far"] spTake)
    (DNe : Df K mg "_law_net" sNet ["_law_state_here", "_law_most", "_law_far"] fNe dNe) (GNe : FnOk P w K mg base CX0 7 fNe dNe ["_law_state_here", "_law_most", "_law_far"] spNet)
    (mR : mg "range" = none) (mMx : mg "max" = none) (mMn : mg "min" = none) (ml : mg "len" = none) (mS : mg "sum" = none) (mRe : mg "repr" = none)
    (hr : Room 7 (callerA.deeper (envOfC "law" (defScope sLaw) s.heap.objs.size fL cdv))) (hS : SqL K H a (ns.map V.int)) :
    ∃ t, PSs (cxOf CX0 P w K mg base ["_law_script", "_law_by_hand", "_law_net_here", "_law_start", "_law_goal", "_law_cost", "_law_due", "_law_k", "_law_state_here", "_law_turn", "_law_rows", "_law_kept", "_law_row", "_law_lap"] "law" (defScope sLaw) fL cdv callerA [] s H E0).nox (defBody sLaw) t ∧ t { nx := fun _ _ => V.non = .bl true, rt := fun v _ => v = .bl true } (L2.start ["_law_script", "_law_by_hand", "_law_net_here", "_law_start", "_law_goal", "_law_cost", "_law_due", "_law_k", "_law_state_here", "_law_turn", "_law_rows", "_law_kept", "_law_row", "_law_lap"] [.ref a]) H := by
  refine ⟨_, (pss_cons (ps_set (i := 1) scLaw.nd rfl (.inl rfl) (pe_lst (pa_cons (pe_tup (pa_cons (pe_tup (pa_cons pe_int (pa_cons (pe_tup pa_nil) pa_nil))) (pa_cons pe_int (pa_cons pe_int (pa_cons pe_int (pa_cons (pe_lst (pa_cons pe_int (pa_cons pe_int pa_nil))) pa_nil)))))) (pa_cons (pe_tup (pa_cons (pe_tup (pa_cons pe_int (pa_cons (pe_tup pa_nil) pa_nil))) (pa_cons pe_int (pa_cons pe_int (pa_cons pe_int (pa_cons (pe_lst (pa_cons pe_int (pa_cons pe_int pa_nil))) pa_nil)))))) (pa_cons (pe_tup (pa_cons (pe_tup (pa_cons pe_int (pa_cons (pe_tup (pa_cons (pe_tup (pa_cons pe_int (pa_cons pe_int (pa_cons pe_int (pa_cons pe_int pa_nil))))) pa_nil)) pa_nil))) (pa_cons pe_int (pa_cons pe_int (pa_cons pe_int (pa_cons (pe_lst (pa_cons pe_int (pa_cons pe_int pa_nil))) pa_nil)))))) pa_nil)))))
    (pss_cons (ps_expr (pe_bm PySem.F.plainAttrs_list PySem.F.slot_list_append PySem.F.type_list_append mt_append (pv 1) (pa_cons (pe_tup (pa_cons (pe_tup (pa_cons pe_int (pa_cons (pe_tup (pa_cons (pe_tup (pa_cons pe_int (pa_cons pe_int (pa_cons pe_int (pa_cons pe_int pa_nil))))) (pa_cons (pe_tup (pa_cons pe_int (pa_cons pe_int (pa_cons pe_int (pa_cons pe_int pa_nil))))) (pa_cons (pe_tup (pa_cons pe_int (pa_cons pe_int (pa_cons pe_int (pa_cons pe_int pa_nil))))) pa_nil)))) pa_nil))) (pa_cons pe_int (pa_cons pe_int (pa_cons pe_int (pa_cons (pe_lst (pa_cons pe_int (pa_cons pe_int pa_nil))) pa_nil)))))) pa_nil)))
    (pss_cons (ps_for PassesOwn.never rfl (pi_list (pv 1)) (pg_tup (by rfl) (pgs_cons (pg_name (i := 2) scLaw.nd rfl (.inl rfl)) (pgs_cons (pg_name (i := 3) scLaw.nd rfl (.inl rfl)) (pgs_cons (pg_name (i := 4) scLaw.nd rfl (.inr rfl)) (pgs_cons (pg_name (i := 5) scLaw.nd rfl (.inl rfl)) (pgs_cons (pg_name (i := 6) scLaw.nd rfl (.inl rfl)) pgs_nil)))))) (pss_one (ps_if (pt_cmpR (op_neD hr.units) (pe_lst (pa_cons (pe_call GC (hr.mono (by decide)) (by rfl) DC.g DC.F.kp DC.b .nil pass0 (pa_cons (pv 2) (pa_cons (pv 3) (pa_cons (pv 4) (pa_cons (pv 5) pa_nil))))) (pa_cons (pe_call GT (hr.mono (by decide)) (by rfl) DT.g DT.F.kp DT.b .nil pass0 (pa_cons (pv 2) (pa_cons (pv 3) (pa_cons (pv 4) (pa_cons (pv 5) pa_nil))))) pa_nil))) (pv 6) (nomark _)) (pss_one (ps_ret pe_bl)) pss_nil)))
    (pss_cons (ps_for PassesOwn.never rfl (pi_range1 (by rfl) mR (pa_cons (pe_callB (call_max2 rfl) (by rfl) mMx (by decide +kernel) (pa_cons pe_int (pa_cons (pe_callB (call_min2 rfl) (by rfl) mMn (by decide +kernel) (pa_cons (pe_callB call_len_seq (by rfl) ml PySem.boot_len (pa_cons (pv 0) pa_nil)) (pa_cons pe_int pa_nil))) pa_nil))) pa_nil)) (pg_name (i := 7) scLaw.nd rfl (.inl rfl)) (pss_cons (ps_set (i := 8) scLaw.nd rfl (.inl rfl) (pe_call GSt (hr.mono (by decide)) (by rfl) DSt.g DSt.F.kp DSt.b .nil pass0 (pa_cons (pv 0) (pa_cons (pv 7) pa_nil))))
    (pss_one (ps_for PassesOwn.never rfl (pi_range1 (by rfl) mR (pa_cons pe_int pa_nil)) (pg_name (i := 9) scLaw.nd rfl (.inl rfl)) (pss_cons (ps_set (i := 2) scLaw.nd rfl (.inl rfl) (pe_call GNe (hr.mono (by decide)) (by rfl) DNe.g DNe.F.kp DNe.b .nil pass0 (pa_cons (pv 8) (pa_cons pe_int (pa_cons pe_int pa_nil)))))
    (pss_cons (ps_asg (pe_call GEn (hr.mono (by decide)) (by rfl) DEn.g DEn.F.kp DEn.b .nil pass0 (pa_cons (pv 8) (pa_cons (pv 2) pa_nil))) (pg_tup (by rfl) (pgs_cons (pg_name (i := 3) scLaw.nd rfl (.inl rfl)) (pgs_cons (pg_name (i := 4) scLaw.nd rfl (.inr rfl)) pgs_nil))))
    (pss_cons (ps_set (i := 5) scLaw.nd rfl (.inl rfl) (pe_cut (pe_ix ix_list (pe_lst (pa_cons (pe_call GK (hr.mono (by decide)) (by rfl) DK.g DK.F.kp DK.b .nil pass0 (pa_cons (pv 8) (pa_cons pe_int pa_nil))) (pa_cons (pe_call GK (hr.mono (by decide)) (by rfl) DK.g DK.F.kp DK.b .nil pass0 (pa_cons (pv 8) (pa_cons pe_int pa_nil))) (pa_cons pe_int (pa_cons pe_int pa_nil))))) (pe_call GK (hr.mono (by decide)) (by rfl) DK.g DK.F.kp DK.b .nil pass0 (pa_cons (pv 8) (pa_cons pe_int pa_nil))) (fun _ _ => rfl))))
    (pss_cons (ps_par (i := 10) (j := 11) (by rfl) scLaw.nd rfl rfl (by decide) rfl rfl (pa_cons (pe_call GCn (hr.mono (by decide)) (by rfl) DCn.g DCn.F.kp DCn.b .nil pass0 (pa_cons (pv 2) (pa_cons (pv 3) (pa_cons (pv 5) pa_nil)))) (pa_cons (pe_callB (call_reprD (by rfl) hr.units) (by rfl) mRe (by decide +kernel) (pa_cons (pv 2) pa_nil)) pa_nil)) (by rfl))
    (pss_cons (ps_set (i := 6) scLaw.nd rfl (.inl rfl) (pe_lst (pa_cons (pe_ix ix_list (pe_ix ix_list (pv 10) (pv 5) (fun _ _ => rfl)) (pv 4) (fun _ _ => rfl)) (pa_cons (pe_callB (cr_sum rfl) (by rfl) mS (by decide +kernel) (pa_cons (pe_lc (own := [("_law_row", 12)]) (g := gName 12) (tt := tYes) rfl scLaw.nd (pi_list (pv 10)) (blkOk_by (N := ["_law_script", "_law_by_hand", "_law_net_here", "_law_start", "_law_goal", "_law_cost", "_law_due", "_law_k", "_law_state_here", "_law_turn", "_law_rows", "_law_kept", "_law_row", "_law_lap"]) (sc := defScope sLaw) (by decide +kernel)) (fun _ _ _ _ _ => pg_name (i := 12) scLaw.nd rfl (.inl rfl)) (fun _ _ _ _ _ => pts_nil) (fun _ _ _ _ _ => pe_ix (ix_listK (K := K) rfl) (pv 12) (pv 4) (fun _ _ => rfl))) pa_nil)) pa_nil))))
    (pss_cons (ps_for PassesOwn.never rfl (pi_range1 (by rfl) mR (pa_cons pe_int pa_nil)) (pg_name (i := 13) scLaw.nd rfl (.inl rfl)) (pss_one (ps_if (pt_cmpR op_ne (pe_callB (call_reprN hdg (by rfl) hr.units) (by rfl) mRe (by decide +kernel) (pa_cons (pe_lst (pa_cons (pe_call GC (hr.mono (by decide)) (by rfl) DC.g DC.F.kp DC.b .nil pass0 (pa_cons (pv 2) (pa_cons (pv 3) (pa_cons (pv 4) (pa_cons (pv 5) pa_nil))))) (pa_cons (pe_call GT (hr.mono (by decide)) (by rfl) DT.g DT.F.kp DT.b .nil pass0 (pa_cons (pv 2) (pa_cons (pv 3) (pa_cons (pv 4) (pa_cons (pv 5) pa_nil))))) pa_nil))) pa_nil)) (pe_callB (call_reprN hdg (by rfl) hr.units) (by rfl) mRe (by decide +kernel) (pa_cons (pv 6) pa_nil)) (nomark _)) (pss_one (ps_ret pe_bl)) pss_nil)))
    (pss_one (ps_if (pt_cmpR op_ne (pe_callB (call_reprD (by rfl) hr.units) (by rfl) mRe (by decide +kernel) (pa_cons (pv 2) pa_nil)) (pv 11) (nomark _)) (pss_one (ps_ret pe_bl)) pss_nil))))))))))))
    (pss_one (ps_ret pe_bl)))))), ?_⟩
  have ok1 : NetOk 1 [] := ⟨by decide, by decide, by decide, fun _ h => (nomatch h)⟩
  have okA : NetOk 2 [rdA] := ⟨by decide, by decide, by decide, fun q hq => by
    rw [List.mem_singleton.mp hq]
    exact ⟨by decide, by decide, by decide, by decide, by decide, by decide, by decide, by decide, by decide⟩⟩
  have okB : NetOk 2 rsB := ⟨by decide, by decide, by decide, fun q hq => by
    simp only [rsB, List.mem_cons, List.not_mem_nil, or_false] at hq
    rcases hq with rfl | rfl | rfl <;> exact ⟨by decide, by decide, by decide, by decide, by decide, by decide, by decide, by decide, by decide⟩⟩
  -- by hand
  refine ⟨Nat.zero_le _, fun r1 nr1 => ⟨by show 2 ≤ sizeLine; decide, fun x1 nx1 => ⟨by show 2 ≤ sizeLine; decide, fun d1 nd1 => ⟨by show 5 ≤ sizeLine; decide, fun t1 nt1 => ?_⟩⟩⟩⟩
  obtain ⟨h1, s1⟩ := hand_mk (ts := []) (rs := []) (p := 1) (a := 0) (g := 0) (c := 0) (n1 := 1) (n2 := 1) .nil ok1 (by decide) (by decide) (by decide) (by decide) (by decide) ((cnt_F _ _ 1 _ _ (by decide)).trans (by decide +kernel)) ((cntTo_F _ _ 1 _ _ (by decide)).trans (by decide +kernel)) nr1 nx1 nd1 nt1 _ rfl
  generalize hG1 : upd (upd (upd (upd H r1 (.tup (([] : List Addr).map V.ref))) x1 (.tup [.int 1, .ref r1])) d1 (.lst [.int 1, .int 1])) t1 (.tup [.ref x1, .int 0, .int 0, .int ((0 : Nat) : Int), .ref d1]) = G1 at h1 s1
  have hG1' : upd (upd (upd (upd H r1 (.tup [])) x1 (.tup [.int 1, .ref r1])) d1 (.lst [.int 1, .int 1])) t1 (.tup [.ref x1, .int 0, .int 0, .int 0, .ref d1]) = G1 := hG1
  rw [hG1']
  refine ⟨Nat.zero_le _, fun r2 nr2 => ⟨by show 2 ≤ sizeLine; decide, fun x2 nx2 => ⟨by show 2 ≤ sizeLine; decide, fun d2 nd2 => ⟨by show 5 ≤ sizeLine; decide, fun t2 nt2 => ?_⟩⟩⟩⟩
  obtain ⟨h2, s2⟩ := hand_mk (ts := []) (rs := []) (p := 1) (a := 0) (g := 0) (c := 600) (n1 := 0) (n2 := 1) .nil ok1 (by decide) (by decide) (by decide) (by decide) (by decide) ((cnt_F _ _ 601 _ _ (by decide)).trans (by decide +kernel)) ((cntTo_F _ _ 601 _ _ (by decide)).trans (by decide +kernel)) nr2 nx2 nd2 nt2 _ rfl
  generalize hG2 : upd (upd (upd (upd G1 r2 (.tup (([] : List Addr).map V.ref))) x2 (.tup [.int 1, .ref r2])) d2 (.lst [.int 0, .int 1])) t2 (.tup [.ref x2, .int 0, .int 0, .int ((600 : Nat) : Int), .ref d2]) = G2 at h2 s2
  have hG2' : upd (upd (upd (upd G1 r2 (.tup [])) x2 (.tup [.int 1, .ref r2])) d2 (.lst [.int 0, .int 1])) t2 (.tup [.ref x2, .int 0, .int 0, .int 600, .ref d2]) = G2 := hG2
  rw [hG2']
  refine ⟨by show 4 ≤ sizeLine; decide, fun qa nqa => ⟨by show 1 ≤ sizeLine; decide, fun r3 nr3 => ⟨by show 2 ≤ sizeLine; decide, fun x3 nx3 => ⟨by show 2 ≤ sizeLine; decide, fun d3 nd3 => ⟨by show 5 ≤ sizeLine; decide, fun t3 nt3 => ?_⟩⟩⟩⟩⟩
  have sqa := same_new (H := G2) (o := .tup [.int 0, .int 1, .int 3, .int 0]) nqa
  obtain ⟨h3, s3⟩ := hand_mk (H := upd G2 qa (.tup [.int 0, .int 1, .int 3, .int 0])) (ts := [qa]) (rs := [rdA]) (p := 2) (a := 0) (g := 1) (c := 3) (n1 := 1) (n2 := 1) (.cons upd_same .nil) okA (by decide) (by decide) (by decide) (by decide) (by decide) ((cnt_F _ _ 4 _ _ (by decide)).trans (by decide +kernel)) ((cntTo_F _ _ 4 _ _ (by decide)).trans (by decide +kernel)) nr3 nx3 nd3 nt3 _ rfl
  generalize hG3 : upd (upd (upd (upd (upd G2 qa (.tup [.int 0, .int 1, .int 3, .int 0])) r3 (.tup ([qa].map V.ref))) x3 (.tup [.int 2, .ref r3])) d3 (.lst [.int 1, .int 1])) t3 (.tup [.ref x3, .int 0, .int 1, .int ((3 : Nat) : Int), .ref d3]) = G3 at h3 s3
  have hG3' : upd (upd (upd (upd (upd G2 qa (.tup [.int 0, .int 1, .int 3, .int 0])) r3 (.tup [.ref qa])) x3 (.tup [.int 2, .ref r3])) d3 (.lst [.int 1, .int 1])) t3 (.tup [.ref x3, .int 0, .int 1, .int 3, .ref d3]) = G3 := hG3
  rw [hG3']
  refine ⟨by show 3 ≤ sizeLine; decide, fun l nl => ?_⟩
  have sl := same_new (H := G3) (o := .lst [.ref t1, .ref t2, .ref t3]) nl
  have el : (upd G3 l (.lst [.ref t1, .ref t2, .ref t3])) l = some (.lst [.ref t1, .ref t2, .ref t3]) := upd_same
  have c1 := ((h1.same s2).same (sqa.trans s3)).same sl
  have c2 := (h2.same (sqa.trans s3)).same sl
  have c3 := h3.same sl
  have sH := s1.trans (s2.trans ((sqa.trans s3).trans sl))
  have nlH : H l = none := (s1.trans (s2.trans (sqa.trans s3))).free nl
  generalize upd G3 l (.lst [.ref t1, .ref t2, .ref t3]) = G4 at el c1 c2 c3 sH ⊢
  refine ⟨.ref l, rfl, .inl ⟨rfl, _, SqL.of el⟩, ?_⟩
  refine ⟨by show 4 ≤ sizeLine; decide, fun qb nqb => ⟨by show 4 ≤ sizeLine; decide, fun qc nqc => ⟨by show 4 ≤ sizeLine; decide, fun qd nqd => ⟨by show 3 ≤ sizeLine; decide, fun r4 nr4 => ⟨by show 2 ≤ sizeLine; decide, fun x4 nx4 => ⟨by show 2 ≤ sizeLine; decide, fun d4 nd4 => ⟨by show 5 ≤ sizeLine; decide, fun t4 nt4 => ?_⟩⟩⟩⟩⟩⟩⟩
  have sqb := same_new (H := G4) (o := .tup [.int 0, .int 1, .int 1, .int 0]) nqb
  have sqc := same_new (o := .tup [.int 1, .int 0, .int 1, .int 0]) nqc
  have sqd := same_new (o := .tup [.int 0, .int 1, .int 2, .int 0]) nqd
  obtain ⟨h4, s4⟩ := hand_mk (H := upd (upd (upd G4 qb (.tup [.int 0, .int 1, .int 1, .int 0])) qc (.tup [.int 1, .int 0, .int 1, .int 0])) qd (.tup [.int 0, .int 1, .int 2, .int 0])) (ts := [qb, qc, qd]) (rs := rsB) (p := 2) (a := 0) (g := 1) (c := 4) (n1 := 2) (n2 := 5) (.cons (sqd _ _ (sqc _ _ upd_same)) (.cons (sqd _ _ upd_same) (.cons upd_same .nil))) okB (by decide) (by decide) (by decide) (by decide) (by decide) ((cnt_F _ _ 5 _ _ (by decide)).trans (by decide +kernel)) ((cntTo_F _ _ 5 _ _ (by decide)).trans (by decide +kernel)) nr4 nx4 nd4 nt4 _ rfl
  generalize hG5 : upd (upd (upd (upd (upd (upd (upd G4 qb (.tup [.int 0, .int 1, .int 1, .int 0])) qc (.tup [.int 1, .int 0, .int 1, .int 0])) qd (.tup [.int 0, .int 1, .int 2, .int 0])) r4 (.tup ([qb, qc, qd].map V.ref))) x4 (.tup [.int 2, .ref r4])) d4 (.lst [.int 2, .int 5])) t4 (.tup [.ref x4, .int 0, .int 1, .int ((4 : Nat) : Int), .ref d4]) = G45 at h4 s4
  have hG5' : upd (upd (upd (upd (upd (upd (upd G4 qb (.tup [.int 0, .int 1, .int 1, .int 0])) qc (.tup [.int 1, .int 0, .int 1, .int 0])) qd (.tup [.int 0, .int 1, .int 2, .int 0])) r4 (.tup [.ref qb, .ref qc, .ref qd])) x4 (.tup [.int 2, .ref r4])) d4 (.lst [.int 2, .int 5])) t4 (.tup [.ref x4, .int 0, .int 1, .int 4, .ref d4]) = G45 := hG5
  rw [hG5']
  have s5 := sqb.trans (sqc.trans (sqd.trans s4))
  refine ⟨l, _, _, rfl, rfl, s5 _ _ el, by show 3 < sizeLine; decide, ?_⟩
  have keepH : ∀ {G : Hp} {v : V}, Hand G v → G l = some (.lst [.ref t1, .ref t2, .ref t3]) → Hand (upd G l (.lst ([.ref t1, .ref t2, .ref t3] ++ [.ref t4]))) v := fun {G v} h e => by
    obtain ⟨t, x, r, d, ts, p, rs, a, g, c, ev, k1, k2, k3, k4, k5, k6, k7, k8, k9⟩ := h
    have dl : d ≠ l := fun z => by
      rw [z, e] at k9
      have := HO.lst.inj (Option.some.inj k9)
      simp at this
    refine ⟨t, x, r, d, ts, p, rs, a, g, c, ev, ?_, k2.keep fun b xs h => ?_, k3, k4, k5, k6, k7, k8, ?_⟩
    · rw [upd_ne (ne_of k1 e fun q => nomatch q)]
      exact k1
    · rw [upd_ne (ne_of h e fun q => nomatch q)]
      exact h
    · rw [upd_ne dl]
      exact k9
  have e5 := s5 _ _ el
  have b1 := keepH (c1.same s5) e5
  have b2 := keepH (c2.same s5) e5
  have b3 := keepH (c3.same s5) e5
  have b4 := keepH h4 e5
  have sK : Same H (upd G45 l (.lst ([.ref t1, .ref t2, .ref t3] ++ [.ref t4]))) := fun c o e => by
    rw [upd_ne (ne_of_none e nlH)]
    exact (sH.trans s5) _ _ e
  have eL : (upd G45 l (.lst ([.ref t1, .ref t2, .ref t3] ++ [.ref t4]))) l = some (.lst [.ref t1, .ref t2, .ref t3, .ref t4]) := upd_same
  have each : ∀ v ∈ [V.ref t1, .ref t2, .ref t3, .ref t4], Hand (upd G45 l (.lst ([.ref t1, .ref t2, .ref t3] ++ [.ref t4]))) v := fun v hv => by
    simp only [List.mem_cons, List.not_mem_nil, or_false] at hv
    rcases hv with rfl | rfl | rfl | rfl
    · exact b1
    · exact b2
    · exact b3
    · exact b4
  generalize upd G45 l (.lst ([.ref t1, .ref t2, .ref t3] ++ [.ref t4])) = G5 at sK eL each ⊢
  refine ⟨.ref l, rfl, l, rfl, ⟨_, SqL.of eL⟩, ?_⟩
  refine for_list (xs := [.ref t1, .ref t2, .ref t3, .ref t4]) (fun _ σ G => ∃ y2 y3 y4 y5 y6 : Option V, σ = [some (.ref a), some (.ref l), y2, y3, y4, y5, y6, none, none, none, none, none, none, none] ∧ Same G5 G) ⟨_, _, _, _, _, rfl, Same.refl _⟩ (fun _ σ G _ h => ?_) (fun e v σ G hv h => ?_) (fun σ G h => ?_)
  · obtain ⟨_, _, _, _, _, _, sm⟩ := h
    exact SqL.of (sm _ _ eL)
  · obtain ⟨y2, y3, y4, y5, y6, rfl, sm⟩ := h
    obtain ⟨t, x, r, d, ts, p, rs, b, g, c, rfl, k1, k2, k3, k4, k5, k6, k7, k8, k9⟩ := (each v (List.mem_of_getElem? hv)).same sm
    refine ⟨t, _, rfl, SqT.of k1, rfl, .ref x, _, rfl, .int b, _, rfl, .int g, _, rfl, .int (c : Int), _, rfl, .ref d, _, rfl, rfl, ?_⟩
    refine ⟨.ref x, rfl, .int b, rfl, .int g, rfl, .int (c : Int), rfl, x, r, ts, p, rs, b, g, c, rfl, k2, k3, k4, k5, k6, k7, k8, fun Ga sa => ?_⟩
    refine ⟨.ref x, rfl, .int b, rfl, .int g, rfl, .int (c : Int), rfl, x, r, ts, p, rs, b, g, c, rfl, k2.keep (fun b xs h => sa _ _ h), k3, k4, k5, k6, k7, k8, fun Gb sb => ⟨by show 2 ≤ sizeLine; decide, fun l1 nl1 => ?_⟩⟩
    have z1 := same_new (H := Gb) (o := .lst [.int (cnt rs g c b), .int (cntTo rs g c b)]) nl1
    refine ⟨.ref d, rfl, .list [.int (cnt rs g c b), .int (cntTo rs g c b)], .list [.int (cnt rs g c b), .int (cntTo rs g c b)], .lst (SqL.of upd_same) (.cons (.int _) (.cons (.int _) .nil)), .lst (SqL.of (z1 _ _ (sb _ _ (sa _ _ k9)))) (.cons (.int _) (.cons (.int _) .nil)), two_shaped _ _, two_shaped _ _, _, rfl, ?_⟩
    rw [SeqAt.eqv_refl]
    rotate_left
    · simp [PyData.canLay0, PyData.canLayAll0]
    exact iteF ⟨_, _, _, _, _, rfl, sm.trans (sa.trans (sb.trans z1))⟩
  obtain ⟨y2, y3, y4, y5, y6, rfl, sm⟩ := h
  have hS5 := sq_same hS (sK.trans sm)
  have len0 : (0 : Int) ≤ ((ns.map V.int).length : Int) := Int.natCast_nonneg _
  refine ⟨.ref a, rfl, a, _, rfl, .inl hS5, _, 4, rfl, 1, _, rfl, _, rfl, by split <;> split <;> omega, by split <;> split <;> omega, ?_⟩
  refine for_range (lo := 0) (fun _ σ H' => ∃ y2 y3 y4 y5 y6 y7 y8 y9 y10 y11 y13 : Option V, σ = [some (.ref a), some (.ref l), y2, y3, y4, y5, y6, y7, y8, y9, y10, y11, none, y13] ∧ SqL K H' a (ns.map V.int)) ⟨_, _, _, _, _, _, _, _, _, _, _, rfl, hS5⟩ (fun i σ H' hi h => ?_) (fun σ H' h => rfl)
  obtain ⟨y2, y3, y4, y5, y6, y7, y8, y9, y10, y11, y13, rfl, hSq⟩ := h
  refine ⟨.ref a, rfl, .int (0 + (i : Int)), rfl, a, ns, i, (by show [V.ref a, V.int (0 + (i : Int))] = _; rw [Int.zero_add]), hSq, fun Hz z sz nz stz => ?_⟩
  have az : ∀ G, Keep z Hz G → SqL K G a (ns.map V.int) := sq_stays hSq sz nz
  refine ⟨2, rfl, by decide, by decide, ?_⟩
  refine for_range (lo := 0) (n := 2) (fun _ σ H' => ∃ y2 y3 y4 y5 y6 y9 y10 y11 y13 : Option V, σ = [some (.ref a), some (.ref l), y2, y3, y4, y5, y6, some (.int (0 + (i : Int))), some (.ref z), y9, y10, y11, none, y13] ∧ Keep z Hz H' ∧ StOk H' z) ⟨_, _, _, _, _, _, _, _, _, rfl, Keep.refl _ _, stz⟩ (fun j σ H' hj h => ?_) (fun σ H' h => ?_)
  · obtain ⟨y2, y3, y4, y5, y6, y9, y10, y11, y13, rfl, kz, st⟩ := h
    refine ⟨.ref z, rfl, z, 10, 30, rfl, st, by decide, by decide, by decide, by decide, fun Hn x r ts p rs kn stn hN ok _ _ => ?_⟩
    refine ⟨.ref z, rfl, .ref x, rfl, z, x, r, ts, p, rs, rfl, stn, hN, ok, fun He T' b g ke ste eT b0 b1 g0 g1 => ?_⟩
    have hNe := hN.keep (ke.tups stn)
    refine ⟨T', _, rfl, SqT.of eT, rfl, .int b, _, rfl, .int g, _, rfl, rfl, ?_⟩
    refine ⟨fun v G => ∃ c : Nat, v = .int (c : Int) ∧ c ≤ 600 ∧ Keep z He G ∧ StOk G z, ?_, ?_⟩
    · refine ⟨.ref z, rfl, z, 31, rfl, ste, by decide, by decide, fun Ha o1 ka sa u0 u1 => ⟨.ref z, rfl, z, 101, rfl, sa, by decide, by decide, fun Hb o2 kb sb v0 v1 => ⟨by show 4 ≤ sizeLine; decide, fun d nd => ⟨.ref z, rfl, z, 4, rfl, sb.same (same_new nd), by decide, by decide, fun Hc o3 kc sc e0 e1 => ?_⟩⟩⟩⟩
      have dz : d ≠ z := (sb.ne nd).symm
      obtain ⟨v, hv, ev⟩ := pick (xs := [V.int o1, V.int o2, V.int 600, V.int 0]) e0 e1
      refine ⟨d, _, o3, v, rfl, rfl, SqL.of (kc _ _ upd_same dz), ev, ?_⟩
      have kk := ka.trans (kb.trans ((Keep.new nd).trans kc))
      simp only [List.mem_cons, List.not_mem_nil, or_false] at hv
      rcases hv with rfl | rfl | rfl | rfl
      · exact ⟨o1.toNat, by rw [Int.toNat_of_nonneg u0], by omega, kk, sc⟩
      · exact ⟨o2.toNat, by rw [Int.toNat_of_nonneg v0], by omega, kk, sc⟩
      · exact ⟨600, rfl, by decide, kk, sc⟩
      · exact ⟨0, rfl, by decide, kk, sc⟩
    rintro _ Hc ⟨c, rfl, hc, kc, stc⟩
    have hNc := hNe.keep (kc.tups ste)
    refine ⟨.ref x, rfl, .int b, rfl, .int (c : Int), rfl, x, r, ts, p, rs, b, c, rfl, hNc, ok, b0, b1, hc, fun Hd R us sd eR hul hrows => ?_⟩
    have hNd : NetAt Hd x r ts p rs := hNc.keep fun b xs h => sd _ _ h
    refine ⟨.ref x, rfl, _, _, rfl, .dp (net_dp hNd), (Sh.net ok).mono (by decide) (by decide), ?_⟩
    refine ⟨_, _, rfl, ?_⟩
    have l30 := ok.len
    -- what is due
    have hcu : c < us.length := by omega
    have eu := List.getElem?_eq_getElem hcu
    refine ⟨.ref R, rfl, .int (c : Int), rfl, R, _, (c : Int), .ref us[c], rfl, rfl, SqL.of eR, atI_nat (ref_at eu), .int g, rfl, us[c], _, g, _, rfl, rfl, SqL.of (hrows c _ eu), rowF_at g0 g1, ?_⟩
    rw [← cnt_rev]
    refine ⟨.ref R, rfl, R, rfl, ⟨_, SqL.of eR⟩, fun D nD => ?_⟩
    refine lc_list (xs := us.map V.ref) (fun i H' => Same Hd H' ∧ H' D = some (.lst (((List.range i).map fun d => cnt rs g d b).map V.int))) ⟨same_new nD, upd_same⟩ (fun i H' _ h => SqL.of (h.1 _ _ eR)) (fun i y H' hy h => ?_) (fun H' h => ?_)
    · obtain ⟨sm, eD⟩ := h
      rw [List.getElem?_map] at hy
      obtain ⟨u, e1, rfl⟩ := Option.map_eq_some_iff.mp hy
      have hi := (List.getElem?_eq_some_iff.mp e1).1
      refine ⟨rfl, ?_⟩
      unfold tYes
      dsimp only
      rw [if_pos rfl]
      refine ⟨.ref u, rfl, .int g, rfl, u, _, g, _, rfl, rfl, SqL.of (sm _ _ (hrows i u e1)), rowF_at g0 g1, _, eD, ?_, Same.upd_lst sm nD, ?_⟩
      · rw [List.length_map, List.length_map, List.length_range]
        exact small1000 (by omega)
      · rw [upd_same, List.range_succ, List.map_append, List.map_append, ← cnt_rev]
        rfl
    obtain ⟨sm2, eD⟩ := h
    rw [List.length_map, hul] at eD
    refine ⟨D, _, rfl, SqL.of eD, by show 2 ≤ sizeLine; decide, fun dd ndd => ?_⟩
    have z1 := same_new (H := H') (o := .lst [.int (cnt rs g c b), .int (cntTo rs g c b)]) ndd
    have edd : (upd H' dd (.lst [.int (cnt rs g c b), .int (cntTo rs g c b)])) dd = some (.lst [.int (cnt rs g c b), .int (cntTo rs g c b)]) := upd_same
    have sE : Same Hd (upd H' dd (.lst [.int (cnt rs g c b), .int (cntTo rs g c b)])) := sm2.trans z1
    have bnd : ∀ n ∈ [cnt rs g c b, cntTo rs g c b], n.natAbs < 10 ^ 4300 := fun n hn => by
      rcases List.mem_cons.mp hn with e | hn
      · rw [e]
        exact cnt_big l30 hc g b
      · rw [List.mem_singleton.mp hn]
        exact cntTo_big l30 hc g b
    show (fun H0 : Hp => _) (upd H' dd (.lst [.int (cnt rs g c b), .int (cntTo rs g c b)]))
    generalize upd H' dd (.lst [.int (cnt rs g c b), .int (cntTo rs g c b)]) = He2 at edd sE ⊢
    refine ⟨2, rfl, by decide, by decide, ?_⟩
    refine for_range (lo := 0) (n := 2) (fun _ σ G => ∃ y13 : Option V, σ = [some (.ref a), some (.ref l), some (.ref x), some (.int b), some (.int g), some (.int (c : Int)), some (.ref dd), some (.int (0 + (i : Int))), some (.ref z), some (.int (0 + (j : Int))), some (.ref R), some (.str (dNet p rs).shown), none, y13] ∧ Same He2 G) ⟨_, rfl, Same.refl _⟩ (fun e σ G he h => ?_) (fun σ G h => ?_)
    · obtain ⟨y13, rfl, sm⟩ := h
      have hNG : NetAt G x r ts p rs := hNd.keep fun b xs h => sm _ _ (sE _ _ h)
      refine ⟨.ref x, rfl, .int b, rfl, .int g, rfl, .int (c : Int), rfl, x, r, ts, p, rs, b, g, c, rfl, hNG, ok, b0, b1, g0, g1, hc, fun Ga sa => ?_⟩
      refine ⟨.ref x, rfl, .int b, rfl, .int g, rfl, .int (c : Int), rfl, x, r, ts, p, rs, b, g, c, rfl, hNG.keep (fun b xs h => sa _ _ h), ok, b0, b1, g0, g1, hc, fun Gb sb => ⟨by show 2 ≤ sizeLine; decide, fun l1 nl1 => ?_⟩⟩
      have z2 := same_new (H := Gb) (o := .lst [.int (cnt rs g c b), .int (cntTo rs g c b)]) nl1
      refine ⟨l1, [cnt rs g c b, cntTo rs g c b], rfl, SqL.of upd_same, List.cons_ne_nil _ _, by show 2 ≤ 100; decide, bnd, ?_⟩
      refine ⟨.ref dd, rfl, dd, [cnt rs g c b, cntTo rs g c b], rfl, SqL.of (z2 _ _ (sb _ _ (sa _ _ (sm _ _ edd)))), List.cons_ne_nil _ _, by show 2 ≤ 100; decide, bnd, ?_⟩
      refine ⟨rfl, _, rfl, ?_⟩
      rw [decide_eq_true rfl]
      exact iteF ⟨_, rfl, sm.trans (sa.trans (sb.trans z2))⟩
    · obtain ⟨y13, rfl, sm⟩ := h
      have hNG : NetAt G x r ts p rs := hNd.keep fun b xs h => sm _ _ (sE _ _ h)
      refine ⟨.ref x, rfl, _, _, rfl, .dp (net_dp hNG), (Sh.net ok).mono (by decide) (by decide), ?_⟩
      refine ⟨_, rfl, rfl, _, rfl, ?_⟩
      rw [decide_eq_true rfl]
      have sZ := sd.trans (sE.trans sm)
      exact iteF ⟨_, _, _, _, _, _, _, _, _, rfl, kz.trans (kn.trans (ke.trans (kc.trans (.of sZ)))), stc.same sZ⟩
  · obtain ⟨y2, y3, y4, y5, y6, y9, y10, y11, y13, rfl, kz, st⟩ := h
    exact ⟨_, _, _, _, _, _, _, _, _, _, _, rfl, az _ kz⟩

end
end Wy

namespace Wy
open PySem PySem.Spec PyProof.Rows L2
set_option maxHeartbeats 4000000 in
theorem fin_mk {P : Program} {w : World} {K : PySem.W.Frag} {h : Heap} {mg : Str → Option Value} {fa f1 f2 f3 f4 f5 fN fP fE fQ fR fRs fCo fCt fSt fCe fTk fNe fEn fCn fL  : Addr} {t1 t2 t3 t4 t5 t6 : Tok} 
    {od1 an1 : Option Addr} {sl1 : Array (Option Value)} {oc1 kV1 dc1 pm1 ct1 cd1 : Value}
    {od2 an2 : Option Addr} {sl2 : Array (Option Value)} {oc2 kV2 dc2 pm2 ct2 cd2 : Value}
    {od3 an3 : Option Addr} {sl3 : Array (Option Value)} {oc3 kV3 dc3 pm3 ct3 cd3 : Value}
    {od4 an4 : Option Addr} {sl4 : Array (Option Value)} {oc4 kV4 dc4 pm4 ct4 cd4 : Value}
    {od5 an5 : Option Addr} {sl5 : Array (Option Value)} {oc5 kV5 dc5 pm5 ct5 cd5 : Value}
    {odN anN : Option Addr} {slN : Array (Option Value)} {ocN kVN dcN pmN ctN cdN : Value}
    {odP anP : Option Addr} {slP : Array (Option Value)} {ocP kVP dcP pmP ctP cdP : Value}
    {odE anE : Option Addr} {slE : Array (Option Value)} {ocE kVE dcE pmE ctE cdE : Value}
    {odQ anQ : Option Addr} {slQ : Array (Option Value)} {ocQ kVQ dcQ pmQ ctQ cdQ : Value}
    {odR anR : Option Addr} {slR : Array (Option Value)} {ocR kVR dcR pmR ctR cdR : Value}
    {odRs anRs : Option Addr} {slRs : Array (Option Value)} {ocRs kVRs dcRs pmRs ctRs cdRs : Value}
    {odCo anCo : Option Addr} {slCo : Array (Option Value)} {ocCo kVCo dcCo pmCo ctCo cdCo : Value}
    {odCt anCt : Option Addr} {slCt : Array (Option Value)} {ocCt kVCt dcCt pmCt ctCt cdCt : Value}
    {odSt anSt : Option Addr} {slSt : Array (Option Value)} {ocSt kVSt dcSt pmSt ctSt cdSt : Value}
    {odCe anCe : Option Addr} {slCe : Array (Option Value)} {ocCe kVCe dcCe pmCe ctCe cdCe : Value}
    {odTk anTk : Option Addr} {slTk : Array (Option Value)} {ocTk kVTk dcTk pmTk ctTk cdTk : Value}
    {odNe anNe : Option Addr} {slNe : Array (Option Value)} {ocNe kVNe dcNe pmNe ctNe cdNe : Value}
    {odEn anEn : Option Addr} {slEn : Array (Option Value)} {ocEn kVEn dcEn pmEn ctEn cdEn : Value}
    {odCn anCn : Option Addr} {slCn : Array (Option Value)} {ocCn kVCn dcCn pmCn ctCn cdCn : Value}
    {odL anL : Option Addr} {slL : Array (Option Value)} {ocL kVL dcL pmL ctL cdL : Value}
    (X : K.In h) (G : h.Ns mainGlobals mg) (hfa : mg "law" = some (.ref fa))
    (a1 : PySem.W.nsIn K mainGlobals "is_whole" = some (some (.ref f1)))
    (l1 : K.lookup f1 = some ⟨oc1, od1, .func (PySem.W.fnOf "is_whole" "is_whole" (defArgs sWhole) (defBody sWhole) (defScope sWhole) .none kV1 dc1 pm1 an1 cd1 ct1), sl1⟩)
    (c1_ : PySem.W.codeIn K cd1 "is_whole" = true)
    (k1_ : PySem.W.keepIn K (.ref f1) = true)
    (a2 : PySem.W.nsIn K mainGlobals "is_within" = some (some (.ref f2)))
    (l2 : K.lookup f2 = some ⟨oc2, od2, .func (PySem.W.fnOf "is_within" "is_within" (defArgs sWithin) (defBody sWithin) (defScope sWithin) .none kV2 dc2 pm2 an2 cd2 ct2), sl2⟩)
    (c2_ : PySem.W.codeIn K cd2 "is_within" = true)
    (k2_ : PySem.W.keepIn K (.ref f2) = true)
    (a3 : PySem.W.nsIn K mainGlobals "is_tuple_of" = some (some (.ref f3)))
    (l3 : K.lookup f3 = some ⟨oc3, od3, .func (PySem.W.fnOf "is_tuple_of" "is_tuple_of" (defArgs sTupOf) (defBody sTupOf) (defScope sTupOf) .none kV3 dc3 pm3 an3 cd3 ct3), sl3⟩)
    (c3_ : PySem.W.codeIn K cd3 "is_tuple_of" = true)
    (k3_ : PySem.W.keepIn K (.ref f3) = true)
    (a4 : PySem.W.nsIn K mainGlobals "is_road_among" = some (some (.ref f4)))
    (l4 : K.lookup f4 = some ⟨oc4, od4, .func (PySem.W.fnOf "is_road_among" "is_road_among" (defArgs sRoadQ) (defBody sRoadQ) (defScope sRoadQ) .none kV4 dc4 pm4 an4 cd4 ct4), sl4⟩)
    (c4_ : PySem.W.codeIn K cd4 "is_road_among" = true)
    (k4_ : PySem.W.keepIn K (.ref f4) = true)
    (a5 : PySem.W.nsIn K mainGlobals "is_net" = some (some (.ref f5)))
    (l5 : K.lookup f5 = some ⟨oc5, od5, .func (PySem.W.fnOf "is_net" "is_net" (defArgs sNetQ) (defBody sNetQ) (defScope sNetQ) .none kV5 dc5 pm5 an5 cd5 ct5), sl5⟩)
    (c5_ : PySem.W.codeIn K cd5 "is_net" = true)
    (k5_ : PySem.W.keepIn K (.ref f5) = true)
    (aN : PySem.W.nsIn K mainGlobals "check_net" = some (some (.ref fN)))
    (lN : K.lookup fN = some ⟨ocN, odN, .func (PySem.W.fnOf "check_net" "check_net" (defArgs sChkN) (defBody sChkN) (defScope sChkN) .none kVN dcN pmN anN cdN ctN), slN⟩)
    (cN_ : PySem.W.codeIn K cdN "check_net" = true)
    (kN_ : PySem.W.keepIn K (.ref fN) = true)
    (aP : PySem.W.nsIn K mainGlobals "check_place" = some (some (.ref fP)))
    (lP : K.lookup fP = some ⟨ocP, odP, .func (PySem.W.fnOf "check_place" "check_place" (defArgs sChkP) (defBody sChkP) (defScope sChkP) .none kVP dcP pmP anP cdP ctP), slP⟩)
    (cP_ : PySem.W.codeIn K cdP "check_place" = true)
    (kP_ : PySem.W.keepIn K (.ref fP) = true)
    (aE : PySem.W.nsIn K mainGlobals "check_ends" = some (some (.ref fE)))
    (lE : K.lookup fE = some ⟨ocE, odE, .func (PySem.W.fnOf "check_ends" "check_ends" (defArgs sEnds) (defBody sEnds) (defScope sEnds) .none kVE dcE pmE anE cdE ctE), slE⟩)
    (cE_ : PySem.W.codeIn K cdE "check_ends" = true)
    (kE_ : PySem.W.keepIn K (.ref fE) = true)
    (aQ : PySem.W.nsIn K mainGlobals "check_cost" = some (some (.ref fQ)))
    (lQ : K.lookup fQ = some ⟨ocQ, odQ, .func (PySem.W.fnOf "check_cost" "check_cost" (defArgs sCostQ) (defBody sCostQ) (defScope sCostQ) .none kVQ dcQ pmQ anQ cdQ ctQ), slQ⟩)
    (cQ_ : PySem.W.codeIn K cdQ "check_cost" = true)
    (kQ_ : PySem.W.keepIn K (.ref fQ) = true)
    (aR : PySem.W.nsIn K mainGlobals "next_row" = some (some (.ref fR)))
    (lR : K.lookup fR = some ⟨ocR, odR, .func (PySem.W.fnOf "next_row" "next_row" (defArgs sRow) (defBody sRow) (defScope sRow) .none kVR dcR pmR anR cdR ctR), slR⟩)
    (cR_ : PySem.W.codeIn K cdR "next_row" = true)
    (kR_ : PySem.W.keepIn K (.ref fR) = true)
    (aRs : PySem.W.nsIn K mainGlobals "rows_up_to" = some (some (.ref fRs)))
    (lRs : K.lookup fRs = some ⟨ocRs, odRs, .func (PySem.W.fnOf "rows_up_to" "rows_up_to" (defArgs sRows) (defBody sRows) (defScope sRows) .none kVRs dcRs pmRs anRs cdRs ctRs), slRs⟩)
    (cRs_ : PySem.W.codeIn K cdRs "rows_up_to" = true)
    (kRs_ : PySem.W.keepIn K (.ref fRs) = true)
    (aCo : PySem.W.nsIn K mainGlobals "count_of" = some (some (.ref fCo)))
    (lCo : K.lookup fCo = some ⟨ocCo, odCo, .func (PySem.W.fnOf "count_of" "count_of" (defArgs sCo) (defBody sCo) (defScope sCo) .none kVCo dcCo pmCo anCo cdCo ctCo), slCo⟩)
    (cCo_ : PySem.W.codeIn K cdCo "count_of" = true)
    (kCo_ : PySem.W.keepIn K (.ref fCo) = true)
    (aCt : PySem.W.nsIn K mainGlobals "count_to" = some (some (.ref fCt)))
    (lCt : K.lookup fCt = some ⟨ocCt, odCt, .func (PySem.W.fnOf "count_to" "count_to" (defArgs sCt) (defBody sCt) (defScope sCt) .none kVCt dcCt pmCt anCt cdCt ctCt), slCt⟩)
    (cCt_ : PySem.W.codeIn K cdCt "count_to" = true)
    (kCt_ : PySem.W.keepIn K (.ref fCt) = true)
    (aSt : PySem.W.nsIn K mainGlobals "_law_state" = some (some (.ref fSt)))
    (lSt : K.lookup fSt = some ⟨ocSt, odSt, .func (PySem.W.fnOf "_law_state" "_law_state" (defArgs sState) (defBody sState) (defScope sState) .none kVSt dcSt pmSt anSt cdSt ctSt), slSt⟩)
    (cSt_ : PySem.W.codeIn K cdSt "_law_state" = true)
    (kSt_ : PySem.W.keepIn K (.ref fSt) = true)
    (aCe : PySem.W.nsIn K mainGlobals "_law_cell_at" = some (some (.ref fCe)))
    (lCe : K.lookup fCe = some ⟨ocCe, odCe, .func (PySem.W.fnOf "_law_cell_at" "_law_cell_at" (defArgs sCell) (defBody sCell) (defScope sCell) .none kVCe dcCe pmCe anCe cdCe ctCe), slCe⟩)
    (cCe_ : PySem.W.codeIn K cdCe "_law_cell_at" = true)
    (kCe_ : PySem.W.keepIn K (.ref fCe) = true)
    (aTk : PySem.W.nsIn K mainGlobals "_law_take" = some (some (.ref fTk)))
    (lTk : K.lookup fTk = some ⟨ocTk, odTk, .func (PySem.W.fnOf "_law_take" "_law_take" (defArgs sTake) (defBody sTake) (defScope sTake) .none kVTk dcTk pmTk anTk cdTk ctTk), slTk⟩)
    (cTk_ : PySem.W.codeIn K cdTk "_law_take" = true)
    (kTk_ : PySem.W.keepIn K (.ref fTk) = true)
    (aNe : PySem.W.nsIn K mainGlobals "_law_net" = some (some (.ref fNe)))
    (lNe : K.lookup fNe = some ⟨ocNe, odNe, .func (PySem.W.fnOf "_law_net" "_law_net" (defArgs sNet) (defBody sNet) (defScope sNet) .none kVNe dcNe pmNe anNe cdNe ctNe), slNe⟩)
    (cNe_ : PySem.W.codeIn K cdNe "_law_net" = true)
    (kNe_ : PySem.W.keepIn K (.ref fNe) = true)
    (aEn : PySem.W.nsIn K mainGlobals "_law_ends" = some (some (.ref fEn)))
    (lEn : K.lookup fEn = some ⟨ocEn, odEn, .func (PySem.W.fnOf "_law_ends" "_law_ends" (defArgs sLEnds) (defBody sLEnds) (defScope sLEnds) .none kVEn dcEn pmEn anEn cdEn ctEn), slEn⟩)
    (cEn_ : PySem.W.codeIn K cdEn "_law_ends" = true)
    (kEn_ : PySem.W.keepIn K (.ref fEn) = true)
    (aCn : PySem.W.nsIn K mainGlobals "_law_counts" = some (some (.ref fCn)))
    (lCn : K.lookup fCn = some ⟨ocCn, odCn, .func (PySem.W.fnOf "_law_counts" "_law_counts" (defArgs sCnt) (defBody sCnt) (defScope sCnt) .none kVCn dcCn pmCn anCn cdCn ctCn), slCn⟩)
    (cCn_ : PySem.W.codeIn K cdCn "_law_counts" = true)
    (kCn_ : PySem.W.keepIn K (.ref fCn) = true)
    (aL : PySem.W.nsIn K mainGlobals "law" = some (some (.ref fL)))
    (lL : K.lookup fL = some ⟨ocL, odL, .func (PySem.W.fnOf "law" "law" (defArgs sLaw) (defBody sLaw) (defScope sLaw) .none kVL dcL pmL anL cdL ctL), slL⟩)
    (cL_ : PySem.W.codeIn K cdL "law" = true)
    (kL_ : PySem.W.keepIn K (.ref fL) = true)
    (z_isinstance : PySem.W.nsIn K mainGlobals "isinstance" = some none)
    (z_int : PySem.W.nsIn K mainGlobals "int" = some none)
    (z_bool : PySem.W.nsIn K mainGlobals "bool" = some none)
    (z_tuple : PySem.W.nsIn K mainGlobals "tuple" = some none)
    (z_len : PySem.W.nsIn K mainGlobals "len" = some none)
    (z_all : PySem.W.nsIn K mainGlobals "all" = some none)
    (z_sum : PySem.W.nsIn K mainGlobals "sum" = some none)
    (z_set : PySem.W.nsIn K mainGlobals "set" = some none)
    (z_range : PySem.W.nsIn K mainGlobals "range" = some none)
    (z_max : PySem.W.nsIn K mainGlobals "max" = some none)
    (z_min : PySem.W.nsIn K mainGlobals "min" = some none)
    (z_repr : PySem.W.nsIn K mainGlobals "repr" = some none)
    (q1 : PySem.W.nsIn K mainGlobals "MOST_PLACES" = some (some (.int 10 t1)))
    (q2 : PySem.W.nsIn K mainGlobals "MOST_ROADS" = some (some (.int 30 t2)))
    (q3 : PySem.W.nsIn K mainGlobals "LEAST_COST" = some (some (.int 1 t3)))
    (q4 : PySem.W.nsIn K mainGlobals "MOST_COST" = some (some (.int 99 t4)))
    (q5 : PySem.W.nsIn K mainGlobals "MOST_TIME" = some (some (.int 99 t5)))
    (q6 : PySem.W.nsIn K mainGlobals "MOST_WALK_COST" = some (some (.int 600 t6))) :
    Runs0 P w K mg fa := by
  have e := hfa.symm.trans (PySem.W.mg_of X G aL)
  cases e
  have F1 := fun_mk (st := sWhole) l1 c1_ k1_
  have B1 := F1.binds (ps := ["thing"]) fun _ _ _ _ _ _ us hl => match us, hl with | [_], _ => rfl
  have D1 : Df K mg "is_whole" sWhole ["thing"] f1 _ := ⟨F1, B1, PySem.W.mg_of X G a1⟩
  have F2 := fun_mk (st := sWithin) l2 c2_ k2_
  have B2 := F2.binds (ps := ["thing", "low", "high"]) fun _ _ _ _ _ _ us hl => match us, hl with | [_, _, _], _ => rfl
  have D2 : Df K mg "is_within" sWithin ["thing", "low", "high"] f2 _ := ⟨F2, B2, PySem.W.mg_of X G a2⟩
  have F3 := fun_mk (st := sTupOf) l3 c3_ k3_
  have B3 := F3.binds (ps := ["thing", "many"]) fun _ _ _ _ _ _ us hl => match us, hl with | [_, _], _ => rfl
  have D3 : Df K mg "is_tuple_of" sTupOf ["thing", "many"] f3 _ := ⟨F3, B3, PySem.W.mg_of X G a3⟩
  have F4 := fun_mk (st := sRoadQ) l4 c4_ k4_
  have B4 := F4.binds (ps := ["places", "thing"]) fun _ _ _ _ _ _ us hl => match us, hl with | [_, _], _ => rfl
  have D4 : Df K mg "is_road_among" sRoadQ ["places", "thing"] f4 _ := ⟨F4, B4, PySem.W.mg_of X G a4⟩
  have F5 := fun_mk (st := sNetQ) l5 c5_ k5_
  have B5 := F5.binds (ps := ["thing"]) fun _ _ _ _ _ _ us hl => match us, hl with | [_], _ => rfl
  have D5 : Df K mg "is_net" sNetQ ["thing"] f5 _ := ⟨F5, B5, PySem.W.mg_of X G a5⟩
  have FN := fun_mk (st := sChkN) lN cN_ kN_
  have BN := FN.binds (ps := ["thing"]) fun _ _ _ _ _ _ us hl => match us, hl with | [_], _ => rfl
  have DN : Df K mg "check_net" sChkN ["thing"] fN _ := ⟨FN, BN, PySem.W.mg_of X G aN⟩
  have FP := fun_mk (st := sChkP) lP cP_ kP_
  have BP := FP.binds (ps := ["net", "thing"]) fun _ _ _ _ _ _ us hl => match us, hl with | [_, _], _ => rfl
  have DP : Df K mg "check_place" sChkP ["net", "thing"] fP _ := ⟨FP, BP, PySem.W.mg_of X G aP⟩
  have FE := fun_mk (st := sEnds) lE cE_ kE_
  have BE := FE.binds (ps := ["net", "start", "goal"]) fun _ _ _ _ _ _ us hl => match us, hl with | [_, _, _], _ => rfl
  have DE : Df K mg "check_ends" sEnds ["net", "start", "goal"] fE _ := ⟨FE, BE, PySem.W.mg_of X G aE⟩
  have FQ := fun_mk (st := sCostQ) lQ cQ_ kQ_
  have BQ := FQ.binds (ps := ["thing"]) fun _ _ _ _ _ _ us hl => match us, hl with | [_], _ => rfl
  have DQ : Df K mg "check_cost" sCostQ ["thing"] fQ _ := ⟨FQ, BQ, PySem.W.mg_of X G aQ⟩
  have FR := fun_mk (st := sRow) lR cR_ kR_
  have BR := FR.binds (ps := ["net", "goal", "rows"]) fun _ _ _ _ _ _ us hl => match us, hl with | [_, _, _], _ => rfl
  have DR : Df K mg "next_row" sRow ["net", "goal", "rows"] fR _ := ⟨FR, BR, PySem.W.mg_of X G aR⟩
  have FRs := fun_mk (st := sRows) lRs cRs_ kRs_
  have BRs := FRs.binds (ps := ["net", "goal", "cost"]) fun _ _ _ _ _ _ us hl => match us, hl with | [_, _, _], _ => rfl
  have DRs : Df K mg "rows_up_to" sRows ["net", "goal", "cost"] fRs _ := ⟨FRs, BRs, PySem.W.mg_of X G aRs⟩
  have FCo := fun_mk (st := sCo) lCo cCo_ kCo_
  have BCo := FCo.binds (ps := ["net", "start", "goal", "cost"]) fun _ _ _ _ _ _ us hl => match us, hl with | [_, _, _, _], _ => rfl
  have DCo : Df K mg "count_of" sCo ["net", "start", "goal", "cost"] fCo _ := ⟨FCo, BCo, PySem.W.mg_of X G aCo⟩
  have FCt := fun_mk (st := sCt) lCt cCt_ kCt_
  have BCt := FCt.binds (ps := ["net", "start", "goal", "cost"]) fun _ _ _ _ _ _ us hl => match us, hl with | [_, _, _, _], _ => rfl
  have DCt : Df K mg "count_to" sCt ["net", "start", "goal", "cost"] fCt _ := ⟨FCt, BCt, PySem.W.mg_of X G aCt⟩
  have FSt := fun_mk (st := sState) lSt cSt_ kSt_
  have BSt := FSt.binds (ps := ["_law_script", "_law_k"]) fun _ _ _ _ _ _ us hl => match us, hl with | [_, _], _ => rfl
  have DSt : Df K mg "_law_state" sState ["_law_script", "_law_k"] fSt _ := ⟨FSt, BSt, PySem.W.mg_of X G aSt⟩
  have FCe := fun_mk (st := sCell) lCe cCe_ kCe_
  have BCe := FCe.binds (ps := ["_law_script", "_law_k"]) fun _ _ _ _ _ _ us hl => match us, hl with | [_, _], _ => rfl
  have DCe : Df K mg "_law_cell_at" sCell ["_law_script", "_law_k"] fCe _ := ⟨FCe, BCe, PySem.W.mg_of X G aCe⟩
  have FTk := fun_mk (st := sTake) lTk cTk_ kTk_
  have BTk := FTk.binds (ps := ["_law_state_here", "_law_far"]) fun _ _ _ _ _ _ us hl => match us, hl with | [_, _], _ => rfl
  have DTk : Df K mg "_law_take" sTake ["_law_state_here", "_law_far"] fTk _ := ⟨FTk, BTk, PySem.W.mg_of X G aTk⟩
  have FNe := fun_mk (st := sNet) lNe cNe_ kNe_
  have BNe := FNe.binds (ps := ["_law_state_here", "_law_most", "_law_far"]) fun _ _ _ _ _ _ us hl => match us, hl with | [_, _, _], _ => rfl
  have DNe : Df K mg "_law_net" sNet ["_law_state_here", "_law_most", "_law_far"] fNe _ := ⟨FNe, BNe, PySem.W.mg_of X G aNe⟩
  have FEn := fun_mk (st := sLEnds) lEn cEn_ kEn_
  have BEn := FEn.binds (ps := ["_law_state_here", "_law_net_here"]) fun _ _ _ _ _ _ us hl => match us, hl with | [_, _], _ => rfl
  have DEn : Df K mg "_law_ends" sLEnds ["_law_state_here", "_law_net_here"] fEn _ := ⟨FEn, BEn, PySem.W.mg_of X G aEn⟩
  have FCn := fun_mk (st := sCnt) lCn cCn_ kCn_
  have BCn := FCn.binds (ps := ["_law_net_here", "_law_start", "_law_most"]) fun _ _ _ _ _ _ us hl => match us, hl with | [_, _, _], _ => rfl
  have DCn : Df K mg "_law_counts" sCnt ["_law_net_here", "_law_start", "_law_most"] fCn _ := ⟨FCn, BCn, PySem.W.mg_of X G aCn⟩
  have FL := fun_mk (st := sLaw) lL cL_ kL_
  have BL := FL.binds (ps := ["_law_script"]) fun _ _ _ _ _ _ us hl => match us, hl with | [_], _ => rfl
  have DL : Df K mg "law" sLaw ["_law_script"] fa _ := ⟨FL, BL, PySem.W.mg_of X G aL⟩
  have m_isinstance := PySem.W.mg_none_of X G z_isinstance
  have m_int := PySem.W.mg_none_of X G z_int
  have m_bool := PySem.W.mg_none_of X G z_bool
  have m_tuple := PySem.W.mg_none_of X G z_tuple
  have m_len := PySem.W.mg_none_of X G z_len
  have m_all := PySem.W.mg_none_of X G z_all
  have m_sum := PySem.W.mg_none_of X G z_sum
  have m_set := PySem.W.mg_none_of X G z_set
  have m_range := PySem.W.mg_none_of X G z_range
  have m_max := PySem.W.mg_none_of X G z_max
  have m_min := PySem.W.mg_none_of X G z_min
  have m_repr := PySem.W.mg_none_of X G z_repr
  have S : Sm K mg f1 f2 f3 f4 f5 _ _ _ _ _ := { mi := m_isinstance, mI := m_int, mB := m_bool, mT := m_tuple, ml := m_len, mA := m_all, mS := m_sum, mE := m_set, c1 := ⟨_, PySem.W.mg_of X G q1⟩, c2 := ⟨_, PySem.W.mg_of X G q2⟩, c3 := ⟨_, PySem.W.mg_of X G q3⟩, c4 := ⟨_, PySem.W.mg_of X G q4⟩, c5 := ⟨_, PySem.W.mg_of X G q5⟩, whole := D1, within := D2, tupOf := D3, roadQ := D4, netQ := D5 }
  have T : Ct K mg fN fP fE fQ fR fRs _ _ _ _ _ _ := { N := DN, P := DP, E := DE, Q := DQ, R := DR, Rs := DRs, c := ⟨_, PySem.W.mg_of X G q6⟩ }
  intro base H s a ns hlen dg sq env
  refine LamX.run_ofS (k := 7) (N := ["_law_script", "_law_by_hand", "_law_net_here", "_law_start", "_law_goal", "_law_cost", "_law_due", "_law_k", "_law_state_here", "_law_turn", "_law_rows", "_law_kept", "_law_row", "_law_lap"]) (ps := ["_law_script"]) (us := [.ref a]) (vs := [.ref a]) lL cL_ scLaw ⟨rfl, by decide, by decide⟩ env (.of_eq rfl) (.cons rfl .nil) rfl fun hr => ?_
  obtain ⟨t, ht, hq⟩ := law_reads (P := P) (w := w) (base := base) (fL := fa) (s := s) (H := H) (a := a) (ns := ns) dg DCo DCt (ok_co (k := 0) S T DCo) (ok_ct (k := 0) S T DCt) DCn (ok_cnt (k := 6) m_range m_int DCn) DEn (ok_lends (k := 5) DTk DEn) DSt (ok_state (k := 5) DSt DCe m_len m_max) DTk (ok_take (k := 6) DTk) DNe (ok_net (k := 5) DTk m_range m_tuple m_int m_min DNe) m_range m_max m_min m_len m_sum m_repr hr sq
  exact ⟨t, ht.nox, hq⟩
end Wy

open PySem PySem.W PyProof.Rows
set_option maxHeartbeats 0 in
theorem PySem.Challenge.cw_waysranked_k20_walks_counted_holds : PySem.Challenge.rw_waysranked_k20_walks_counted.Holds := by
  w_on; o_law; k_head; (case hw => w_witness2)
  k_fill
  refine Wy.walk_end0 (l := PySem.Challenge.rw_waysranked_k20_walks_counted) rfl rfl (fun w h Y => PySem.W.kIn_of Y) ?F
  case F =>
    intro w mg fa h KX G hmg
    refine' Wy.fin_mk KX G hmg ?zz_a1 ?zz_l1 ?zz_c1_ ?zz_k1_ ?zz_a2 ?zz_l2 ?zz_c2_ ?zz_k2_ ?zz_a3 ?zz_l3 ?zz_c3_ ?zz_k3_ ?zz_a4 ?zz_l4 ?zz_c4_ ?zz_k4_ ?zz_a5 ?zz_l5 ?zz_c5_ ?zz_k5_ ?zz_aN ?zz_lN ?zz_cN_ ?zz_kN_ ?zz_aP ?zz_lP ?zz_cP_ ?zz_kP_ ?zz_aE ?zz_lE ?zz_cE_ ?zz_kE_ ?zz_aQ ?zz_lQ ?zz_cQ_ ?zz_kQ_ ?zz_aR ?zz_lR ?zz_cR_ ?zz_kR_ ?zz_aRs ?zz_lRs ?zz_cRs_ ?zz_kRs_ ?zz_aCo ?zz_lCo ?zz_cCo_ ?zz_kCo_ ?zz_aCt ?zz_lCt ?zz_cCt_ ?zz_kCt_ ?zz_aSt ?zz_lSt ?zz_cSt_ ?zz_kSt_ ?zz_aCe ?zz_lCe ?zz_cCe_ ?zz_kCe_ ?zz_aTk ?zz_lTk ?zz_cTk_ ?zz_kTk_ ?zz_aNe ?zz_lNe ?zz_cNe_ ?zz_kNe_ ?zz_aEn ?zz_lEn ?zz_cEn_ ?zz_kEn_ ?zz_aCn ?zz_lCn ?zz_cCn_ ?zz_kCn_ ?zz_aL ?zz_lL ?zz_cL_ ?zz_kL_ ?zz_z_isinstance ?zz_z_int ?zz_z_bool ?zz_z_tuple ?zz_z_len ?zz_z_all ?zz_z_sum ?zz_z_set ?zz_z_range ?zz_z_max ?zz_z_min ?zz_z_repr ?zz_q1 ?zz_q2 ?zz_q3 ?zz_q4 ?zz_q5 ?zz_q6
    (case zz_a1 => first | k_is | rfl | decide +kernel | k_exc)
    (case zz_l1 => first | k_is | rfl | decide +kernel | k_exc)
    (case zz_c1_ => first | k_is | rfl | decide +kernel | k_exc)
    (case zz_k1_ => first | k_is | rfl | decide +kernel | k_exc)
    (case zz_a2 => first | k_is | rfl | decide +kernel | k_exc)
    (case zz_l2 => first | k_is | rfl | decide +kernel | k_exc)
    (case zz_c2_ => first | k_is | rfl | decide +kernel | k_exc)
    (case zz_k2_ => first | k_is | rfl | decide +kernel | k_exc)
    (case zz_a3 => first | k_is | rfl | decide +kernel | k_exc)
    (case zz_l3 => first | k_is | rfl | decide +kernel | k_exc)
    (case zz_c3_ => first | k_is | rfl | decide +kernel | k_exc)
    (case zz_k3_ => first | k_is | rfl | decide +kernel | k_exc)
    (case zz_a4 => first | k_is | rfl | decide +kernel | k_exc)
    (case zz_l4 => first | k_is | rfl | decide +kernel | k_exc)
    (case zz_c4_ => first | k_is | rfl | decide +kernel | k_exc)
    (case zz_k4_ => first | k_is | rfl | decide +kernel | k_exc)
    (case zz_a5 => first | k_is | rfl | decide +kernel | k_exc)
    (case zz_l5 => first | k_is | rfl | decide +kernel | k_exc)
    (case zz_c5_ => first | k_is | rfl | decide +kernel | k_exc)
    (case zz_k5_ => first | k_is | rfl | decide +kernel | k_exc)
    (case zz_aN => first | k_is | rfl | decide +kernel | k_exc)
    (case zz_lN => first | k_is | rfl | decide +kernel | k_exc)
    (case zz_cN_ => first | k_is | rfl | decide +kernel | k_exc)
    (case zz_kN_ => first | k_is | rfl | decide +kernel | k_exc)
    (case zz_aP => first | k_is | rfl | decide +kernel | k_exc)
    (case zz_lP => first | k_is | rfl | decide +kernel | k_exc)
    (case zz_cP_ => first | k_is | rfl | decide +kernel | k_exc)
    (case zz_kP_ => first | k_is | rfl | decide +kernel | k_exc)
    (case zz_aE => first | k_is | rfl | decide +kernel | k_exc)
    (case zz_lE => first | k_is | rfl | decide +kernel | k_exc)
    (case zz_cE_ => first | k_is | rfl | decide +kernel | k_exc)
    (case zz_kE_ => first | k_is | rfl | decide +kernel | k_exc)
    (case zz_aQ => first | k_is | rfl | decide +kernel | k_exc)
    (case zz_lQ => first | k_is | rfl | decide +kernel | k_exc)
    (case zz_cQ_ => first | k_is | rfl | decide +kernel | k_exc)
    (case zz_kQ_ => first | k_is | rfl | decide +kernel | k_exc)
    (case zz_aR => first | k_is | rfl | decide +kernel | k_exc)
    (case zz_lR => first | k_is | rfl | decide +kernel | k_exc)
    (case zz_cR_ => first | k_is | rfl | decide +kernel | k_exc)
    (case zz_kR_ => first | k_is | rfl | decide +kernel | k_exc)
    (case zz_aRs => first | k_is | rfl | decide +kernel | k_exc)
    (case zz_lRs => first | k_is | rfl | decide +kernel | k_exc)
    (case zz_cRs_ => first | k_is | rfl | decide +kernel | k_exc)
    (case zz_kRs_ => first | k_is | rfl | decide +kernel | k_exc)
    (case zz_aCo => first | k_is | rfl | decide +kernel | k_exc)
    (case zz_lCo => first | k_is | rfl | decide +kernel | k_exc)
    (case zz_cCo_ => first | k_is | rfl | decide +kernel | k_exc)
    (case zz_kCo_ => first | k_is | rfl | decide +kernel | k_exc)
    (case zz_aCt => first | k_is | rfl | decide +kernel | k_exc)
    (case zz_lCt => first | k_is | rfl | decide +kernel | k_exc)
    (case zz_cCt_ => first | k_is | rfl | decide +kernel | k_exc)
    (case zz_kCt_ => first | k_is | rfl | decide +kernel | k_exc)
    (case zz_aSt => first | k_is | rfl | decide +kernel | k_exc)
    (case zz_lSt => first | k_is | rfl | decide +kernel | k_exc)
    (case zz_cSt_ => first | k_is | rfl | decide +kernel | k_exc)
    (case zz_kSt_ => first | k_is | rfl | decide +kernel | k_exc)
    (case zz_aCe => first | k_is | rfl | decide +kernel | k_exc)
    (case zz_lCe => first | k_is | rfl | decide +kernel | k_exc)
    (case zz_cCe_ => first | k_is | rfl | decide +kernel | k_exc)
    (case zz_kCe_ => first | k_is | rfl | decide +kernel | k_exc)
    (case zz_aTk => first | k_is | rfl | decide +kernel | k_exc)
    (case zz_lTk => first | k_is | rfl | decide +kernel | k_exc)
    (case zz_cTk_ => first | k_is | rfl | decide +kernel | k_exc)
    (case zz_kTk_ => first | k_is | rfl | decide +kernel | k_exc)
    (case zz_aNe => first | k_is | rfl | decide +kernel | k_exc)
    (case zz_lNe => first | k_is | rfl | decide +kernel | k_exc)
    (case zz_cNe_ => first | k_is | rfl | decide +kernel | k_exc)
    (case zz_kNe_ => first | k_is | rfl | decide +kernel | k_exc)
    (case zz_aEn => first | k_is | rfl | decide +kernel | k_exc)
    (case zz_lEn => first | k_is | rfl | decide +kernel | k_exc)
    (case zz_cEn_ => first | k_is | rfl | decide +kernel | k_exc)
    (case zz_kEn_ => first | k_is | rfl | decide +kernel | k_exc)
    (case zz_aCn => first | k_is | rfl | decide +kernel | k_exc)
    (case zz_lCn => first | k_is | rfl | decide +kernel | k_exc)
    (case zz_cCn_ => first | k_is | rfl | decide +kernel | k_exc)
    (case zz_kCn_ => first | k_is | rfl | decide +kernel | k_exc)
    (case zz_aL => first | k_is | rfl | decide +kernel | k_exc)
    (case zz_lL => first | k_is | rfl | decide +kernel | k_exc)
    (case zz_cL_ => first | k_is | rfl | decide +kernel | k_exc)
    (case zz_kL_ => first | k_is | rfl | decide +kernel | k_exc)
    (case zz_z_isinstance => first | k_is | rfl | decide +kernel | k_exc)
    (case zz_z_int => first | k_is | rfl | decide +kernel | k_exc)
    (case zz_z_bool => first | k_is | rfl | decide +kernel | k_exc)
    (case zz_z_tuple => first | k_is | rfl | decide +kernel | k_exc)
    (case zz_z_len => first | k_is | rfl | decide +kernel | k_exc)
    (case zz_z_all => first | k_is | rfl | decide +kernel | k_exc)
    (case zz_z_sum => first | k_is | rfl | decide +kernel | k_exc)
    (case zz_z_set => first | k_is | rfl | decide +kernel | k_exc)
    (case zz_z_range => first | k_is | rfl | decide +kernel | k_exc)
    (case zz_z_max => first | k_is | rfl | decide +kernel | k_exc)
    (case zz_z_min => first | k_is | rfl | decide +kernel | k_exc)
    (case zz_z_repr => first | k_is | rfl | decide +kernel | k_exc)
    (case zz_q1 => first | k_is | rfl | decide +kernel | k_exc)
    (case zz_q2 => first | k_is | rfl | decide +kernel | k_exc)
    (case zz_q3 => first | k_is | rfl | decide +kernel | k_exc)
    (case zz_q4 => first | k_is | rfl | decide +kernel | k_exc)
    (case zz_q5 => first | k_is | rfl | decide +kernel | k_exc)
    (case zz_q6 => first | k_is | rfl | decide +kernel | k_exc)
