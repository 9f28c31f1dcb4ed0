import PyProof.Rows.All
import Wide.All
import OpenK.AllK
import Wide.FinOn
import PySem.Challenge.RW_waysranked_k52_least_fences
import HandS.ForMost
import HandS.ForExc
import HandS.IsInst
import HandS.ExcIs
import HandS.Lambda
import HandS.HotCalls
import HandS.Zip
import HandS.Strs
import HandS.Flow
import HandS.Style
import HandS.TupAny
import HandS.TupLe
import HandS.Defaults
import PyProof.ReprRoads
import KE.GoesMore
import PyProof.Draws
import HandS.Conv
import KE.DataMinMax
import KE.SortData
import HandS.Dict
import HandS.Words
import HandS.TupMul
import HandS.Text
import HandS.StrMore
import KE.GoesEnumKw
import PyProof.Rows.CallKwBuiltin
import HandS.BoundDict
import HandS.Iter
import PyProof.StrOps2
import HandS.Codes
import HandS.Wide
import KE.GoesZip
import PyProof.P3In
import PyProof.SeqIndex
import KE.DataCmp
import KE.KRevSl
import KE.DataFind
import KE.KNestM
set_option Elab.async false
set_option linter.all false
set_option maxRecDepth 100000
namespace Dl
open PySem PySem.Spec PyProof.Rows L2
/-! ### readings by data: no heap, no addresses -/
def keyD : Key → PyData
  | .inl i => .int i
  | .inr x => .str x
/-- a list that is read: tracked, none of A (a tuple may be a written one, too) -/
def SqLA (K : PySem.W.Frag) (A : Addr → Prop) (H : Hp) (a : Addr) (xs : List V) : Prop := H a = some (.lst xs) ∧ ¬ A a
def SqTA (K : PySem.W.Frag) (A : Addr → Prop) (H : Hp) (a : Addr) (xs : List V) : Prop := (Rd H a (.tup xs) ∧ ¬ A a) ∨ SqT K (fun _ => none) a xs
mutual
/-- v is the data d; none of its objects is one of A -/
inductive Rp (K : PySem.W.Frag) (A : Addr → Prop) (H : Hp) : V → PyData → Prop
  | non : Rp K A H .non .none
  | bl (b : Bool) : Rp K A H (.bl b) (.bool b)
  | int (i : Int) : Rp K A H (.int i) (.int i)
  | str (x : Str) : Rp K A H (.str x) (.str x)
  | lst {a : Addr} {xs : List V} {ds : List PyData} : SqLA K A H a xs → RpAll K A H xs ds → Rp K A H (.ref a) (.list ds)
  | tup {a : Addr} {xs : List V} {ds : List PyData} : SqTA K A H a xs → RpAll K A H xs ds → Rp K A H (.ref a) (.tuple ds)
  | dct {a : Addr} {kvs : List (Key × V)} {ds : List PyData} : H a = some (.dK kvs) → ¬ A a → RpAll K A H (kvs.map (·.2)) ds → Rp K A H (.ref a) (.dict ((kvs.map fun p => keyD p.1).zip ds))
inductive RpAll (K : PySem.W.Frag) (A : Addr → Prop) (H : Hp) : List V → List PyData → Prop
  | nil : RpAll K A H [] []
  | cons {v : V} {vs : List V} {d : PyData} {ds : List PyData} : Rp K A H v d → RpAll K A H vs ds → RpAll K A H (v :: vs) (d :: ds)
end
theorem sqLA_sq {K : PySem.W.Frag} {A : Addr → Prop} {H : Hp} {a : Addr} {xs : List V} (h : SqLA K A H a xs) : SqL K H a xs := SqL.of h.1
theorem sqTA_sq {K : PySem.W.Frag} {A : Addr → Prop} {H : Hp} {a : Addr} {xs : List V} (h : SqTA K A H a xs) : SqT K H a xs := by
  rcases h with h | h
  · exact .inl h.1
  · rcases h with h | h
    · rcases h with h | ⟨_, h⟩ <;> cases h
    · exact .inr h
/-- no table of code -/
def NT (o : HO) : Prop := ∀ ps, o ≠ .tbl ps
def Ob (H : Hp) (a : Addr) : Prop := ∃ o, H a = some o ∧ NT o
theorem nob {H : Hp} {a : Addr} (h : H a = none) : ¬ Ob H a := fun ⟨o, e, _⟩ => nomatch e.symm.trans h
theorem ne_nob {H : Hp} {a b : Addr} {o : HO} (e : H a = some o) (t : NT o) (n : ¬ Ob H b) : a ≠ b := fun z => n ⟨o, z ▸ e, t⟩
theorem nt_lst {xs : List V} : NT (.lst xs) := fun _ q => nomatch q
theorem nt_tup {xs : List V} : NT (.tup xs) := fun _ q => nomatch q
theorem nt_dK {xs : List (Key × V)} : NT (.dK xs) := fun _ q => nomatch q
theorem nt_frz {o : Obj} {u : HO} : NT (.frz o u) := fun _ q => nomatch q
def Goes (A A' : Addr → Prop) (H H' : Hp) : Prop := ∀ b o, H b = some o → NT o → ¬ A b → H' b = some o ∧ ¬ A' b
theorem sqLA_go {K : PySem.W.Frag} {A A' : Addr → Prop} {H H' : Hp} (g : Goes A A' H H') {a : Addr} {xs : List V} (h : SqLA K A H a xs) : SqLA K A' H' a xs := g _ _ h.1 nt_lst h.2
theorem sqTA_go {K : PySem.W.Frag} {A A' : Addr → Prop} {H H' : Hp} (g : Goes A A' H H') {a : Addr} {xs : List V} (h : SqTA K A H a xs) : SqTA K A' H' a xs := by
  rcases h with ⟨h | ⟨o, h⟩, n⟩ | h
  · exact .inl ⟨.inl (g _ _ h nt_tup n).1, (g _ _ h nt_tup n).2⟩
  · exact .inl ⟨.inr ⟨o, (g _ _ h nt_frz n).1⟩, (g _ _ h nt_frz n).2⟩
  · exact .inr h
mutual
theorem Rp.go {K : PySem.W.Frag} {A A' : Addr → Prop} {H H' : Hp} (g : Goes A A' H H') : ∀ {v : V} {d : PyData}, Rp K A H v d → Rp K A' H' v d
  | _, _, .non => .non
  | _, _, .bl b => .bl b
  | _, _, .int i => .int i
  | _, _, .str x => .str x
  | _, _, .lst h r => .lst (sqLA_go g h) (RpAll.go g r)
  | _, _, .tup h r => .tup (sqTA_go g h) (RpAll.go g r)
  | _, _, .dct h n r => .dct (g _ _ h nt_dK n).1 (g _ _ h nt_dK n).2 (RpAll.go g r)
theorem RpAll.go {K : PySem.W.Frag} {A A' : Addr → Prop} {H H' : Hp} (g : Goes A A' H H') : ∀ {vs : List V} {ds : List PyData}, RpAll K A H vs ds → RpAll K A' H' vs ds
  | _, _, .nil => .nil
  | _, _, .cons h r => .cons (Rp.go g h) (RpAll.go g r)
end
theorem RpAll.length {K : PySem.W.Frag} {A : Addr → Prop} {H : Hp} : ∀ {vs : List V} {ds : List PyData}, RpAll K A H vs ds → vs.length = ds.length
  | _, _, .nil => rfl
  | _, _, .cons _ r => by rw [List.length_cons, List.length_cons, RpAll.length r]
theorem RpAll.get {K : PySem.W.Frag} {A : Addr → Prop} {H : Hp} : ∀ {vs : List V} {ds : List PyData} {i : Nat} {d : PyData}, RpAll K A H vs ds → ds[i]? = some d → ∃ v, vs[i]? = some v ∧ Rp K A H v d
  | _, _, _, _, .nil, e => by simp at e
  | _, _, 0, _, .cons h _, e => by simp at e; subst e; exact ⟨_, rfl, h⟩
  | _, _, i + 1, d, .cons _ r, e => by
    obtain ⟨v, h1, h2⟩ := RpAll.get (i := i) (d := d) r (by simpa using e)
    exact ⟨v, by simpa using h1, h2⟩
theorem RpAll.getV {K : PySem.W.Frag} {A : Addr → Prop} {H : Hp} {vs : List V} {ds : List PyData} {i : Nat} {v : V} (h : RpAll K A H vs ds) (e : vs[i]? = some v) : ∃ d, ds[i]? = some d ∧ Rp K A H v d := by
  have hl := h.length
  have hi : i < ds.length := by
    have := (List.getElem?_eq_some_iff.mp e).1
    omega
  obtain ⟨u, e1, e2⟩ := h.get (List.getElem?_eq_getElem hi)
  rw [e] at e1
  cases e1
  exact ⟨_, List.getElem?_eq_getElem hi, e2⟩
theorem RpAll.append {K : PySem.W.Frag} {A : Addr → Prop} {H : Hp} : ∀ {vs us : List V} {ds es : List PyData}, RpAll K A H vs ds → RpAll K A H us es → RpAll K A H (vs ++ us) (ds ++ es)
  | _, _, _, _, .nil, s => s
  | _, _, _, _, .cons h r, s => .cons h (RpAll.append r s)
theorem RpAll.take {K : PySem.W.Frag} {A : Addr → Prop} {H : Hp} : ∀ {vs : List V} {ds : List PyData} (n : Nat), RpAll K A H vs ds → RpAll K A H (vs.take n) (ds.take n)
  | _, _, 0, _ => .nil
  | _, _, _ + 1, .nil => .nil
  | _, _, n + 1, .cons h r => .cons h (RpAll.take n r)
theorem RpAll.drop {K : PySem.W.Frag} {A : Addr → Prop} {H : Hp} : ∀ {vs : List V} {ds : List PyData} (n : Nat), RpAll K A H vs ds → RpAll K A H (vs.drop n) (ds.drop n)
  | _, _, 0, r => r
  | _, _, _ + 1, .nil => .nil
  | _, _, n + 1, .cons _ r => RpAll.drop n r
theorem RpAll.set {K : PySem.W.Frag} {A : Addr → Prop} {H : Hp} {v : V} {d : PyData} (h0 : Rp K A H v d) : ∀ {vs : List V} {ds : List PyData} (n : Nat), RpAll K A H vs ds → RpAll K A H (vs.set n v) (ds.set n d)
  | _, _, _, .nil => .nil
  | _, _, 0, .cons _ r => .cons h0 r
  | _, _, n + 1, .cons h r => .cons h (RpAll.set h0 n r)
theorem RpAll.one {K : PySem.W.Frag} {A : Addr → Prop} {H : Hp} {v : V} {d : PyData} (h : Rp K A H v d) : RpAll K A H [v] [d] := .cons h .nil
theorem RpAll.reverse {K : PySem.W.Frag} {A : Addr → Prop} {H : Hp} : ∀ {vs : List V} {ds : List PyData}, RpAll K A H vs ds → RpAll K A H vs.reverse ds.reverse
  | _, _, .nil => .nil
  | _, _, .cons h r => by
    rw [List.reverse_cons, List.reverse_cons]
    exact (RpAll.reverse r).append (.one h)
theorem RpAll.rep {K : PySem.W.Frag} {A : Addr → Prop} {H : Hp} {vs : List V} {ds : List PyData} (h : RpAll K A H vs ds) : ∀ n : Nat, RpAll K A H (List.replicate n vs).flatten (List.replicate n ds).flatten
  | 0 => .nil
  | n + 1 => by
    rw [List.replicate_succ, List.replicate_succ, List.flatten_cons, List.flatten_cons]
    exact h.append (RpAll.rep h n)
/-- flat ones -/
theorem RpAll.ints {K : PySem.W.Frag} {A : Addr → Prop} {H : Hp} : ∀ {vs : List V} {ns : List Int}, RpAll K A H vs (ns.map PyData.int) → vs = ns.map V.int
  | _, [], h => by cases h; rfl
  | _, n :: r, h => by
    cases h with
    | cons h t =>
      cases h
      rw [RpAll.ints t]
      rfl
theorem RpAll.bools {K : PySem.W.Frag} {A : Addr → Prop} {H : Hp} : ∀ {vs : List V} {ns : List Bool}, RpAll K A H vs (ns.map PyData.bool) → vs = ns.map V.bl
  | _, [], h => by cases h; rfl
  | _, n :: r, h => by
    cases h with
    | cons h t =>
      cases h
      rw [RpAll.bools t]
      rfl
theorem RpAll.strs {K : PySem.W.Frag} {A : Addr → Prop} {H : Hp} : ∀ {vs : List V} {ns : List Str}, RpAll K A H vs (ns.map PyData.str) → vs = ns.map V.str
  | _, [], h => by cases h; rfl
  | _, n :: r, h => by
    cases h with
    | cons h t =>
      cases h
      rw [RpAll.strs t]
      rfl
theorem RpAll.of_ints {K : PySem.W.Frag} {A : Addr → Prop} {H : Hp} : ∀ ns : List Int, RpAll K A H (ns.map V.int) (ns.map PyData.int)
  | [] => .nil
  | n :: r => .cons (.int n) (RpAll.of_ints r)
theorem RpAll.of_bools {K : PySem.W.Frag} {A : Addr → Prop} {H : Hp} : ∀ ns : List Bool, RpAll K A H (ns.map V.bl) (ns.map PyData.bool)
  | [] => .nil
  | n :: r => .cons (.bl n) (RpAll.of_bools r)
theorem RpAll.of_strs {K : PySem.W.Frag} {A : Addr → Prop} {H : Hp} : ∀ ns : List Str, RpAll K A H (ns.map V.str) (ns.map PyData.str)
  | [] => .nil
  | n :: r => .cons (.str n) (RpAll.of_strs r)
mutual
theorem Rp.dp {K : PySem.W.Frag} {A : Addr → Prop} {H : Hp} : ∀ {v : V} {d : PyData}, Rp K A H v d → d.canLay0 = true → Dp K H v d
  | _, _, .non, _ => .non
  | _, _, .bl b, _ => .bl b
  | _, _, .int i, _ => .int i
  | _, _, .str x, _ => .str x
  | _, _, .lst h r, e => .lst (sqLA_sq h) (RpAll.dp r (by simpa [PyData.canLay0] using e))
  | _, _, .tup h r, e => .tup (sqTA_sq h) (RpAll.dp r (by simpa [PyData.canLay0] using e))
  | _, _, .dct _ _ _, e => by simp [PyData.canLay0] at e
theorem RpAll.dp {K : PySem.W.Frag} {A : Addr → Prop} {H : Hp} : ∀ {vs : List V} {ds : List PyData}, RpAll K A H vs ds → PyData.canLayAll0 ds = true → DpAll K H vs ds
  | _, _, .nil, _ => .nil
  | _, _, .cons h r, e => by
    rw [PyData.canLayAll0, Bool.and_eq_true] at e
    exact .cons (Rp.dp h e.1) (RpAll.dp r e.2)
end
/-! ### where one stands -/
/-- what can be one's own: a list, a dict -/
inductive Mb : HO → Prop
  | lst (xs : List V) : Mb (.lst xs)
  | dK (kvs : List (Key × V)) : Mb (.dK kvs)
  | dT (kvs : List (List Key × V)) : Mb (.dT kvs)
theorem Mb.nt {o : HO} (h : Mb o) : NT o := by cases h <;> exact fun _ q => nomatch q
/-- a dict of one's own, by data -/
inductive OD where
  | dk (kvs : List (Key × PyData))
  | dt (kvs : List (List Key × PyData))
def OdR (K : PySem.W.Frag) (A : Addr → Prop) (H : Hp) : HO → OD → Prop
  | .dK ks, .dk kvs => ks.map (·.1) = kvs.map (·.1) ∧ RpAll K A H (ks.map (·.2)) (kvs.map (·.2))
  | .dT ks, .dt kvs => ks.map (·.1) = kvs.map (·.1) ∧ RpAll K A H (ks.map (·.2)) (kvs.map (·.2))
  | _, _ => False
theorem OdR.go {K : PySem.W.Frag} {A A' : Addr → Prop} {H H' : Hp} (g : Goes A A' H H') {o : HO} {d : OD} (h : OdR K A H o d) : OdR K A' H' o d := by
  cases o <;> cases d <;> first | exact ⟨h.1, h.2.go g⟩ | exact h.elim
theorem OdR.mb {K : PySem.W.Frag} {A : Addr → Prop} {H : Hp} {o : HO} {d : OD} (h : OdR K A H o d) : Mb o := by
  cases o <;> cases d <;> first | exact .dK _ | exact .dT _ | exact h.elim
def OD.dat : OD → Option PyData
  | .dk kvs => some (.dict ((kvs.map fun p => keyD p.1).zip (kvs.map (·.2))))
  | .dt _ => none
structure Wld (τ : List (Addr × Str)) where
  B : Addr → Prop
  I : Hp → Prop
  tab : ∀ H, I H → LamX.Tabs τ H
  tbI : ∀ H H', I H → LamX.ExtN H H' → LamX.Tabs τ H' → I H'
  stay : ∀ H H', Same H H' → I H → I H'
  own : ∀ H p o o', I H → H p = some o → Mb o → Mb o' → ¬ B p → I (upd H p o')
def Fr (B : Addr → Prop) (H H' : Hp) : Prop := (∀ b o, H b = some o → NT o → ¬ B b → H' b = some o) ∧ ∀ b, Ob H b → Ob H' b
theorem Fr.refl {B : Addr → Prop} (H : Hp) : Fr B H H := ⟨fun _ _ h _ _ => h, fun _ h => h⟩
theorem Fr.trans {B : Addr → Prop} {H H1 H2 : Hp} (a : Fr B H H1) (b : Fr B H1 H2) : Fr B H H2 := ⟨fun c o h t n => b.1 c o (a.1 c o h t n) t n, fun c h => b.2 c (a.2 c h)⟩
theorem Fr.of {B : Addr → Prop} {H H' : Hp} (s : Same H H') : Fr B H H' := ⟨fun b o h _ _ => s b o h, fun b ⟨o, e, t⟩ => ⟨o, s b o e, t⟩⟩
theorem same_new {H : Hp} {p : Addr} {o : HO} (h : H p = none) : Same H (upd H p o) := fun b x e => by
  rw [upd_ne (ne_of_none e h)]
  exact e
theorem Fr.new {B : Addr → Prop} {H : Hp} {p : Addr} {o : HO} (h : H p = none) : Fr B H (upd H p o) := Fr.of (same_new h)
/-- a state for draws -/
def StOk (H : Hp) (z : Addr) : Prop := ∃ x y : Int, H z = some (.lst [.int x, .int y]) ∧ 0 ≤ x ∧ 0 ≤ y ∧ y < 2147483647
structure StW (W : Wld τ) (z : Addr) : Prop where
  b : W.B z
  ok : ∀ H, W.I H → StOk H z
  set : ∀ H x y, W.I H → 0 ≤ x → 0 ≤ y → y < 2147483647 → W.I (upd H z (.lst [.int x, .int y]))
/-- what a slot holds, what a value is: un nothing is known; d data; ml a list of one's own (a value: a new list); bl a list that is read; st the state; raw just this -/
inductive Sl where
  | un
  | d (x : PyData)
  | ml (xs : List PyData)
  | bl (xs : List PyData)
  | st
  | scr (ns : List Int)
  | raw (v : V)
  | mo (o : OD)
  | bo (o : OD)
def Sl.dat : Sl → Option PyData
  | .d x => some x
  | .ml xs => some (.list xs)
  | .mo o => o.dat
  | _ => none
def Sl.seq : Sl → Option (List PyData)
  | .d (.list xs) => some xs
  | .ml xs => some xs
  | .bl xs => some xs
  | _ => none
def Sl.sq : Sl → Option (List PyData)
  | .d (.list xs) => some xs
  | .d (.tuple xs) => some xs
  | .ml xs => some xs
  | .bl xs => some xs
  | .scr ns => some (ns.map PyData.int)
  | _ => none
def vS : V → Sl
  | .non => .d .none
  | .bl b => .d (.bool b)
  | .int i => .d (.int i)
  | .str x => .d (.str x)
  | v => .raw v
def Sl.flat : Sl → Option V
  | .d .none => some .non
  | .d (.bool b) => some (.bl b)
  | .d (.int i) => some (.int i)
  | .d (.str x) => some (.str x)
  | .raw v => some v
  | _ => none
def SlR (K : PySem.W.Frag) (W : Wld τ) (A : Addr → Prop) (H : Hp) (v : Option V) : Sl → Prop
  | .un => True
  | .d x => ∃ u, v = some u ∧ Rp K A H u x
  | .ml xs => ∃ p vs, v = some (.ref p) ∧ H p = some (.lst vs) ∧ ¬ W.B p ∧ A p ∧ RpAll K A H vs xs
  | .bl xs => ∃ p vs, v = some (.ref p) ∧ SqLA K W.B H p vs ∧ RpAll K A H vs xs
  | .st => ∃ z, v = some (.ref z) ∧ StW W z
  | .scr ns => ∃ a, v = some (.ref a) ∧ ∀ H, W.I H → SqL K H a (ns.map V.int)
  | .raw u => v = some u
  | .mo o => ∃ p ho, v = some (.ref p) ∧ H p = some ho ∧ ¬ W.B p ∧ A p ∧ OdR K A H ho o
  | .bo o => ∃ p ho, v = some (.ref p) ∧ H p = some ho ∧ ¬ W.B p ∧ OdR K A H ho o
/-- a value, from H0 on -/
def VlR (K : PySem.W.Frag) (W : Wld τ) (A : Addr → Prop) (H0 H : Hp) (v : V) : Sl → Prop
  | .un => False
  | .d x => Rp K A H v x
  | .ml xs => ∃ p vs, v = .ref p ∧ ¬ Ob H0 p ∧ H p = some (.lst vs) ∧ RpAll K (fun a => A a ∨ a = p) H vs xs
  | .bl xs => ∃ p vs, v = .ref p ∧ SqLA K W.B H p vs ∧ RpAll K A H vs xs
  | .st => ∃ z, v = .ref z ∧ StW W z
  | .scr ns => ∃ a, v = .ref a ∧ ∀ H, W.I H → SqL K H a (ns.map V.int)
  | .raw u => v = u
  | .mo o => ∃ p ho, v = .ref p ∧ ¬ Ob H0 p ∧ H p = some ho ∧ OdR K (fun a => A a ∨ a = p) H ho o
  | .bo o => ∃ p ho, v = .ref p ∧ H p = some ho ∧ ¬ W.B p ∧ OdR K A H ho o
/-- a thing of one's own -/
def Sl.isOwn : Sl → Prop
  | .ml _ => True
  | .mo _ => True
  | _ => False
/-- one's own, or read -/
def Sl.foot : Sl → Prop
  | .ml _ => True
  | .mo _ => True
  | .bl _ => True
  | .bo _ => True
  | _ => False
structure EnvR (K : PySem.W.Frag) (W : Wld τ) (A : Addr → Prop) (H : Hp) (σ : L2.St) (ρ : List Sl) : Prop where
  len : σ.length = ρ.length
  at_ : ∀ (i : Nat) (s : Sl), ρ[i]? = some s → ∃ v, σ[i]? = some v ∧ SlR K W A H v s
  /-- a list of one's own is no other slot's list, and none that is read -/
  dis : ∀ (i j : Nat) (p : Addr) (t s : Sl), i ≠ j → ρ[i]? = some t → t.isOwn → ρ[j]? = some s → s.foot → σ[i]? = some (some (.ref p)) → σ[j]? = some (some (.ref p)) → False
structure Bs (W : Wld τ) (A : Addr → Prop) (H : Hp) : Prop where
  ba : ∀ a, W.B a → A a
  dom : ∀ a, A a → Ob H a
  inv : W.I H
theorem Bs.fr {W : Wld τ} {A : Addr → Prop} {H H' : Hp} (b : Bs W A H) (f : Fr W.B H H') (i : W.I H') : Bs W A H' := ⟨b.ba, fun a h => f.2 a (b.dom a h), i⟩
theorem Bs.nB {W : Wld τ} {A : Addr → Prop} {H : Hp} {p : Addr} (b : Bs W A H) (h : ¬ Ob H p) : ¬ W.B p := fun z => h (b.dom p (b.ba p z))
theorem Bs.nA {W : Wld τ} {A : Addr → Prop} {H : Hp} {p : Addr} (b : Bs W A H) (h : ¬ Ob H p) : ¬ A p := fun z => h (b.dom p z)
theorem goes_fr {W : Wld τ} {A : Addr → Prop} {H H' : Hp} (b : ∀ a, W.B a → A a) (f : Fr W.B H H') : Goes A A H H' := fun c o h t n => ⟨f.1 c o h t fun z => n (b c z), n⟩
theorem goes_less {A A' : Addr → Prop} {H : Hp} (m : ∀ a, A' a → A a) : Goes A A' H H := fun b o e _ n => ⟨e, fun z => n (m b z)⟩
theorem sqB_fr {K : PySem.W.Frag} {W : Wld τ} {H H' : Hp} (f : Fr W.B H H') {p : Addr} {vs : List V} (h : SqLA K W.B H p vs) : SqLA K W.B H' p vs := sqLA_go (fun c o e t n => ⟨f.1 c o e t n, n⟩) h
theorem VlR.fr {K : PySem.W.Frag} {W : Wld τ} {A : Addr → Prop} {H0 H H' : Hp} {v : V} {s : Sl} (b : Bs W A H0) (h : VlR K W A H0 H v s) (f : Fr W.B H H') : VlR K W A H0 H' v s := by
  cases s with
  | un => exact h
  | d x => exact Rp.go (goes_fr b.ba f) h
  | ml xs =>
    obtain ⟨p, vs, e, n, e1, r⟩ := h
    exact ⟨p, vs, e, n, f.1 _ _ e1 nt_lst (b.nB n), r.go (goes_fr (fun a z => .inl (b.ba a z)) f)⟩
  | bl xs =>
    obtain ⟨p, vs, e, q, r⟩ := h
    exact ⟨p, vs, e, sqB_fr f q, r.go (goes_fr b.ba f)⟩
  | st => exact h
  | scr ns => exact h
  | raw u => exact h
  | mo o =>
    obtain ⟨p, ho, e, n, e1, r⟩ := h
    exact ⟨p, ho, e, n, f.1 _ _ e1 r.mb.nt (b.nB n), r.go (goes_fr (fun a z => .inl (b.ba a z)) f)⟩
  | bo o =>
    obtain ⟨p, ho, e, e1, n, r⟩ := h
    exact ⟨p, ho, e, f.1 _ _ e1 r.mb.nt n, n, r.go (goes_fr b.ba f)⟩
/-- fresh from an earlier heap on -/
theorem VlR.early {K : PySem.W.Frag} {W : Wld τ} {A : Addr → Prop} {H0 H1 H : Hp} {v : V} {s : Sl} (h : VlR K W A H1 H v s) (f : Fr W.B H0 H1) : VlR K W A H0 H v s := by
  cases s with
  | ml xs =>
    obtain ⟨p, vs, e, n, e1, r⟩ := h
    exact ⟨p, vs, e, fun z => n (f.2 p z), e1, r⟩
  | mo o =>
    obtain ⟨p, vs, e, n, e1, r⟩ := h
    exact ⟨p, vs, e, fun z => n (f.2 p z), e1, r⟩
  | _ => exact h
theorem SlR.fr {K : PySem.W.Frag} {W : Wld τ} {A : Addr → Prop} {H H' : Hp} {v : Option V} {s : Sl} (b : ∀ a, W.B a → A a) (h : SlR K W A H v s) (f : Fr W.B H H') : SlR K W A H' v s := by
  cases s with
  | un => exact h
  | d x =>
    obtain ⟨u, e, r⟩ := h
    exact ⟨u, e, r.go (goes_fr b f)⟩
  | ml xs =>
    obtain ⟨p, vs, e, e1, n, a, r⟩ := h
    exact ⟨p, vs, e, f.1 _ _ e1 nt_lst n, n, a, r.go (goes_fr b f)⟩
  | bl xs =>
    obtain ⟨p, vs, e, q, r⟩ := h
    exact ⟨p, vs, e, sqB_fr f q, r.go (goes_fr b f)⟩
  | st => exact h
  | scr ns => exact h
  | raw u => exact h
  | mo o =>
    obtain ⟨p, ho, e, e1, n, a, r⟩ := h
    exact ⟨p, ho, e, f.1 _ _ e1 r.mb.nt n, n, a, r.go (goes_fr b f)⟩
  | bo o =>
    obtain ⟨p, ho, e, e1, n, r⟩ := h
    exact ⟨p, ho, e, f.1 _ _ e1 r.mb.nt n, n, r.go (goes_fr b f)⟩
theorem EnvR.fr {K : PySem.W.Frag} {W : Wld τ} {A : Addr → Prop} {H H' : Hp} {σ : L2.St} {ρ : List Sl} (b : ∀ a, W.B a → A a) (h : EnvR K W A H σ ρ) (f : Fr W.B H H') : EnvR K W A H' σ ρ := ⟨h.len, fun i s e => by
  obtain ⟨v, e1, r⟩ := h.at_ i s e
  exact ⟨v, e1, r.fr b f⟩, h.dis⟩
theorem VlR.dat {K : PySem.W.Frag} {W : Wld τ} {A : Addr → Prop} {H0 H : Hp} {v : V} {s : Sl} {x : PyData} (b : Bs W A H0) (h : VlR K W A H0 H v s) (e : s.dat = some x) : Rp K A H v x := by
  cases s with
  | d y =>
    cases e
    exact h
  | ml xs =>
    cases e
    obtain ⟨p, vs, rfl, n, e1, r⟩ := h
    exact .lst ⟨e1, b.nA n⟩ (r.go (goes_less fun a z => .inl z))
  | mo o =>
    cases o with
    | dk kvs =>
      cases e
      obtain ⟨p, ho, rfl, n, e1, r⟩ := h
      cases ho with
      | dK ks =>
        have r1 := r.2.go (goes_less (A' := A) fun a z => .inl z)
        have k1 : kvs.map (fun p => keyD p.1) = ks.map fun p => keyD p.1 := by
          have := congrArg (List.map keyD) r.1
          rw [List.map_map, List.map_map] at this
          exact this.symm
        show Rp K A H (.ref p) (.dict ((kvs.map fun p => keyD p.1).zip (kvs.map (·.2))))
        rw [k1]
        exact .dct e1 (b.nA n) r1
      | _ => exact r.elim
    | dt kvs => cases e
  | _ => cases e
/-- what can be looked at as data: a list that is read, too -/
def Sl.rd : Sl → Option PyData
  | .d x => some x
  | .ml xs => some (.list xs)
  | .bl xs => some (.list xs)
  | _ => none
theorem VlR.rd {K : PySem.W.Frag} {W : Wld τ} {A : Addr → Prop} {H0 H : Hp} {v : V} {s : Sl} {x : PyData} (b : Bs W A H0) (h : VlR K W A H0 H v s) (e : s.rd = some x) : ∃ A' : Addr → Prop, Rp K A' H v x := by
  cases s with
  | d y =>
    cases e
    exact ⟨A, h⟩
  | ml xs =>
    cases e
    exact ⟨A, VlR.dat (s := .ml xs) b h rfl⟩
  | bl xs =>
    cases e
    obtain ⟨p, vs, rfl, q, r⟩ := h
    exact ⟨W.B, .lst q (r.go (goes_less fun a z => b.ba a z))⟩
  | _ => cases e
theorem VlR.seq {K : PySem.W.Frag} {W : Wld τ} {A : Addr → Prop} {H0 H : Hp} {v : V} {s : Sl} {xs : List PyData} (b : Bs W A H0) (h : VlR K W A H0 H v s) (e : s.seq = some xs) : ∃ p vs, v = .ref p ∧ SqLA K W.B H p vs ∧ RpAll K A H vs xs := by
  cases s with
  | d y =>
    cases y with
    | list ys =>
      cases e
      cases h with
      | lst q r => exact ⟨_, _, rfl, sqLA_go (fun c o e _ n => ⟨e, fun z => n (b.ba c z)⟩) q, r⟩
    | _ => cases e
  | ml ys =>
    cases e
    obtain ⟨p, vs, rfl, n, e1, r⟩ := h
    exact ⟨p, vs, rfl, ⟨e1, b.nB n⟩, r.go (goes_less fun a z => .inl z)⟩
  | bl ys =>
    cases e
    exact h
  | _ => cases e
theorem VlR.sq {K : PySem.W.Frag} {W : Wld τ} {A : Addr → Prop} {H0 H : Hp} {v : V} {s : Sl} {xs : List PyData} (b : Bs W A H0) (i : W.I H) (h : VlR K W A H0 H v s) (e : s.sq = some xs) : ∃ p vs, v = .ref p ∧ (SqL K H p vs ∨ SqT K H p vs) ∧ RpAll K A H vs xs := by
  cases s with
  | d y =>
    cases y with
    | list ys =>
      cases e
      cases h with
      | lst q r => exact ⟨_, _, rfl, .inl (sqLA_sq q), r⟩
    | tuple ys =>
      cases e
      cases h with
      | tup q r => exact ⟨_, _, rfl, .inr (sqTA_sq q), r⟩
    | _ => cases e
  | ml ys =>
    cases e
    obtain ⟨p, vs, rfl, n, e1, r⟩ := h
    exact ⟨p, vs, rfl, .inl (SqL.of e1), r.go (goes_less fun a z => .inl z)⟩
  | bl ys =>
    cases e
    obtain ⟨p, vs, rfl, q, r⟩ := h
    exact ⟨p, vs, rfl, .inl (sqLA_sq q), r⟩
  | scr ns =>
    cases e
    obtain ⟨a, rfl, q⟩ := h
    exact ⟨a, _, rfl, .inl (q H i), .of_ints ns⟩
  | _ => cases e
theorem VlR.flat {K : PySem.W.Frag} {W : Wld τ} {A : Addr → Prop} {H0 H : Hp} {v u : V} {s : Sl} (h : VlR K W A H0 H v s) (e : s.flat = some u) : v = u := by
  cases s with
  | d y => cases y <;> first | (cases e; cases h; rfl) | cases e
  | raw w =>
    cases e
    exact h
  | _ => cases e
theorem vlr_vS {K : PySem.W.Frag} {W : Wld τ} {A : Addr → Prop} {H0 H : Hp} (v : V) : VlR K W A H0 H v (vS v) := by
  cases v with
  | non => exact Rp.non
  | bl b => exact Rp.bl b
  | int i => exact Rp.int i
  | str x => exact Rp.str x
  | _ => rfl
/-- what a slot is as a value -/
def Sl.val : Sl → Sl
  | .ml xs => .bl xs
  | .mo o => .bo o
  | s => s
theorem SlR.val {K : PySem.W.Frag} {W : Wld τ} {A : Addr → Prop} {H0 H : Hp} {v : Option V} {s : Sl} (h : SlR K W A H v s) (hs : s ≠ .un) : ∃ u, v = some u ∧ VlR K W A H0 H u s.val := by
  cases s with
  | un => exact absurd rfl hs
  | d x => exact h
  | ml xs =>
    obtain ⟨p, vs, e, e1, n, _, r⟩ := h
    exact ⟨_, e, p, vs, rfl, ⟨e1, n⟩, r⟩
  | bl xs =>
    obtain ⟨p, vs, e, q, r⟩ := h
    exact ⟨_, e, p, vs, rfl, q, r⟩
  | st =>
    obtain ⟨z, e, q⟩ := h
    exact ⟨_, e, z, rfl, q⟩
  | scr ns =>
    obtain ⟨z, e, q⟩ := h
    exact ⟨_, e, z, rfl, q⟩
  | raw u => exact ⟨u, h, rfl⟩
  | mo o =>
    obtain ⟨p, ho, e, e1, n, _, r⟩ := h
    exact ⟨_, e, p, ho, rfl, e1, n, r⟩
  | bo o =>
    obtain ⟨p, ho, e, e1, n, r⟩ := h
    exact ⟨_, e, p, ho, rfl, e1, n, r⟩
end Dl

namespace Dl
open PySem PySem.Spec PyProof.Rows L2
abbrev Er := Addr × List (Str × PyData)
/-- what is raised: its class, its own dict -/
def ErR (K : PySem.W.Frag) (A : Addr → Prop) (H : Hp) (er : Er) (x : Option Addr) : Prop :=
  (er.2 = [] ∧ x = none) ∨ (er.2 ≠ [] ∧ ∃ d vs, x = some d ∧ H d = some (.xd ((er.2.map (·.1)).zip vs)) ∧ RpAll K A H vs (er.2.map (·.2)))
def ErK (K : PySem.W.Frag) (W : Wld τ) (A : Addr → Prop) (E : XK) (H : Hp) (R : Er → Prop) : Prop := ∀ er x H', Fr W.B H H' → W.I H' → ErR K A H' er x → R er → E (.ref er.1) x H'
theorem ErR.mono {K : PySem.W.Frag} {A A0 : Addr → Prop} {H : Hp} {er : Er} {x : Option Addr} (h : ErR K A H er x) (m : ∀ a, A0 a → A a) : ErR K A0 H er x := by
  rcases h with h | ⟨h1, d, vs, h2, h3, h4⟩
  · exact .inl h
  · exact .inr ⟨h1, d, vs, h2, h3, h4.go fun b o e _ n => ⟨e, fun z => n (m b z)⟩⟩
structure At (K : PySem.W.Frag) (W : Wld τ) (A : Addr → Prop) (E : XK) (H : Hp) (σ : L2.St) (ρ : List Sl) (R : Er → Prop) : Prop where
  bs : Bs W A H
  env : EnvR K W A H σ ρ
  er : ErK K W A E H R
theorem At.fr {K : PySem.W.Frag} {W : Wld τ} {A : Addr → Prop} {E : XK} {H H' : Hp} {σ : L2.St} {ρ : List Sl} {R : Er → Prop} (h : At K W A E H σ ρ R) (f : Fr W.B H H') (i : W.I H') : At K W A E H' σ ρ R :=
  ⟨h.bs.fr f i, h.env.fr h.bs.ba f, fun er x H2 f2 i2 e r => h.er er x H2 (f.trans f2) i2 e r⟩
/-- what is wanted of a value from H on -/
def Want (K : PySem.W.Frag) (W : Wld τ) (A : Addr → Prop) (H : Hp) (Qd : Sl → Prop) (Q : VK) : Prop := ∀ v H' s, Fr W.B H H' → W.I H' → VlR K W A H H' v s → Qd s → Q v H'
abbrev TD := List Sl → (Sl → Prop) → (Er → Prop) → Prop
abbrev TDT := List Sl → (Bool → Prop) → (Er → Prop) → Prop
abbrev TDA := List Sl → (List Sl → Prop) → (Er → Prop) → Prop
class RefE (K : PySem.W.Frag) (τ : List (Addr × Str)) (E : XK) (t : TE) (f : outParam TD) : Prop where
  go : ∀ (W : Wld τ) (A : Addr → Prop) (H : Hp) (σ : L2.St) (ρ : List Sl) (Qd : Sl → Prop) (R : Er → Prop) (Q : VK), At K W A E H σ ρ R → f ρ Qd R → Want K W A H Qd Q → t σ H Q
class RefT (K : PySem.W.Frag) (τ : List (Addr × Str)) (E : XK) (t : TT) (f : outParam TDT) : Prop where
  go : ∀ (W : Wld τ) (A : Addr → Prop) (H : Hp) (σ : L2.St) (ρ : List Sl) (Qd : Bool → Prop) (R : Er → Prop) (Q : Bool → Hp → Prop), At K W A E H σ ρ R → f ρ Qd R → (∀ b H', Fr W.B H H' → W.I H' → Qd b → Q b H') → t σ H Q
/-- values in a row -/
inductive VlsR (K : PySem.W.Frag) (W : Wld τ) (A : Addr → Prop) (H0 H : Hp) : List V → List Sl → Prop
  | nil : VlsR K W A H0 H [] []
  | cons {v : V} {vs : List V} {s : Sl} {ss : List Sl} : VlR K W A H0 H v s → VlsR K W A H0 H vs ss → VlsR K W A H0 H (v :: vs) (s :: ss)
theorem VlsR.early {K : PySem.W.Frag} {W : Wld τ} {A : Addr → Prop} {H0 H1 H : Hp} {vs : List V} {ss : List Sl} (h : VlsR K W A H1 H vs ss) (f : Fr W.B H0 H1) : VlsR K W A H0 H vs ss := by
  induction h with
  | nil => exact .nil
  | cons a _ ih => exact .cons (a.early f) ih
theorem VlsR.fr {K : PySem.W.Frag} {W : Wld τ} {A : Addr → Prop} {H0 H H' : Hp} {vs : List V} {ss : List Sl} (b : Bs W A H0) (h : VlsR K W A H0 H vs ss) (f : Fr W.B H H') : VlsR K W A H0 H' vs ss := by
  induction h with
  | nil => exact .nil
  | cons a _ ih => exact .cons (a.fr b f) ih
class RefA (K : PySem.W.Frag) (τ : List (Addr × Str)) (E : XK) (t : TA) (f : outParam TDA) : Prop where
  go : ∀ (W : Wld τ) (A : Addr → Prop) (H : Hp) (σ : L2.St) (ρ : List Sl) (Qd : List Sl → Prop) (R : Er → Prop) (Q : List V → Hp → Prop), At K W A E H σ ρ R → f ρ Qd R → (∀ vs H' ss, Fr W.B H H' → W.I H' → VlsR K W A H H' vs ss → Qd ss → Q vs H') → t σ H Q
/-- operators of two values; of one; built-in calls -/
class Ref2 (K : PySem.W.Frag) (r : R2) (f : outParam (Sl → Sl → (Sl → Prop) → Prop)) : Prop where
  go : ∀ {τ : List (Addr × Str)} (W : Wld τ) (A : Addr → Prop) (H0 H : Hp) (x y : V) (s u : Sl) (Qd : Sl → Prop) (Q : VK), Bs W A H0 → Fr W.B H0 H → W.I H → VlR K W A H0 H x s → VlR K W A H0 H y u → f s u Qd → Want K W A H Qd Q → r x y H Q
class Ref1 (K : PySem.W.Frag) (r : V → Hp → VK → Prop) (f : outParam (Sl → (Sl → Prop) → Prop)) : Prop where
  go : ∀ {τ : List (Addr × Str)} (W : Wld τ) (A : Addr → Prop) (H0 H : Hp) (x : V) (s : Sl) (Qd : Sl → Prop) (Q : VK), Bs W A H0 → Fr W.B H0 H → W.I H → VlR K W A H0 H x s → f s Qd → Want K W A H Qd Q → r x H Q
class RefC (K : PySem.W.Frag) (r : List V → Hp → VK → Prop) (f : outParam (List Sl → (Sl → Prop) → Prop)) : Prop where
  go : ∀ {τ : List (Addr × Str)} (W : Wld τ) (A : Addr → Prop) (H0 H : Hp) (xs : List V) (ss : List Sl) (Qd : Sl → Prop) (Q : VK), Bs W A H0 → Fr W.B H0 H → W.I H → VlsR K W A H0 H xs ss → f ss Qd → Want K W A H Qd Q → r xs H Q
theorem Want.here {K : PySem.W.Frag} {W : Wld τ} {A : Addr → Prop} {H : Hp} {Qd : Sl → Prop} {Q : VK} (h : Want K W A H Qd Q) (i : W.I H) (v : V) (q : Qd (vS v)) : Q v H := h v H _ (Fr.refl H) i (vlr_vS v) q
theorem Want.back {K : PySem.W.Frag} {W : Wld τ} {A : Addr → Prop} {H H1 : Hp} {Qd : Sl → Prop} {Q : VK} (h : Want K W A H Qd Q) (f : Fr W.B H H1) : Want K W A H1 Qd Q := fun v H' s f' i r q => h v H' s (f.trans f') i (r.early f) q
/-- a new list -/
theorem Want.lst {K : PySem.W.Frag} {W : Wld τ} {A : Addr → Prop} {H : Hp} {Qd : Sl → Prop} {Q : VK} {vs : List V} {ds : List PyData} (b : Bs W A H) (h : Want K W A H Qd Q) (r : RpAll K A H vs ds) (q : Qd (.ml ds)) : ∀ p, H p = none → Q (.ref p) (upd H p (.lst vs)) := fun p n =>
  h _ _ (.ml ds) (Fr.new n) (W.stay _ _ (same_new n) b.inv) ⟨p, vs, rfl, nob n, upd_same, r.go fun c o e _ nc => ⟨same_new n _ _ e, fun z => z.elim nc (ne_of_none e n)⟩⟩ q
theorem Want.tup {K : PySem.W.Frag} {W : Wld τ} {A : Addr → Prop} {H : Hp} {Qd : Sl → Prop} {Q : VK} {vs : List V} {ds : List PyData} (b : Bs W A H) (h : Want K W A H Qd Q) (r : RpAll K A H vs ds) (q : Qd (.d (.tuple ds))) : ∀ p, H p = none → Q (.ref p) (upd H p (.tup vs)) := fun p n =>
  h _ _ (.d (.tuple ds)) (Fr.new n) (W.stay _ _ (same_new n) b.inv) (Rp.tup (.inl ⟨.inl upd_same, b.nA (nob n)⟩) (r.go (goes_fr b.ba (Fr.new n)))) q
/-! ### names, constants -/
def dVar (i : Nat) : TD := fun ρ Qd _ => match (ρ[i]?).getD .un with
  | .un => False
  | .d x => Qd (.d x)
  | .ml xs => Qd (.bl xs)
  | .bl xs => Qd (.bl xs)
  | .st => Qd .st
  | .scr ns => Qd (.scr ns)
  | .raw v => Qd (.raw v)
  | .mo o => Qd (.bo o)
  | .bo o => Qd (.bo o)
theorem dVar_iff {i : Nat} {ρ : List Sl} {Qd : Sl → Prop} {R : Er → Prop} (h : dVar i ρ Qd R) : ∃ s, ρ[i]? = some s ∧ s ≠ .un ∧ Qd s.val := by
  unfold dVar at h
  cases e : ρ[i]? with
  | none =>
    rw [e] at h
    exact h.elim
  | some s =>
    rw [e] at h
    cases s with
    | un => exact h.elim
    | _ => exact ⟨_, rfl, (fun z => nomatch z), h⟩
section
variable {K : PySem.W.Frag} {E : XK}
instance {i : Nat} : RefE K τ E (tVar i) (dVar i) := ⟨fun W A H σ ρ Qd R Q a h w => by
  obtain ⟨s, e, hs, q⟩ := dVar_iff h
  obtain ⟨v, e1, r⟩ := a.env.at_ _ _ e
  obtain ⟨u, rfl, r2⟩ := r.val (H0 := H) hs
  exact ⟨u, e1, w u H _ (Fr.refl H) a.bs.inv r2 q⟩⟩
def dC (v : V) : TD := fun _ Qd _ => Qd (vS v)
instance {v : V} : RefE K τ E (tC v) (dC v) := ⟨fun W A H σ ρ Qd R Q a h w => w.here a.bs.inv v h⟩
/-! ### operators -/
def dOp (f : Sl → Sl → (Sl → Prop) → Prop) (fa fb : TD) : TD := fun ρ Qd R => fa ρ (fun s => fb ρ (fun u => f s u Qd) R) R
instance {r : R2} {ta tb : TE} {f : Sl → Sl → (Sl → Prop) → Prop} {fa fb : TD} [ha : RefE K τ E ta fa] [hb : RefE K τ E tb fb] [h2 : Ref2 K r f] : RefE K τ E (tOp r ta tb) (dOp f fa fb) := ⟨fun W A H σ ρ Qd R Q a h w => by
  refine ha.go W A H σ ρ _ R _ a h fun x H1 s f1 i1 r1 q1 => ?_
  refine hb.go W A H1 σ ρ _ R _ (a.fr f1 i1) q1 fun y H2 u f2 i2 r2 q2 => ?_
  exact h2.go W A H H2 x y s u Qd Q a.bs (f1.trans f2) i2 (r1.fr a.bs f2) (r2.early f1) q2 (w.back (f1.trans f2))⟩
def dUn (f : Sl → (Sl → Prop) → Prop) (fa : TD) : TD := fun ρ Qd R => fa ρ (fun s => f s Qd) R
instance {r : V → Hp → VK → Prop} {ta : TE} {f : Sl → (Sl → Prop) → Prop} {fa : TD} [ha : RefE K τ E ta fa] [h1 : Ref1 K r f] : RefE K τ E (tUn r ta) (dUn f fa) := ⟨fun W A H σ ρ Qd R Q a h w => by
  refine ha.go W A H σ ρ _ R _ a h fun x H1 s f1 i1 r1 q1 => ?_
  exact h1.go W A H H1 x s Qd Q a.bs f1 i1 r1 q1 (w.back f1)⟩
def fI0 (g : Int → Int → V) : Sl → Sl → (Sl → Prop) → Prop := fun s u Qd => match s, u with
  | .d (.int i), .d (.int j) => Qd (vS (g i j))
  | _, _ => False
theorem fI0_iff {g : Int → Int → V} {s u : Sl} {Qd : Sl → Prop} (h : fI0 g s u Qd) : ∃ i j, s = .d (.int i) ∧ u = .d (.int j) ∧ Qd (vS (g i j)) := by
  unfold fI0 at h
  split at h
  · exact ⟨_, _, rfl, rfl, h⟩
  · exact h.elim
instance {g : Int → Int → V} : Ref2 K (rI0 g) (fI0 g) := ⟨fun W A H0 H x y s u Qd Q b f i rx ry h w => by
  obtain ⟨m, n, rfl, rfl, q⟩ := fI0_iff h
  exact ⟨m, n, rx.flat (u := .int m) rfl, ry.flat (u := .int n) rfl, w.here i _ q⟩⟩
def fI (C : Int → Int → Prop) (g : Int → Int → V) : Sl → Sl → (Sl → Prop) → Prop := fun s u Qd => match s, u with
  | .d (.int i), .d (.int j) => C i j ∧ Qd (vS (g i j))
  | _, _ => False
instance {C : Int → Int → Prop} {g : Int → Int → V} : Ref2 K (rI C g) (fI C g) := ⟨fun W A H0 H x y s u Qd Q b f i rx ry h w => by
  unfold fI at h
  split at h
  · rename_i m n
    exact ⟨m, n, rx.flat (u := .int m) rfl, ry.flat (u := .int n) rfl, h.1, w.here i _ h.2⟩
  · exact h.elim⟩
def fU (g : Int → V) : Sl → (Sl → Prop) → Prop := fun s Qd => match s with
  | .d (.int i) => Qd (vS (g i))
  | _ => False
instance {g : Int → V} : Ref1 K (rU g) (fU g) := ⟨fun W A H0 H x s Qd Q b f i rx h w => by
  unfold fU at h
  split at h
  · rename_i m
    exact ⟨m, rx.flat (u := .int m) rfl, w.here i _ h⟩
  · exact h.elim⟩
def fEq (neg : Bool) : Sl → Sl → (Sl → Prop) → Prop := fun s u Qd => match s.flat, u.flat with
  | some x, some y => scal x y = true ∧ Qd (.d (.bool (if neg then !decide (x = y) else decide (x = y))))
  | _, _ => False
theorem fEq_iff {neg : Bool} {s u : Sl} {Qd : Sl → Prop} (h : fEq neg s u Qd) : ∃ x y, s.flat = some x ∧ u.flat = some y ∧ scal x y = true ∧ Qd (.d (.bool (if neg then !decide (x = y) else decide (x = y)))) := by
  unfold fEq at h
  split at h
  · rename_i x y e1 e2
    exact ⟨x, y, e1, e2, h.1, h.2⟩
  · exact h.elim
instance : Ref2 K rEq (fEq false) := ⟨fun W A H0 H x y s u Qd Q b f i rx ry h w => by
  obtain ⟨m, n, e1, e2, sc, q⟩ := fEq_iff h
  obtain rfl := rx.flat e1
  obtain rfl := ry.flat e2
  exact ⟨sc, w.here i _ q⟩⟩
instance : Ref2 K rNe (fEq true) := ⟨fun W A H0 H x y s u Qd Q b f i rx ry h w => by
  obtain ⟨m, n, e1, e2, sc, q⟩ := fEq_iff h
  obtain rfl := rx.flat e1
  obtain rfl := ry.flat e2
  exact ⟨sc, w.here i _ q⟩⟩
/-- == of data of any depth -/
def fEqD (neg : Bool) : Sl → Sl → (Sl → Prop) → Prop := fun s u Qd => match s.rd, u.rd with
  | some x, some y => SeqAt.shaped x = true ∧ SeqAt.shaped y = true ∧ Qd (.d (.bool (if neg then !PyData.eqv x y else PyData.eqv x y)))
  | _, _ => False
theorem shaped_lay {d : PyData} (h : SeqAt.shaped d = true) : d.canLay0 = true := by
  unfold SeqAt.shaped at h
  rw [Bool.and_eq_true] at h
  exact h.1
theorem fEqD_iff {neg : Bool} {s u : Sl} {Qd : Sl → Prop} (h : fEqD neg s u Qd) : ∃ x y, s.rd = some x ∧ u.rd = some y ∧ SeqAt.shaped x = true ∧ SeqAt.shaped y = true ∧ Qd (.d (.bool (if neg then !PyData.eqv x y else PyData.eqv x y))) := by
  unfold fEqD at h
  split at h
  · rename_i x y e1 e2
    exact ⟨x, y, e1, e2, h.1, h.2.1, h.2.2⟩
  · exact h.elim
instance : Ref2 K (rEqD K) (fEqD false) := ⟨fun W A H0 H x y s u Qd Q b f i rx ry h w => by
  obtain ⟨m, n, e1, e2, s1, s2, q⟩ := fEqD_iff h
  obtain ⟨_, r1⟩ := rx.rd b e1
  obtain ⟨_, r2⟩ := ry.rd b e2
  exact ⟨m, n, r1.dp (shaped_lay s1), r2.dp (shaped_lay s2), s1, s2, w.here i _ q⟩⟩
instance : Ref2 K (rNeD K) (fEqD true) := ⟨fun W A H0 H x y s u Qd Q b f i rx ry h w => by
  obtain ⟨m, n, e1, e2, s1, s2, q⟩ := fEqD_iff h
  obtain ⟨_, r1⟩ := rx.rd b e1
  obtain ⟨_, r2⟩ := ry.rd b e2
  exact ⟨m, n, r1.dp (shaped_lay s1), r2.dp (shaped_lay s2), s1, s2, w.here i _ q⟩⟩
/-- is None -/
def Sl.isNon : Sl → Bool
  | .d .none => true
  | _ => false
def fIs (neg : Bool) : Sl → Sl → (Sl → Prop) → Prop := fun s u Qd => match s, u with
  | .d x, .d .none => Qd (.d (.bool (if neg then !(Sl.d x).isNon else (Sl.d x).isNon)))
  | .ml xs, .d .none => Qd (.d (.bool neg))
  | .bl xs, .d .none => Qd (.d (.bool neg))
  | _, _ => False
theorem rp_non {K : PySem.W.Frag} {A : Addr → Prop} {H : Hp} {v : V} {x : PyData} (h : Rp K A H v x) : decide (v = .non) = (Sl.d x).isNon := by
  cases h <;> rfl
theorem fIs_iff {neg : Bool} {s u : Sl} {Qd : Sl → Prop} {K : PySem.W.Frag} {W : Wld τ} {A : Addr → Prop} {H0 H : Hp} {v : V} (r : VlR K W A H0 H v s) (h : fIs neg s u Qd) : u = .d .none ∧ Qd (.d (.bool (if neg then !decide (v = .non) else decide (v = .non)))) := by
  unfold fIs at h
  split at h
  · rename_i x
    refine ⟨rfl, ?_⟩
    rw [rp_non r]
    exact h
  · obtain ⟨p, vs, rfl, _⟩ := r
    refine ⟨rfl, ?_⟩
    cases neg <;> exact h
  · obtain ⟨p, vs, rfl, _⟩ := r
    refine ⟨rfl, ?_⟩
    cases neg <;> exact h
  · exact h.elim
instance : Ref2 K (fun x y H Q => y = .non ∧ Q (.bl (decide (x = .non))) H) (fIs false) := ⟨fun W A H0 H x y s u Qd Q b f i rx ry h w => by
  obtain ⟨rfl, q⟩ := fIs_iff rx h
  exact ⟨ry.flat (u := .non) rfl, w.here i _ q⟩⟩
instance : Ref2 K (fun x y H Q => y = .non ∧ Q (.bl (!decide (x = .non))) H) (fIs true) := ⟨fun W A H0 H x y s u Qd Q b f i rx ry h w => by
  obtain ⟨rfl, q⟩ := fIs_iff rx h
  exact ⟨ry.flat (u := .non) rfl, w.here i _ q⟩⟩
/-! ### tests -/
def dTst (fe : TD) : TDT := fun ρ Qd R => fe ρ (fun s => match s with
  | .d (.bool b) => Qd b
  | _ => False) R
theorem dTst_iff {Qd : Bool → Prop} {s : Sl} (h : (match s with
  | .d (.bool b) => Qd b
  | _ => False)) : ∃ b, s = .d (.bool b) ∧ Qd b := by
  split at h
  · exact ⟨_, rfl, h⟩
  · exact h.elim
instance {t : TE} {f : TD} [ht : RefE K τ E t f] : RefT K τ E (tB t) (dTst f) := ⟨fun W A H σ ρ Qd R Q a h w => by
  refine ht.go W A H σ ρ _ R _ a h fun x H1 s f1 i1 r1 q1 => ?_
  obtain ⟨b, rfl, q⟩ := dTst_iff q1
  exact ⟨b, r1.flat (u := .bl b) rfl, w b H1 f1 i1 q⟩⟩
instance {t : TE} {f : TD} [ht : RefE K τ E t f] : RefT K τ E (tTest t) (dTst f) := ⟨fun W A H σ ρ Qd R Q a h w => by
  refine ht.go W A H σ ρ _ R _ a h fun x H1 s f1 i1 r1 q1 => ?_
  obtain ⟨b, rfl, q⟩ := dTst_iff q1
  exact ⟨b, r1.flat (u := .bl b) rfl, w b H1 f1 i1 q⟩⟩
def dNot (c : TDT) : TDT := fun ρ Qd R => c ρ (fun b => Qd (!b)) R
instance {t : TT} {c : TDT} [ht : RefT K τ E t c] : RefT K τ E (tNot t) (dNot c) := ⟨fun W A H σ ρ Qd R Q a h w => ht.go W A H σ ρ _ R _ a h fun b H1 f1 i1 q => w _ _ f1 i1 q⟩
def dAnd (c e : TDT) : TDT := fun ρ Qd R => c ρ (fun b => match b with
  | true => e ρ Qd R
  | false => Qd false) R
def dOr (c e : TDT) : TDT := fun ρ Qd R => c ρ (fun b => match b with
  | true => Qd true
  | false => e ρ Qd R) R
instance {t u : TT} {c e : TDT} [ht : RefT K τ E t c] [hu : RefT K τ E u e] : RefT K τ E (tAnd t u) (dAnd c e) := ⟨fun W A H σ ρ Qd R Q a h w => by
  refine ht.go W A H σ ρ _ R _ a h fun b H1 f1 i1 q => ?_
  cases b with
  | true => exact iteT (hu.go W A H1 σ ρ _ R _ (a.fr f1 i1) q fun b H2 f2 i2 q2 => w b H2 (f1.trans f2) i2 q2)
  | false => exact iteF (w false H1 f1 i1 q)⟩
instance {t u : TT} {c e : TDT} [ht : RefT K τ E t c] [hu : RefT K τ E u e] : RefT K τ E (tOr t u) (dOr c e) := ⟨fun W A H σ ρ Qd R Q a h w => by
  refine ht.go W A H σ ρ _ R _ a h fun b H1 f1 i1 q => ?_
  cases b with
  | true => exact iteT (w true H1 f1 i1 q)
  | false => exact iteF (hu.go W A H1 σ ρ _ R _ (a.fr f1 i1) q fun b H2 f2 i2 q2 => w b H2 (f1.trans f2) i2 q2)⟩
/-- and, or, not as values -/
def dAndV (fa fb : TD) : TD := fun ρ Qd R => dTst fa ρ (fun b => match b with
  | true => fb ρ Qd R
  | false => Qd (.d (.bool false))) R
def dOrV (fa fb : TD) : TD := fun ρ Qd R => dTst fa ρ (fun b => match b with
  | true => Qd (.d (.bool true))
  | false => fb ρ Qd R) R
def dNotV (fa : TD) : TD := fun ρ Qd R => dTst fa ρ (fun b => Qd (.d (.bool !b))) R
instance {t u : TE} {c e : TD} [ht : RefE K τ E t c] [hu : RefE K τ E u e] : RefE K τ E (tAndV t u) (dAndV c e) := ⟨fun W A H σ ρ Qd R Q a h w => by
  refine ht.go W A H σ ρ _ R _ a h fun x H1 s f1 i1 r1 q1 => ?_
  obtain ⟨b, rfl, q⟩ := dTst_iff (Qd := fun b => match b with
    | true => e ρ Qd R
    | false => Qd (.d (.bool false))) q1
  refine ⟨b, r1.flat (u := .bl b) rfl, ?_⟩
  cases b with
  | true => exact iteT (hu.go W A H1 σ ρ _ R _ (a.fr f1 i1) q (w.back f1))
  | false => exact iteF ((w.back f1).here i1 _ q)⟩
instance {t u : TE} {c e : TD} [ht : RefE K τ E t c] [hu : RefE K τ E u e] : RefE K τ E (tOrV t u) (dOrV c e) := ⟨fun W A H σ ρ Qd R Q a h w => by
  refine ht.go W A H σ ρ _ R _ a h fun x H1 s f1 i1 r1 q1 => ?_
  obtain ⟨b, rfl, q⟩ := dTst_iff (Qd := fun b => match b with
    | true => Qd (.d (.bool true))
    | false => e ρ Qd R) q1
  refine ⟨b, r1.flat (u := .bl b) rfl, ?_⟩
  cases b with
  | true => exact iteT ((w.back f1).here i1 _ q)
  | false => exact iteF (hu.go W A H1 σ ρ _ R _ (a.fr f1 i1) q (w.back f1))⟩
instance {t : TE} {c : TD} [ht : RefE K τ E t c] : RefE K τ E (tNotV t) (dNotV c) := ⟨fun W A H σ ρ Qd R Q a h w => by
  refine ht.go W A H σ ρ _ R _ a h fun x H1 s f1 i1 r1 q1 => ?_
  obtain ⟨b, rfl, q⟩ := dTst_iff (Qd := fun b => Qd (.d (.bool !b))) q1
  exact ⟨b, r1.flat (u := .bl b) rfl, (w.back f1).here i1 _ q⟩⟩
/-- a if t else b -/
def dIf (c : TDT) (fa fb : TD) : TD := fun ρ Qd R => c ρ (fun b => match b with
  | true => fa ρ Qd R
  | false => fb ρ Qd R) R
instance {t : TT} {ta tb : TE} {c : TDT} {fa fb : TD} [ht : RefT K τ E t c] [ha : RefE K τ E ta fa] [hb : RefE K τ E tb fb] : RefE K τ E (tIf t ta tb) (dIf c fa fb) := ⟨fun W A H σ ρ Qd R Q a h w => by
  refine ht.go W A H σ ρ _ R _ a h fun b H1 f1 i1 q => ?_
  cases b with
  | true => exact iteT (ha.go W A H1 σ ρ _ R _ (a.fr f1 i1) q (w.back f1))
  | false => exact iteF (hb.go W A H1 σ ρ _ R _ (a.fr f1 i1) q (w.back f1))⟩
/-- a < b < c -/
def dChain (f g : Sl → Sl → (Sl → Prop) → Prop) (fa fb fc : TD) : TD := fun ρ Qd R => fa ρ (fun s => fb ρ (fun u => f s u fun z => match z with
  | .d (.bool b) => (match b with
    | true => fc ρ (fun y => g u y Qd) R
    | false => Qd (.d (.bool false)))
  | _ => False) R) R
instance {r r' : R2} {ta tb tc : TE} {f g : Sl → Sl → (Sl → Prop) → Prop} {fa fb fc : TD} [ha : RefE K τ E ta fa] [hb : RefE K τ E tb fb] [hc : RefE K τ E tc fc] [h2 : Ref2 K r f] [h3 : Ref2 K r' g] : RefE K τ E (tChain r r' ta tb tc) (dChain f g fa fb fc) := ⟨fun W A H σ ρ Qd R Q a h w => by
  refine ha.go W A H σ ρ _ R _ a h fun x H1 s f1 i1 r1 q1 => ?_
  refine hb.go W A H1 σ ρ _ R _ (a.fr f1 i1) q1 fun y H2 u f2 i2 r2 q2 => ?_
  refine h2.go W A H H2 x y s u _ _ a.bs (f1.trans f2) i2 (r1.fr a.bs f2) (r2.early f1) q2 fun z H3 c f3 i3 r3 q3 => ?_
  obtain ⟨b, rfl, q⟩ := dTst_iff (Qd := fun b => match b with
    | true => fc ρ (fun y => g u y Qd) R
    | false => Qd (.d (.bool false))) q3
  have f13 := (f1.trans f2).trans f3
  refine ⟨b, r3.flat (u := .bl b) rfl, ?_⟩
  cases b with
  | true =>
    refine iteT (hc.go W A H3 σ ρ _ R _ (a.fr f13 i3) q fun y' H4 c' f4 i4 r4 q4 => ?_)
    exact h3.go W A H H4 y y' u c' Qd Q a.bs (f13.trans f4) i4 ((r2.early f1).fr a.bs (f3.trans f4)) (r4.early f13) q4 (w.back (f13.trans f4))
  | false => exact iteF ((w.back f13).here i3 _ q)⟩
/-! ### arguments, displays, built-in calls -/
def dNil : TDA := fun _ Qd _ => Qd []
def dCons (fa : TD) (fr : TDA) : TDA := fun ρ Qd R => fa ρ (fun s => fr ρ (fun ss => Qd (s :: ss)) R) R
instance : RefA K τ E tNil dNil := ⟨fun W A H σ ρ Qd R Q a h w => w [] H [] (Fr.refl H) a.bs.inv .nil h⟩
instance {ta : TE} {tr : TA} {fa : TD} {fr : TDA} [ha : RefE K τ E ta fa] [hr : RefA K τ E tr fr] : RefA K τ E (tCons ta tr) (dCons fa fr) := ⟨fun W A H σ ρ Qd R Q a h w => by
  refine ha.go W A H σ ρ _ R _ a h fun x H1 s f1 i1 r1 q1 => ?_
  refine hr.go W A H1 σ ρ _ R _ (a.fr f1 i1) q1 fun ys H2 ss f2 i2 r2 q2 => ?_
  exact w (x :: ys) H2 (s :: ss) (f1.trans f2) i2 (.cons (r1.fr a.bs f2) (r2.early f1)) q2⟩
/-- all of them data -/
def dats : List Sl → Option (List PyData)
  | [] => some []
  | s :: r => match s.dat, dats r with
    | some x, some xs => some (x :: xs)
    | _, _ => none
theorem VlsR.dats {W : Wld τ} {A : Addr → Prop} {H0 H : Hp} (b : Bs W A H0) {vs : List V} {ss : List Sl} (h : VlsR K W A H0 H vs ss) : ∀ {ds : List PyData}, Dl.dats ss = some ds → RpAll K A H vs ds := by
  induction h with
  | nil =>
    intro ds e
    cases e
    exact .nil
  | @cons v vs s ss h1 h2 ih =>
    intro ds e
    unfold Dl.dats at e
    split at e
    · rename_i x xs e1 e2
      cases e
      exact .cons (h1.dat b e1) (ih e2)
    · cases e
theorem VlsR.length {W : Wld τ} {A : Addr → Prop} {H0 H : Hp} {vs : List V} {ss : List Sl} (h : VlsR K W A H0 H vs ss) : vs.length = ss.length := by
  induction h with
  | nil => rfl
  | cons _ _ ih => rw [List.length_cons, List.length_cons, ih]
def dTup (fa : TDA) : TD := fun ρ Qd R => fa ρ (fun ss => ss.length ≤ sizeLine ∧ match dats ss with
  | some ds => Qd (.d (.tuple ds))
  | none => False) R
def dLst (fa : TDA) : TD := fun ρ Qd R => fa ρ (fun ss => ss.length ≤ sizeLine ∧ match dats ss with
  | some ds => Qd (.ml ds)
  | none => False) R
theorem dats_iff {ss : List Sl} {P : List PyData → Prop} (h : (match dats ss with
  | some ds => P ds
  | none => False)) : ∃ ds, dats ss = some ds ∧ P ds := by
  split at h
  · rename_i ds e
    exact ⟨ds, e, h⟩
  · exact h.elim
instance {t : TA} {fa : TDA} [ha : RefA K τ E t fa] : RefE K τ E (tTup t) (dTup fa) := ⟨fun W A H σ ρ Qd R Q a h w => by
  refine ha.go W A H σ ρ _ R _ a h fun vs H1 ss f1 i1 r1 q1 => ?_
  obtain ⟨hl, q⟩ := q1
  obtain ⟨ds, e, q⟩ := dats_iff (P := fun ds => Qd (.d (.tuple ds))) q
  exact ⟨by rw [r1.length]; exact hl, Want.tup (a.bs.fr f1 i1) (w.back f1) (r1.dats a.bs e) q⟩⟩
instance {t : TA} {fa : TDA} [ha : RefA K τ E t fa] : RefE K τ E (tLst t) (dLst fa) := ⟨fun W A H σ ρ Qd R Q a h w => by
  refine ha.go W A H σ ρ _ R _ a h fun vs H1 ss f1 i1 r1 q1 => ?_
  obtain ⟨hl, q⟩ := q1
  obtain ⟨ds, e, q⟩ := dats_iff (P := fun ds => Qd (.ml ds)) q
  exact ⟨by rw [r1.length]; exact hl, Want.lst (a.bs.fr f1 i1) (w.back f1) (r1.dats a.bs e) q⟩⟩
def dCB (f : List Sl → (Sl → Prop) → Prop) (fa : TDA) : TD := fun ρ Qd R => fa ρ (fun ss => f ss Qd) R
instance {r : List V → Hp → VK → Prop} {t : TA} {f : List Sl → (Sl → Prop) → Prop} {fa : TDA} [ha : RefA K τ E t fa] [hc : RefC K r f] : RefE K τ E (tCB r t) (dCB f fa) := ⟨fun W A H σ ρ Qd R Q a h w => by
  refine ha.go W A H σ ρ _ R _ a h fun vs H1 ss f1 i1 r1 q1 => ?_
  exact hc.go W A H H1 vs ss Qd Q a.bs f1 i1 r1 q1 (w.back f1)⟩
end
end Dl

namespace Dl
open PySem PySem.Spec PyProof.Rows L2
/-! ### slots -/
theorem EnvR.pre {K : PySem.W.Frag} {W : Wld τ} {A : Addr → Prop} {H : Hp} {σ gσ : L2.St} {ρ gρ : List Sl} (h : EnvR K W A H (σ ++ gσ) (ρ ++ gρ)) (hl : σ.length = ρ.length) : EnvR K W A H σ ρ := by
  have up : ∀ {i : Nat} {s : Sl}, ρ[i]? = some s → (ρ ++ gρ)[i]? = some s ∧ (σ ++ gσ)[i]? = σ[i]? := fun {i s} e => by
    have hi := (List.getElem?_eq_some_iff.mp e).1
    exact ⟨by rw [List.getElem?_append_left hi]; exact e, List.getElem?_append_left (by omega)⟩
  refine ⟨hl, fun i s e => ?_, fun i j p t s ne e1 e0 e2 e3 e4 e5 => ?_⟩
  · obtain ⟨v, e1, r⟩ := h.at_ i s (up e).1
    rw [(up e).2] at e1
    exact ⟨v, e1, r⟩
  · exact h.dis i j p t s ne (up e1).1 e0 (up e2).1 e3 ((up e1).2.trans e4) ((up e2).2.trans e5)
theorem get_set {α : Type} {xs : List α} {i j : Nat} {x y : α} (h : (xs.set i x)[j]? = some y) : (i = j ∧ y = x ∧ i < xs.length) ∨ (i ≠ j ∧ xs[j]? = some y) := by
  rw [List.getElem?_set] at h
  split at h
  · rename_i e
    split at h
    · rename_i hl
      exact .inl ⟨e, (Option.some.inj h).symm, hl⟩
    · cases h
  · rename_i e
    exact .inr ⟨e, h⟩
/-- what is no list of one's own and none that is read -/
def Sl.plain : Sl → Prop
  | .ml _ => False
  | .bl _ => False
  | .mo _ => False
  | .bo _ => False
  | _ => True
theorem plain_own {s : Sl} (h : s.plain) (k : s.isOwn) : False := by cases s <;> first | exact h | exact k
theorem plain_foot {s : Sl} (h : s.plain) (k : s.foot) : False := by cases s <;> first | exact h | exact k
/-- what is its own stands in the heap -/
theorem foot_ob {K : PySem.W.Frag} {W : Wld τ} {A : Addr → Prop} {H : Hp} {p : Addr} {s : Sl} (h : SlR K W A H (some (.ref p)) s) (k : s.foot) : Ob H p := by
  cases s with
  | ml xs =>
    obtain ⟨q, vs, e, e1, _⟩ := h
    cases e
    exact ⟨_, e1, nt_lst⟩
  | bl xs =>
    obtain ⟨q, vs, e, e1, _⟩ := h
    cases e
    exact ⟨_, e1.1, nt_lst⟩
  | mo o =>
    obtain ⟨q, ho, e, e1, _, _, r⟩ := h
    cases e
    exact ⟨_, e1, r.mb.nt⟩
  | bo o =>
    obtain ⟨q, ho, e, e1, _, r⟩ := h
    cases e
    exact ⟨_, e1, r.mb.nt⟩
  | _ => exact k.elim
theorem own_foot {s : Sl} (h : s.isOwn) : s.foot := by cases s <;> first | trivial | exact h.elim
theorem EnvR.set {K : PySem.W.Frag} {W : Wld τ} {A : Addr → Prop} {H : Hp} {σ : L2.St} {ρ : List Sl} {i : Nat} {v : Option V} {s : Sl} (h : EnvR K W A H σ ρ) (hs : s.plain) (r : SlR K W A H v s) : EnvR K W A H (σ.set i v) (ρ.set i s) := by
  refine ⟨by rw [List.length_set, List.length_set, h.len], fun j u e => ?_, fun j k p t u ne e1 e0 e2 e3 e4 e5 => ?_⟩
  · rcases get_set e with ⟨rfl, rfl, hl⟩ | ⟨ne, e⟩
    · exact ⟨v, by rw [List.getElem?_set_self (by rw [h.len]; exact hl)], r⟩
    · obtain ⟨w, e1, r1⟩ := h.at_ j u e
      exact ⟨w, by rw [List.getElem?_set_ne ne]; exact e1, r1⟩
  · rcases get_set e1 with ⟨rfl, e, _⟩ | ⟨n1, e1⟩
    · rw [← e] at hs
      exact plain_own hs e0
    · rcases get_set e2 with ⟨rfl, e, _⟩ | ⟨n2, e2⟩
      · rw [← e] at hs
        exact plain_foot hs e3
      · rw [List.getElem?_set_ne n1] at e4
        rw [List.getElem?_set_ne n2] at e5
        exact h.dis j k p t u ne e1 e0 e2 e3 e4 e5
theorem set_app {α : Type} {xs ys : List α} {i : Nat} {x : α} (h : i < xs.length) : xs.set i x ++ ys = (xs ++ ys).set i x := by rw [List.set_append_left _ _ h]
theorem EnvR.setA {K : PySem.W.Frag} {W : Wld τ} {A : Addr → Prop} {H : Hp} {σ gσ : L2.St} {ρ gρ : List Sl} {i : Nat} {v : Option V} {s : Sl} (h : EnvR K W A H (σ ++ gσ) (ρ ++ gρ)) (hl : σ.length = ρ.length) (hs : s.plain) (r : SlR K W A H v s) : EnvR K W A H (σ.set i v ++ gσ) (ρ.set i s ++ gρ) := by
  by_cases hi : i < σ.length
  · rw [set_app hi, set_app (by omega)]
    exact h.set hs r
  · rw [List.set_eq_of_length_le (by omega), List.set_eq_of_length_le (by omega)]
    exact h
/-- a new list becomes a slot's own -/
theorem EnvR.own {K : PySem.W.Frag} {W : Wld τ} {A : Addr → Prop} {Hs H : Hp} {σ : L2.St} {ρ : List Sl} {i : Nat} {p : Addr} {s : Sl} (h : EnvR K W A Hs σ ρ) (b : Bs W A Hs) (f : Fr W.B Hs H) (n : ¬ Ob Hs p) (r : SlR K W (fun a => A a ∨ a = p) H (some (.ref p)) s) :
    EnvR K W (fun a => A a ∨ a = p) H (σ.set i (some (.ref p))) (ρ.set i s) := by
  have ba : ∀ a, W.B a → A a ∨ a = p := fun a z => .inl (b.ba a z)
  have g : Goes A (fun a => A a ∨ a = p) Hs Hs := fun c o ec t nc => ⟨ec, fun z => z.elim nc (ne_nob ec t n)⟩
  have up : ∀ {v : Option V} {s : Sl}, SlR K W A Hs v s → SlR K W (fun a => A a ∨ a = p) H v s := fun {v s} q => by
    refine SlR.fr (H := Hs) ba ?_ f
    cases s with
    | un => exact q
    | d x =>
      obtain ⟨u, e1, r1⟩ := q
      exact ⟨u, e1, r1.go g⟩
    | ml ys =>
      obtain ⟨q', us, e1, e2, e3, e4, e5⟩ := q
      exact ⟨q', us, e1, e2, e3, .inl e4, e5.go g⟩
    | bl ys =>
      obtain ⟨q', us, e1, e2, e3⟩ := q
      exact ⟨q', us, e1, e2, e3.go g⟩
    | st => exact q
    | scr ns => exact q
    | raw u => exact q
    | mo o =>
      obtain ⟨q', us, e1, e2, e3, e4, e5⟩ := q
      exact ⟨q', us, e1, e2, e3, .inl e4, e5.go g⟩
    | bo o =>
      obtain ⟨q', us, e1, e2, e3, e4⟩ := q
      exact ⟨q', us, e1, e2, e3, e4.go g⟩
  refine ⟨by rw [List.length_set, List.length_set, h.len], fun j u ej => ?_, fun j k q t u ne e1 e0 e2 e3 e4 e5 => ?_⟩
  · rcases get_set ej with ⟨rfl, rfl, hl⟩ | ⟨ne, ej⟩
    · exact ⟨some (.ref p), by rw [List.getElem?_set_self (by rw [h.len]; exact hl)], r⟩
    · obtain ⟨w, e1, r1⟩ := h.at_ j u ej
      exact ⟨w, by rw [List.getElem?_set_ne ne]; exact e1, up r1⟩
  · have noml : ∀ {j : Nat} {u : Sl}, ρ[j]? = some u → u.foot → σ[j]? = some (some (.ref p)) → False := fun {j u} ej ku vj => by
      obtain ⟨w, e1, q'⟩ := h.at_ _ _ ej
      rw [vj] at e1
      cases e1
      exact n (foot_ob q' ku)
    rcases get_set e1 with ⟨rfl, ee, hl⟩ | ⟨n1, e1⟩
    · rw [List.getElem?_set_self (by rw [h.len]; exact hl)] at e4
      cases e4
      rcases get_set e2 with ⟨z, _, _⟩ | ⟨n2, e2⟩
      · exact ne z
      · rw [List.getElem?_set_ne n2] at e5
        exact noml e2 e3 e5
    · rw [List.getElem?_set_ne n1] at e4
      rcases get_set e2 with ⟨rfl, ee, hl⟩ | ⟨n2, e2⟩
      · rw [List.getElem?_set_self (by rw [h.len]; exact hl)] at e5
        cases e5
        exact noml e1 (own_foot e0) e4
      · rw [List.getElem?_set_ne n2] at e5
        exact h.dis j k q t u ne e1 e0 e2 e3 e4 e5
end Dl

namespace Dl
open PySem PySem.Spec PyProof.Rows L2
/-! ### where a statement stands -/
/-- the world grows: new states -/
structure WLe (W0 : Wld τ) (H0 : Hp) (W : Wld τ) : Prop where
  up : ∀ a, W0.B a → W.B a
  dn : ∀ a, W.B a → W0.B a ∨ ¬ Ob H0 a
  inv : ∀ H, W.I H → W0.I H
theorem WLe.refl (W : Wld τ) (H : Hp) : WLe W H W := ⟨fun _ h => h, fun _ h => .inl h, fun _ h => h⟩
theorem WLe.fr {W0 W : Wld τ} {H0 H H' : Hp} (l : WLe W0 H0 W) (f : Fr W0.B H0 H) (g : Fr W.B H H') : Fr W0.B H0 H' := ⟨fun b o e t n => g.1 b o (f.1 b o e t n) t fun z => (l.dn b z).elim n (fun q => q ⟨o, e, t⟩), fun b h => g.2 b (f.2 b h)⟩
structure Cor (K : PySem.W.Frag) (W0 : Wld τ) (A0 : Addr → Prop) (H0 : Hp) (W : Wld τ) (A : Addr → Prop) (H : Hp) (σ : L2.St) (ρ : List Sl) (gσ : L2.St) (gρ : List Sl) : Prop where
  wl : WLe W0 H0 W
  a0 : ∀ a, A0 a → A a
  bs : Bs W A H
  fr : Fr W0.B H0 H
  env : EnvR K W A H (σ ++ gσ) (ρ ++ gρ)
  lg : σ.length = ρ.length
  new : ∀ (i : Nat) (p : Addr) (s : Sl), ρ[i]? = some s → s.isOwn → σ[i]? = some (some (.ref p)) → ¬ Ob H0 p
def SR (K : PySem.W.Frag) (W0 : Wld τ) (A0 : Addr → Prop) (H0 H : Hp) (σ : L2.St) (ρ : List Sl) (gσ : L2.St) (gρ : List Sl) : Prop := ∃ W A, Cor K W0 A0 H0 W A H σ ρ gσ gρ
structure DEnds where
  nx : List Sl → Prop
  rt : Sl → Prop
  bk : List Sl → Prop := fun _ => False
  ct : List Sl → Prop := fun _ => False
abbrev TDS := DEnds → (Er → Prop) → List Sl → Prop
structure EndR (K : PySem.W.Frag) (W : Wld τ) (A0 : Addr → Prop) (H0 : Hp) (gσ : L2.St) (gρ : List Sl) (D : Ends) (dd : DEnds) : Prop where
  nx : ∀ H σ ρ, SR K W A0 H0 H σ ρ gσ gρ → dd.nx ρ → D.nx σ H
  rt : ∀ v H s, Fr W.B H0 H → W.I H → VlR K W A0 H0 H v s → dd.rt s → D.rt v H
  bk : ∀ H σ ρ, SR K W A0 H0 H σ ρ gσ gρ → dd.bk ρ → D.bk σ H
  ct : ∀ H σ ρ, SR K W A0 H0 H σ ρ gσ gρ → dd.ct ρ → D.ct σ H
class RefS (K : PySem.W.Frag) (τ : List (Addr × Str)) (E : XK) (t : TS) (g : outParam TDS) : Prop where
  go : ∀ (W : Wld τ) (A0 : Addr → Prop) (H0 : Hp) (D : Ends) (dd : DEnds) (R : Er → Prop) (H : Hp) (σ : L2.St) (ρ : List Sl) (gσ : L2.St) (gρ : List Sl), Bs W A0 H0 → SR K W A0 H0 H σ ρ gσ gρ → EndR K W A0 H0 gσ gρ D dd → ErK K W A0 E H0 R → g dd R ρ → t D σ H
section
variable {K : PySem.W.Frag} {E : XK} {W0 W : Wld τ} {A A0 : Addr → Prop} {H0 H H' : Hp} {σ gσ : L2.St} {ρ gρ : List Sl} {R : Er → Prop}
theorem Cor.at_ (c : Cor K W0 A0 H0 W A H σ ρ gσ gρ) (er : ErK K W0 A0 E H0 R) : At K W A E H σ ρ R := ⟨c.bs, c.env.pre c.lg, fun e x H' f i z r => er e x H' (c.wl.fr c.fr f) (c.wl.inv _ i) (z.mono c.a0) r⟩
theorem Cor.step (c : Cor K W0 A0 H0 W A H σ ρ gσ gρ) (f : Fr W.B H H') (i : W.I H') : Cor K W0 A0 H0 W A H' σ ρ gσ gρ := ⟨c.wl, c.a0, c.bs.fr f i, c.wl.fr c.fr f, c.env.fr c.bs.ba f, c.lg, c.new⟩
theorem VlR.down {H1 : Hp} {v : V} {s : Sl} (m : ∀ a, A0 a → A a) (h : VlR K W A H1 H v s) : VlR K W A0 H1 H v s := by
  cases s with
  | un => exact h
  | d x => exact Rp.go (goes_less m) h
  | ml xs =>
    obtain ⟨p, vs, e, n, e1, r⟩ := h
    exact ⟨p, vs, e, n, e1, r.go (goes_less fun a z => z.imp (m a) id)⟩
  | bl xs =>
    obtain ⟨p, vs, e, q, r⟩ := h
    exact ⟨p, vs, e, q, r.go (goes_less m)⟩
  | st => exact h
  | scr ns => exact h
  | raw u => exact h
  | mo o =>
    obtain ⟨p, vs, e, n, e1, r⟩ := h
    exact ⟨p, vs, e, n, e1, r.go (goes_less fun a z => z.imp (m a) id)⟩
  | bo o =>
    obtain ⟨p, vs, e, e1, n, r⟩ := h
    exact ⟨p, vs, e, e1, n, r.go (goes_less m)⟩
theorem VlR.early' {H1 : Hp} {v : V} {s : Sl} (h : VlR K W A H1 H v s) (f : ∀ p, ¬ Ob H1 p → ¬ Ob H0 p) : VlR K W A H0 H v s := by
  cases s with
  | ml xs =>
    obtain ⟨p, vs, e, n, e1, r⟩ := h
    exact ⟨p, vs, e, f p n, e1, r⟩
  | mo o =>
    obtain ⟨p, vs, e, n, e1, r⟩ := h
    exact ⟨p, vs, e, f p n, e1, r⟩
  | _ => exact h
/-! ### blocks -/
def dNext : TDS := fun dd _ ρ => dd.nx ρ
def dSeq (g h : TDS) : TDS := fun dd R ρ => g { dd with nx := h dd R } R ρ
instance : RefS K τ E tNext dNext := ⟨fun W A0 H0 D dd R H σ ρ gσ gρ b sr er _ h => er.nx H σ ρ sr h⟩
instance {t u : TS} {g h : TDS} [ht : RefS K τ E t g] [hu : RefS K τ E u h] : RefS K τ E (tSeq t u) (dSeq g h) := ⟨fun W A0 H0 D dd R H σ ρ gσ gρ b sr er ek q => by
  exact ht.go W A0 H0 { D with nx := u D } { dd with nx := h dd R } R H σ ρ gσ gρ b sr ⟨fun H1 σ1 ρ1 s1 q1 => hu.go W A0 H0 D dd R H1 σ1 ρ1 gσ gρ b s1 er ek q1, er.rt, er.bk, er.ct⟩ ek q⟩
def dBreak : TDS := fun dd _ ρ => dd.bk ρ
def dCont : TDS := fun dd _ ρ => dd.ct ρ
instance : RefS K τ E tBreak dBreak := ⟨fun W A0 H0 D dd R H σ ρ gσ gρ b sr er _ h => er.bk H σ ρ sr h⟩
instance : RefS K τ E tCont dCont := ⟨fun W A0 H0 D dd R H σ ρ gσ gρ b sr er _ h => er.ct H σ ρ sr h⟩
def dDrop (fe : TD) : TDS := fun dd R ρ => fe ρ (fun _ => dd.nx ρ) R
instance {t : TE} {f : TD} [ht : RefE K τ E t f] : RefS K τ E (tDrop t) (dDrop f) := ⟨fun W A0 H0 D dd R H σ ρ gσ gρ b sr er ek h => by
  obtain ⟨W', A, c⟩ := sr
  exact ht.go W' A H σ ρ _ R _ (c.at_ ek) h fun v H1 s f1 i1 r1 q => er.nx H1 σ ρ ⟨W', A, c.step f1 i1⟩ q⟩
/-- what may be handed on -/
def Sl.out : Sl → Prop
  | .un => False
  | .bl _ => False
  | .bo _ => False
  | _ => True
def dRet (fe : TD) : TDS := fun dd R ρ => fe ρ (fun s => match s with
  | .bl _ => False
  | .st => False
  | .scr _ => False
  | .bo _ => False
  | s => dd.rt s) R
theorem VlR.home {H1 : Hp} {v : V} {s : Sl} (h : VlR K W A H1 H v s) (n1 : ∀ xs, s ≠ .bl xs) (n2 : s ≠ .st) (n3 : ∀ ns, s ≠ .scr ns) (n4 : ∀ o, s ≠ .bo o) : VlR K W0 A H1 H v s := by
  cases s with
  | bl xs => exact absurd rfl (n1 xs)
  | st => exact absurd rfl n2
  | scr ns => exact absurd rfl (n3 ns)
  | bo o => exact absurd rfl (n4 o)
  | _ => exact h
instance {t : TE} {f : TD} [ht : RefE K τ E t f] : RefS K τ E (tRet t) (dRet f) := ⟨fun W A0 H0 D dd R H σ ρ gσ gρ b sr er ek h => by
  obtain ⟨W', A, c⟩ := sr
  refine ht.go W' A H σ ρ _ R _ (c.at_ ek) h fun v H1 s f1 i1 r1 q => ?_
  have n0 : ∀ p, ¬ Ob H p → ¬ Ob H0 p := fun p n z => n (c.fr.2 p z)
  have fin : (∀ xs, s ≠ .bl xs) → s ≠ .st → (∀ ns, s ≠ .scr ns) → (∀ o, s ≠ .bo o) → dd.rt s → D.rt v H1 := fun n1 n2 n3 n4 q' => by
    refine er.rt v H1 s (c.wl.fr c.fr f1) (c.wl.inv _ i1) (((VlR.home (W0 := W) r1 n1 n2 n3 n4).early' n0).down c.a0) q'
  cases s with
  | bl xs => exact q.elim
  | st => exact q.elim
  | scr ns => exact q.elim
  | bo o => exact q.elim
  | _ => exact fin (fun _ z => nomatch z) (fun z => nomatch z) (fun _ z => nomatch z) (fun _ z => nomatch z) q⟩
def dRetN : TDS := fun dd _ _ => dd.rt (.d .none)
instance : RefS K τ E tRetN dRetN := ⟨fun W A0 H0 D dd R H σ ρ gσ gρ b sr er ek h => by
  obtain ⟨W', A, c⟩ := sr
  exact er.rt .non H (.d .none) c.fr (c.wl.inv _ c.bs.inv) Rp.non h⟩
def dIfS (c : TDT) (g h : TDS) : TDS := fun dd R ρ => c ρ (fun b => match b with
  | true => g dd R ρ
  | false => h dd R ρ) R
instance {c : TT} {t u : TS} {fc : TDT} {g h : TDS} [hc : RefT K τ E c fc] [ht : RefS K τ E t g] [hu : RefS K τ E u h] : RefS K τ E (tIfS c t u) (dIfS fc g h) := ⟨fun W A0 H0 D dd R H σ ρ gσ gρ b sr er ek q => by
  obtain ⟨W', A, co⟩ := sr
  refine hc.go W' A H σ ρ _ R _ (co.at_ ek) q fun k H1 f1 i1 q1 => ?_
  cases k with
  | true => exact iteT (ht.go W A0 H0 D dd R H1 σ ρ gσ gρ b ⟨W', A, co.step f1 i1⟩ er ek q1)
  | false => exact iteF (hu.go W A0 H0 D dd R H1 σ ρ gσ gρ b ⟨W', A, co.step f1 i1⟩ er ek q1)⟩
def dNever : TDS := fun _ _ _ => False
instance : RefS K τ E tNever dNever := ⟨fun W A0 H0 D dd R H σ ρ gσ gρ b sr er ek q => q⟩
instance : RefS K τ E (fun _ _ _ => False) dNever := ⟨fun W A0 H0 D dd R H σ ρ gσ gρ b sr er ek q => q⟩
instance : RefE K τ E (fun _ _ _ => False) (fun _ _ _ => False) := ⟨fun W A H σ ρ Qd R Q a h w => h⟩
/-! ### a name is set -/
def dSet (i : Nat) (fe : TD) : TDS := fun dd R ρ => fe ρ (fun s => match s with
  | .un => False
  | .bl _ => False
  | .bo _ => False
  | s => dd.nx (ρ.set i s)) R
theorem Cor.set (c : Cor K W0 A0 H0 W A H σ ρ gσ gρ) {i : Nat} {v : V} {s : Sl} (hs : s.plain) (r : SlR K W A H (some v) s) : Cor K W0 A0 H0 W A H (σ.set i (some v)) (ρ.set i s) gσ gρ := by
  refine ⟨c.wl, c.a0, c.bs, c.fr, c.env.setA c.lg hs r, by rw [List.length_set, List.length_set, c.lg], fun j p t e1 e0 e2 => ?_⟩
  rcases get_set e1 with ⟨rfl, e, _⟩ | ⟨n, e1⟩
  · rw [← e] at hs
    exact (plain_own hs e0).elim
  · rw [List.getElem?_set_ne n] at e2
    exact c.new j p t e1 e0 e2
theorem Cor.own (c : Cor K W0 A0 H0 W A H σ ρ gσ gρ) {H1 : Hp} {i : Nat} {p : Addr} {s : Sl} (f1 : Fr W.B H H1) (i1 : W.I H1) (n : ¬ Ob H p) (r : SlR K W (fun a => A a ∨ a = p) H1 (some (.ref p)) s) (k : s.foot) :
    Cor K W0 A0 H0 W (fun a => A a ∨ a = p) H1 (σ.set i (some (.ref p))) (ρ.set i s) gσ gρ := by
  have c1 := c.step f1 i1
  have n0 : ¬ Ob H0 p := fun z => n (c.fr.2 p z)
  refine ⟨c.wl, fun a z => .inl (c.a0 a z), ⟨fun a z => .inl (c.bs.ba a z), fun a z => ?_, i1⟩, c1.fr, ?_, by rw [List.length_set, List.length_set, c.lg], fun j q t e2 e0 e3 => ?_⟩
  · rcases z with z | rfl
    · exact c1.bs.dom a z
    · exact foot_ob r k
  · by_cases hi : i < σ.length
    · rw [set_app hi, set_app (by rw [← c.lg]; exact hi)]
      exact c.env.own c.bs f1 n r
    · rw [List.set_eq_of_length_le (by omega), List.set_eq_of_length_le (by rw [← c.lg]; omega)]
      have := c.env.own (i := σ.length + gσ.length) c.bs f1 n r
      rw [List.set_eq_of_length_le (by simp), List.set_eq_of_length_le (by have := c.env.len; simp only [List.length_append] at this ⊢; omega)] at this
      exact this
  · rcases get_set e2 with ⟨rfl, _, hl⟩ | ⟨ne, e2⟩
    · rw [List.getElem?_set_self (by rw [c.lg]; exact hl)] at e3
      cases e3
      exact n0
    · rw [List.getElem?_set_ne ne] at e3
      exact c.new j q t e2 e0 e3
instance {i : Nat} {t : TE} {f : TD} [ht : RefE K τ E t f] : RefS K τ E (tAsg t (gName i)) (dSet i f) := ⟨fun W A0 H0 D dd R H σ ρ gσ gρ b sr er ek h => by
  obtain ⟨W', A, c⟩ := sr
  refine ht.go W' A H σ ρ _ R _ (c.at_ ek) h fun v H1 s f1 i1 r1 q => ?_
  show D.nx (σ.set i (some v)) H1
  have c1 := c.step f1 i1
  cases s with
  | un => exact q.elim
  | bl xs => exact q.elim
  | bo o => exact q.elim
  | d x => exact er.nx H1 _ _ ⟨W', A, c1.set (s := .d x) trivial ⟨v, rfl, r1⟩⟩ q
  | st =>
    obtain ⟨z, rfl, r⟩ := r1
    exact er.nx H1 _ _ ⟨W', A, c1.set (s := .st) trivial ⟨z, rfl, r⟩⟩ q
  | scr ns =>
    obtain ⟨z, rfl, r⟩ := r1
    exact er.nx H1 _ _ ⟨W', A, c1.set (s := .scr ns) trivial ⟨z, rfl, r⟩⟩ q
  | raw u =>
    obtain rfl := r1
    exact er.nx H1 _ _ ⟨W', A, c1.set (s := .raw v) trivial rfl⟩ q
  | ml xs =>
    obtain ⟨p, vs, rfl, n, e1, r⟩ := r1
    exact er.nx H1 _ _ ⟨W', _, c.own (s := .ml xs) f1 i1 n ⟨p, vs, rfl, e1, c.bs.nB n, .inr rfl, r⟩ trivial⟩ q
  | mo o =>
    obtain ⟨p, vs, rfl, n, e1, r⟩ := r1
    exact er.nx H1 _ _ ⟨W', _, c.own (s := .mo o) f1 i1 n ⟨p, vs, rfl, e1, c.bs.nB n, .inr rfl, r⟩ trivial⟩ q⟩
/-- from here on the slot's list stays as it is -/
def tFz (i : Nat) (t : TS) : TS := t
def Sl.fz : Sl → Sl
  | .ml xs => .d (.list xs)
  | s => s
def dFz (i : Nat) (g : TDS) : TDS := fun dd R ρ => g dd R (ρ.set i ((ρ[i]?).getD .un).fz)
theorem Cor.fz (b0 : Bs W0 A0 H0) (c : Cor K W0 A0 H0 W A H σ ρ gσ gρ) (i : Nat) : SR K W0 A0 H0 H σ (ρ.set i ((ρ[i]?).getD .un).fz) gσ gρ := by
  cases e : ρ[i]? with
  | none =>
    refine ⟨W, A, ?_⟩
    rw [List.set_eq_of_length_le (List.getElem?_eq_none_iff.mp e)]
    exact c
  | some s =>
    have same : ∀ s', s' = s → ρ.set i s' = ρ := fun s' z => by
      subst z
      obtain ⟨hi, e⟩ := List.getElem?_eq_some_iff.mp e
      rw [← e]
      exact List.set_getElem_self hi
    cases s with
    | ml xs =>
      have hi := (List.getElem?_eq_some_iff.mp e).1
      have eA : (ρ ++ gρ)[i]? = some (.ml xs) := by rw [List.getElem?_append_left hi]; exact e
      obtain ⟨v, ev, p, vs, rfl, e1, nB, aP, r⟩ := c.env.at_ _ _ eA
      have ev' : σ[i]? = some (some (.ref p)) := by
        rw [List.getElem?_append_left (by rw [c.lg]; exact hi)] at ev
        exact ev
      have n0 := c.new i p _ e trivial ev'
      let A' : Addr → Prop := fun a => A a ∧ a ≠ p
      have less : ∀ a, A' a → A a := fun a z => z.1
      have ba' : ∀ a, W.B a → A' a := fun a z => ⟨c.bs.ba a z, fun q => nB (q ▸ z)⟩
      have conv : ∀ {j : Nat} {w : Option V} {s : Sl}, (σ ++ gσ)[j]? = some w → (ρ ++ gρ)[j]? = some s → j ≠ i → SlR K W A H w s → SlR K W A' H w s := fun {j w s} ew es nj q => by
        cases s with
        | un => exact q
        | d x =>
          obtain ⟨u, e1, r1⟩ := q
          exact ⟨u, e1, r1.go (goes_less less)⟩
        | ml ys =>
          obtain ⟨q', us, f1, f2, f3, f4, f5⟩ := q
          subst f1
          refine ⟨q', us, rfl, f2, f3, ⟨f4, fun z => ?_⟩, f5.go (goes_less less)⟩
          subst z
          exact c.env.dis i j q' _ _ (Ne.symm nj) eA trivial es trivial ev ew
        | bl ys =>
          obtain ⟨q', us, f1, f2, f3⟩ := q
          exact ⟨q', us, f1, f2, f3.go (goes_less less)⟩
        | st => exact q
        | scr ns => exact q
        | raw u => exact q
        | mo o =>
          obtain ⟨q', us, f1, f2, f3, f4, f5⟩ := q
          subst f1
          refine ⟨q', us, rfl, f2, f3, ⟨f4, fun z => ?_⟩, f5.go (goes_less less)⟩
          subst z
          exact c.env.dis i j q' _ _ (Ne.symm nj) eA trivial es trivial ev ew
        | bo o =>
          obtain ⟨q', us, f1, f2, f3, f4⟩ := q
          exact ⟨q', us, f1, f2, f3, f4.go (goes_less less)⟩
      refine ⟨W, A', c.wl, fun a z => ⟨c.a0 a z, fun q => ?_⟩, ⟨ba', fun a z => c.bs.dom a z.1, c.bs.inv⟩, c.fr, ?_, by rw [List.length_set, c.lg], fun j q t e2 e0 e3 => ?_⟩
      · subst q
        exact n0 (b0.dom _ z)
      · rw [set_app hi]
        refine ⟨by rw [List.length_set]; exact c.env.len, fun j s ej => ?_, fun j k q t s ne f1 f0 f2 f3 f4 f5 => ?_⟩
        · rcases get_set ej with ⟨rfl, rfl, _⟩ | ⟨nj, ej⟩
          · exact ⟨some (.ref p), ev, .ref p, rfl, .lst ⟨e1, fun z => z.2 rfl⟩ (r.go (goes_less less))⟩
          · obtain ⟨w, ew, rw_⟩ := c.env.at_ j s ej
            exact ⟨w, ew, conv ew ej (Ne.symm nj) rw_⟩
        · rcases get_set f1 with ⟨rfl, z, _⟩ | ⟨n1, f1⟩
          · subst z
            exact f0
          · rcases get_set f2 with ⟨rfl, z, _⟩ | ⟨n2, f2⟩
            · subst z
              exact f3
            · exact c.env.dis j k q t s ne f1 f0 f2 f3 f4 f5
      · rcases get_set e2 with ⟨rfl, z, _⟩ | ⟨nj, e2⟩
        · subst z
          exact e0.elim
        · exact c.new j q t e2 e0 e3
    | _ =>
      refine ⟨W, A, ?_⟩
      have z := same _ rfl
      dsimp only [Option.getD_some, Sl.fz]
      rw [z]
      exact c
instance {i : Nat} {t : TS} {g : TDS} [ht : RefS K τ E t g] : RefS K τ E (tFz i t) (dFz i g) := ⟨fun W A0 H0 D dd R H σ ρ gσ gρ b sr er ek h => by
  obtain ⟨W', A, c⟩ := sr
  exact ht.go W A0 H0 D dd R H σ _ gσ gρ b (c.fz b i) er ek h⟩
end
end Dl

namespace Dl
open PySem PySem.Spec PyProof.Rows L2
/-! ### targets -/
theorem wipe_get (σ : L2.St) : ∀ (vs : List Nat) (j : Nat), (wipe σ vs)[j]? = if j ∈ vs then (σ[j]?).map fun _ => none else σ[j]?
  | [], j => by simp [wipe]
  | v :: vs, j => by
    unfold wipe
    rw [List.getElem?_set, wipe_get σ vs j, wipe_length]
    by_cases h : v = j
    · subst h
      rw [if_pos rfl, if_pos (List.mem_cons_self)]
      by_cases hl : v < σ.length
      · rw [if_pos hl, List.getElem?_eq_getElem hl]
        rfl
      · rw [if_neg hl, List.getElem?_eq_none (by omega)]
        rfl
    · rw [if_neg h]
      by_cases hm : j ∈ vs
      · rw [if_pos hm, if_pos (List.mem_cons_of_mem _ hm)]
      · rw [if_neg hm, if_neg (by simp only [List.mem_cons, not_or]; exact ⟨fun z => h z.symm, hm⟩)]
theorem wipe_set {σ : L2.St} {vs : List Nat} {i : Nat} {x : Option V} (h : i ∈ vs) : wipe (σ.set i x) vs = wipe σ vs := by
  refine List.ext_getElem? fun j => ?_
  rw [wipe_get, wipe_get, List.getElem?_set]
  by_cases hj : j ∈ vs
  · rw [if_pos hj, if_pos hj]
    by_cases e : i = j
    · subst e
      rw [if_pos rfl]
      by_cases hl : i < σ.length
      · rw [if_pos hl, List.getElem?_eq_getElem hl]
        rfl
      · rw [if_neg hl, List.getElem?_eq_none (by omega)]
    · rw [if_neg e]
  · rw [if_neg hj, if_neg hj, if_neg (fun (e : i = j) => hj (by rw [← e]; exact h))]
def Dif (sl : List Nat) (σ σ' : L2.St) : Prop := ∀ vs : List Nat, (∀ i ∈ sl, i ∈ vs) → wipe σ' vs = wipe σ vs
/-- no new own list -/
def NoNew (σ σ' : L2.St) (ρ ρ' : List Sl) : Prop := ∀ (j : Nat) (p : Addr) (s : Sl), ρ'[j]? = some s → s.isOwn → σ'[j]? = some (some (.ref p)) → ρ[j]? = some s ∧ σ[j]? = some (some (.ref p))
abbrev FG := PyData → List Sl → (List Sl → Prop) → Prop
abbrev FGs := List PyData → List Sl → (List Sl → Prop) → Prop
class RefG (K : PySem.W.Frag) (g : TG) (fg : outParam FG) (sl : outParam (List Nat)) : Prop where
  go : ∀ {τ : List (Addr × Str)} (W : Wld τ) (A : Addr → Prop) (H : Hp) (σ : L2.St) (ρ : List Sl) (gσ : L2.St) (gρ : List Sl) (v : V) (x : PyData) (Qd : List Sl → Prop) (P : L2.St → Hp → Prop), EnvR K W A H (σ ++ gσ) (ρ ++ gρ) → σ.length = ρ.length → Rp K A H v x → fg x ρ Qd →
    (∀ σ' ρ', EnvR K W A H (σ' ++ gσ) (ρ' ++ gρ) → σ'.length = ρ'.length → Dif sl σ σ' → NoNew σ σ' ρ ρ' → Qd ρ' → P σ' H) → g v σ H P
class RefGs (K : PySem.W.Frag) (g : TGs) (fg : outParam FGs) (sl : outParam (List Nat)) : Prop where
  go : ∀ {τ : List (Addr × Str)} (W : Wld τ) (A : Addr → Prop) (H : Hp) (σ : L2.St) (ρ : List Sl) (gσ : L2.St) (gρ : List Sl) (vs : List V) (xs : List PyData) (Qd : List Sl → Prop) (P : L2.St → Hp → Prop), EnvR K W A H (σ ++ gσ) (ρ ++ gρ) → σ.length = ρ.length → RpAll K A H vs xs → fg xs ρ Qd →
    (∀ σ' ρ', EnvR K W A H (σ' ++ gσ) (ρ' ++ gρ) → σ'.length = ρ'.length → Dif sl σ σ' → NoNew σ σ' ρ ρ' → Qd ρ' → P σ' H) → g vs σ H P
section
variable {K : PySem.W.Frag} {E : XK}
def gdName (i : Nat) : FG := fun x ρ Qd => Qd (ρ.set i (.d x))
instance {i : Nat} : RefG K (gName i) (gdName i) [i] := ⟨fun W A H σ ρ gσ gρ v x Qd P env hl r h k => by
  refine k (σ.set i (some v)) (ρ.set i (.d x)) (env.setA hl (s := .d x) trivial ⟨v, rfl, r⟩) (by rw [List.length_set, List.length_set, hl]) (fun vs hv => wipe_set (hv i (by simp))) (fun j p t e1 e0 e2 => ?_) h
  rcases get_set e1 with ⟨rfl, z, _⟩ | ⟨n, e1⟩
  · subst z
    exact e0.elim
  · rw [List.getElem?_set_ne n] at e2
    exact ⟨e1, e2⟩⟩
def gdNil : FGs := fun xs ρ Qd => match xs with
  | [] => Qd ρ
  | _ :: _ => False
def gdCons (f : FG) (fs : FGs) : FGs := fun xs ρ Qd => match xs with
  | [] => False
  | x :: r => f x ρ fun ρ' => fs r ρ' Qd
def gdTup (n : Nat) (fs : FGs) : FG := fun x ρ Qd => match x with
  | .tuple xs => xs.length = n ∧ fs xs ρ Qd
  | _ => False
instance : RefGs K gNil gdNil [] := ⟨fun W A H σ ρ gσ gρ vs xs Qd P env hl r h k => by
  unfold gdNil at h
  split at h
  · cases r
    exact ⟨rfl, k σ ρ env hl (fun _ _ => rfl) (fun j p t e1 _ e2 => ⟨e1, e2⟩) h⟩
  · exact h.elim⟩
instance {t : TG} {u : TGs} {f : FG} {fs : FGs} {s1 s2 : List Nat} [ht : RefG K t f s1] [hu : RefGs K u fs s2] : RefGs K (gCons t u) (gdCons f fs) (s1 ++ s2) := ⟨fun W A H σ ρ gσ gρ vs xs Qd P env hl r h k => by
  unfold gdCons at h
  split at h
  · exact h.elim
  · cases r with
    | cons r1 r2 =>
      refine ⟨_, _, rfl, ht.go W A H σ ρ gσ gρ _ _ _ _ env hl r1 h fun σ1 ρ1 e1 l1 d1 n1 q1 => ?_⟩
      refine hu.go W A H σ1 ρ1 gσ gρ _ _ _ _ e1 l1 r2 q1 fun σ2 ρ2 e2 l2 d2 n2 q2 => ?_
      refine k σ2 ρ2 e2 l2 (fun vs hv => ?_) (fun j p t a o b => ?_) q2
      · rw [d2 vs fun i hi => hv i (List.mem_append_right _ hi), d1 vs fun i hi => hv i (List.mem_append_left _ hi)]
      · obtain ⟨a1, b1⟩ := n2 j p t a o b
        exact n1 j p t a1 o b1⟩
instance {n : Nat} {t : TGs} {fs : FGs} {sl : List Nat} [ht : RefGs K t fs sl] : RefG K (gTup K n t) (gdTup n fs) sl := ⟨fun W A H σ ρ gσ gρ v x Qd P env hl r h k => by
  unfold gdTup at h
  split at h
  · cases r with
    | tup q r => exact ⟨_, _, rfl, sqTA_sq q, by rw [r.length]; exact h.1, ht.go W A H σ ρ gσ gρ _ _ _ _ env hl r h.2 k⟩
  · exact h.elim⟩
/-- a, b = e -/
def dAsg (fe : TD) (fg : FG) : TDS := fun dd R ρ => fe ρ (fun s => match s.dat with
  | some x => fg x ρ dd.nx
  | none => False) R
theorem dat_iff {s : Sl} {P : PyData → Prop} (h : (match s.dat with
  | some x => P x
  | none => False)) : ∃ x, s.dat = some x ∧ P x := by
  split at h
  · rename_i x e
    exact ⟨x, e, h⟩
  · exact h.elim
instance {n : Nat} {t : TE} {g : TGs} {f : TD} {fs : FGs} {sl : List Nat} [ht : RefE K τ E t f] [hg : RefGs K g fs sl] : RefS K τ E (tAsg t (gTup K n g)) (dAsg f (gdTup n fs)) := ⟨fun W A0 H0 D dd R H σ ρ gσ gρ b sr er ek h => by
  obtain ⟨W', A, c⟩ := sr
  refine ht.go W' A H σ ρ _ R _ (c.at_ ek) h fun v H1 s f1 i1 r1 q => ?_
  obtain ⟨x, ex, q⟩ := dat_iff (P := fun x => gdTup n fs x ρ dd.nx) q
  have c1 := c.step f1 i1
  have hG : RefG K (gTup K n g) (gdTup n fs) sl := inferInstance
  refine hG.go W' A H1 σ ρ gσ gρ v x _ _ c1.env c1.lg (r1.dat c.bs ex) q fun σ' ρ' e' l' _ n' q' => ?_
  exact er.nx H1 σ' ρ' ⟨W', A, c1.wl, c1.a0, c1.bs, c1.fr, e', l', fun j p t a o b => c1.new j p t (n' j p t a o b).1 o (n' j p t a o b).2⟩ q'⟩
/-- a, b = e1, e2: two data, or a flat one and a new list -/
def dPar (i j : Nat) (fa : TDA) : TDS := fun dd R ρ => fa ρ (fun ss => match ss with
  | [s, .ml ys] => (match s.flat with
    | some x => dd.nx ((ρ.set i (vS x)).set j (.ml ys))
    | none => False)
  | [s, .d y] => (match s.dat with
    | some x => dd.nx ((ρ.set i (.d x)).set j (.d y))
    | none => False)
  | _ => False) R
theorem plain_vS (v : V) : (vS v).plain := by cases v <;> trivial
theorem slr_vS {W : Wld τ} {A : Addr → Prop} {H : Hp} (v : V) : SlR K W A H (some v) (vS v) := by
  cases v with
  | non => exact ⟨_, rfl, .non⟩
  | bl b => exact ⟨_, rfl, .bl b⟩
  | int i => exact ⟨_, rfl, .int i⟩
  | str x => exact ⟨_, rfl, .str x⟩
  | _ => rfl
theorem vlsr2 {W : Wld τ} {A : Addr → Prop} {H0 H : Hp} {vs : List V} {s u : Sl} (h : VlsR K W A H0 H vs [s, u]) : ∃ v w, vs = [v, w] ∧ VlR K W A H0 H v s ∧ VlR K W A H0 H w u := by
  cases h with
  | cons a r =>
    cases r with
    | cons b r =>
      cases r
      exact ⟨_, _, rfl, a, b⟩
theorem vlsr1 {W : Wld τ} {A : Addr → Prop} {H0 H : Hp} {vs : List V} {s : Sl} (h : VlsR K W A H0 H vs [s]) : ∃ v, vs = [v] ∧ VlR K W A H0 H v s := by
  cases h with
  | cons a r =>
    cases r
    exact ⟨_, rfl, a⟩
instance {i j : Nat} {t : TA} {fa : TDA} [ha : RefA K τ E t fa] : RefS K τ E (tPar i j t) (dPar i j fa) := ⟨fun W A0 H0 D dd R H σ ρ gσ gρ b sr er ek h => by
  obtain ⟨W', A, c⟩ := sr
  refine ha.go W' A H σ ρ _ R _ (c.at_ ek) h fun vs H1 ss f1 i1 r1 q => ?_
  split at q
  · obtain ⟨va, vb, rfl, ra, rb⟩ := vlsr2 r1
    split at q
    · rename_i x ex
      obtain rfl := ra.flat ex
      obtain ⟨p, us, rfl, n, e1, r⟩ := rb
      have c2 := c.set (i := i) (plain_vS va) (slr_vS va)
      exact ⟨va, _, rfl, er.nx H1 _ _ ⟨W', _, c2.own (i := j) (s := .ml _) f1 i1 n ⟨p, us, rfl, e1, c.bs.nB n, .inr rfl, r⟩ trivial⟩ q⟩
    · exact q.elim
  · obtain ⟨va, vb, rfl, ra, rb⟩ := vlsr2 r1
    split at q
    · rename_i x ex
      have c1 := c.step f1 i1
      have c2 := c1.set (i := i) (s := .d x) trivial ⟨va, rfl, ra.dat c.bs ex⟩
      have c3 := c2.set (i := j) (s := .d _) trivial ⟨vb, rfl, rb⟩
      exact ⟨va, vb, rfl, er.nx H1 _ _ ⟨W', A, c3⟩ q⟩
    · exact q.elim
  · exact q.elim⟩
/-! ### what is walked -/
/-- the things that are walked stand still: data -/
structure GhR (K : PySem.W.Frag) (W : Wld τ) (A : Addr → Prop) (H : Hp) (gs : L2.St) (gr : List Sl) : Prop where
  len : gs.length = gr.length
  at_ : ∀ (i : Nat) (s : Sl), gr[i]? = some s → ∃ v x, gs[i]? = some (some v) ∧ s = .d x ∧ Rp K A H v x
structure ItR (K : PySem.W.Frag) (J : It) (gs : L2.St) (gr : List Sl) (ds : List PyData) : Prop where
  go : ∀ (W : Wld τ) (A : Addr → Prop) (H : Hp) (i : Nat), Bs W A H → GhR K W A H gs gr → i < ds.length → J.go i H
  stop : ∀ (W : Wld τ) (A : Addr → Prop) (H : Hp) (i : Nat), Bs W A H → GhR K W A H gs gr → ds.length ≤ i → J.stop i H
  yld : ∀ (W : Wld τ) (A : Addr → Prop) (H : Hp) (i : Nat) (x : V) (H' : Hp) (d : PyData), Bs W A H → GhR K W A H gs gr → ds[i]? = some d → J.yld i H x H' → Same H H' ∧ Rp K A H' x d
abbrev TDI := List Sl → (List PyData → Prop) → (Er → Prop) → Prop
class RefI (K : PySem.W.Frag) (τ : List (Addr × Str)) (E : XK) (wi : TI) (fi : outParam TDI) : Prop where
  go : ∀ (W : Wld τ) (A : Addr → Prop) (H : Hp) (σ : L2.St) (ρ : List Sl) (Qd : List PyData → Prop) (R : Er → Prop) (P : It → Hp → Prop), At K W A E H σ ρ R → fi ρ Qd R →
    (∀ J H' gs gr ds, Fr W.B H H' → W.I H' → GhR K W A H' gs gr → ItR K J gs gr ds → Qd ds → P J H') → wi σ H P
theorem EnvR.app {W : Wld τ} {A : Addr → Prop} {H : Hp} {σ gs : L2.St} {ρ gr : List Sl} (h : EnvR K W A H σ ρ) (g : GhR K W A H gs gr) : EnvR K W A H (σ ++ gs) (ρ ++ gr) := by
  have cs : ∀ {i : Nat} {s : Sl}, (ρ ++ gr)[i]? = some s → (ρ[i]? = some s ∧ (σ ++ gs)[i]? = σ[i]?) ∨ (∃ v x, (σ ++ gs)[i]? = some (some v) ∧ s = .d x ∧ Rp K A H v x) := fun {i s} e => by
    by_cases hi : i < ρ.length
    · rw [List.getElem?_append_left hi] at e
      exact .inl ⟨e, List.getElem?_append_left (by rw [h.len]; exact hi)⟩
    · rw [List.getElem?_append_right (by omega)] at e
      obtain ⟨v, x, e1, e2, r⟩ := g.at_ _ _ e
      refine .inr ⟨v, x, ?_, e2, r⟩
      rw [List.getElem?_append_right (by rw [h.len]; omega), h.len]
      exact e1
  refine ⟨by rw [List.length_append, List.length_append, h.len, g.len], fun i s e => ?_, fun i j p t s ne e1 e0 e2 e3 e4 e5 => ?_⟩
  · rcases cs e with ⟨e, z⟩ | ⟨v, x, e1, rfl, r⟩
    · obtain ⟨v, e1, r⟩ := h.at_ i s e
      exact ⟨v, z.trans e1, r⟩
    · exact ⟨_, e1, v, rfl, r⟩
  · rcases cs e1 with ⟨e1, z1⟩ | ⟨_, _, _, rfl, _⟩
    · rcases cs e2 with ⟨e2, z2⟩ | ⟨_, _, _, rfl, _⟩
      · exact h.dis i j p t s ne e1 e0 e2 e3 (z1.symm.trans e4) (z2.symm.trans e5)
      · exact e3
    · exact e0
theorem EnvR.gh {W : Wld τ} {A : Addr → Prop} {H : Hp} {σ gs : L2.St} {ρ gr : List Sl} {H1 : Hp} {A1 : Addr → Prop} {W1 : Wld τ} (h : EnvR K W A H (σ ++ gs) (ρ ++ gr)) (hl : σ.length = ρ.length) (g : GhR K W1 A1 H1 gs gr) : GhR K W A H gs gr := ⟨g.len, fun i s e => by
  obtain ⟨_, x, _, rfl, _⟩ := g.at_ i s e
  obtain ⟨v, e1, u, rfl, r⟩ := h.at_ (ρ.length + i) (.d x) (by rw [List.getElem?_append_right (by omega)]; simpa using e)
  refine ⟨u, x, ?_, rfl, r⟩
  rw [← hl, List.getElem?_append_right (by omega)] at e1
  simpa using e1⟩
/-! ### for -/
def forD (fg : FG) (gb : TDS) (dd : DEnds) (R : Er → Prop) : List PyData → List Sl → Prop
  | [], ρ => dd.nx ρ
  | d :: r, ρ => fg d ρ fun ρ' => gb { dd with nx := forD fg gb dd R r, ct := forD fg gb dd R r, bk := dd.nx } R ρ'
def dFor (fi : TDI) (fg : FG) (gb : TDS) : TDS := fun dd R ρ => fi ρ (fun ds => forD fg gb dd R ds ρ) R
theorem SR.drop {W : Wld τ} {A0 : Addr → Prop} {H0 H : Hp} {σ gσ gs : L2.St} {ρ gρ gr : List Sl} (h : SR K W A0 H0 H σ ρ (gσ ++ gs) (gρ ++ gr)) (hl : gσ.length = gρ.length) : SR K W A0 H0 H σ ρ gσ gρ := by
  obtain ⟨W', A, c⟩ := h
  refine ⟨W', A, c.wl, c.a0, c.bs, c.fr, ?_, c.lg, c.new⟩
  have := c.env
  rw [← List.append_assoc, ← List.append_assoc] at this
  exact this.pre (by rw [List.length_append, List.length_append, c.lg, hl])
instance {wi : TI} {g : TG} {tb : TS} {fi : TDI} {fg : FG} {gb : TDS} {sl : List Nat} [hi : RefI K τ E wi fi] [hg : RefG K g fg sl] [hb : RefS K τ E tb gb] : RefS K τ E (tFor wi g tb) (dFor fi fg gb) := ⟨fun W A0 H0 D dd R H σ ρ gσ gρ b sr er ek h => by
  obtain ⟨W', A, c⟩ := sr
  have gl : gσ.length = gρ.length := by
    have := c.env.len
    simp only [List.length_append] at this
    have := c.lg
    omega
  refine hi.go W' A H σ ρ _ R _ (c.at_ ek) h fun J H1 gs gr ds f1 i1 gh it q => ?_
  have c1 := c.step f1 i1
  have sr0 : SR K W A0 H0 H1 σ ρ (gσ ++ gs) (gρ ++ gr) := ⟨W', A, c1.wl, c1.a0, c1.bs, c1.fr, by rw [← List.append_assoc, ← List.append_assoc]; exact c1.env.app gh, c1.lg, c1.new⟩
  refine ⟨fun i m σ' H' => m = ds.length - i ∧ i ≤ ds.length ∧ ∃ ρ', SR K W A0 H0 H' σ' ρ' (gσ ++ gs) (gρ ++ gr) ∧ forD fg gb dd R (ds.drop i) ρ', ⟨ds.length, by omega, by omega, ρ, sr0, q⟩, ?_⟩
  rintro i m σ' H' ⟨rfl, hi', ρ', s', q'⟩
  have s0 := s'
  obtain ⟨W2, A', c'⟩ := s'
  have env' := c'.env
  rw [← List.append_assoc, ← List.append_assoc] at env'
  have gh' : GhR K W2 A' H' gs gr := env'.gh (by rw [List.length_append, List.length_append, c'.lg, gl]) gh
  by_cases hlt : i < ds.length
  · refine .inr ⟨it.go W2 A' H' i c'.bs gh' hlt, fun σ2 H2 => ∃ ρ2, SR K W A0 H0 H2 σ2 ρ2 (gσ ++ gs) (gρ ++ gr) ∧ forD fg gb dd R (ds.drop (i + 1)) ρ2, fun σ2 H2 z => ⟨ds.length - (i + 1), by omega, rfl, hlt, z⟩, fun x H2 y => ?_⟩
    obtain ⟨sm, rx⟩ := it.yld W2 A' H' i x H2 ds[i] c'.bs gh' (List.getElem?_eq_getElem hlt) y
    rw [List.drop_eq_getElem_cons hlt] at q'
    have f2 : Fr W2.B H' H2 := Fr.of sm
    have c2 := c'.step f2 (W2.stay _ _ sm c'.bs.inv)
    refine hg.go W2 A' H2 σ' ρ' (gσ ++ gs) (gρ ++ gr) x ds[i] _ _ c2.env c2.lg rx q' fun σ3 ρ3 e3 l3 _ n3 q3 => ?_
    refine hb.go W A0 H0 _ { dd with nx := forD fg gb dd R (ds.drop (i + 1)), ct := forD fg gb dd R (ds.drop (i + 1)), bk := dd.nx } R H2 σ3 ρ3 (gσ ++ gs) (gρ ++ gr) b ⟨W2, A', c2.wl, c2.a0, c2.bs, c2.fr, e3, l3, fun j p t a o b => c2.new j p t (n3 j p t a o b).1 o (n3 j p t a o b).2⟩ ⟨fun H4 σ4 ρ4 s4 q4 => ⟨ρ4, s4, q4⟩, er.rt, fun H4 σ4 ρ4 s4 q4 => er.nx H4 σ4 ρ4 (s4.drop gl) q4, fun H4 σ4 ρ4 s4 q4 => ⟨ρ4, s4, q4⟩⟩ ek q3
  · have e : i = ds.length := by omega
    subst e
    rw [List.drop_length] at q'
    exact .inl ⟨it.stop W2 A' H' _ c'.bs gh' (Nat.le_refl _), er.nx H' σ' ρ' (s0.drop gl) q'⟩⟩
/-! ### comprehensions -/
def wipeD (ρ : List Sl) : List Nat → List Sl
  | [] => ρ
  | v :: vs => (wipeD ρ vs).set v .un
theorem EnvR.wipe {W : Wld τ} {A : Addr → Prop} {H : Hp} {σ : L2.St} {ρ : List Sl} (h : EnvR K W A H σ ρ) : ∀ vs : List Nat, EnvR K W A H (L2.wipe σ vs) (wipeD ρ vs)
  | [] => h
  | v :: vs => (EnvR.wipe h vs).set (s := .un) trivial trivial
def lcD (fg : FG) (ft : TDT) (fe : TD) (ρ : List Sl) (R : Er → Prop) (Qd : List PyData → Prop) : List PyData → List PyData → Prop
  | [], acc => Qd acc
  | d :: r, acc => fg d ρ fun ρ' => ft ρ' (fun b => match b with
    | true => fe ρ' (fun s => acc.length < sizeLine ∧ match s.dat with
      | some y => lcD fg ft fe ρ R Qd r (acc ++ [y])
      | none => False) R
    | false => lcD fg ft fe ρ R Qd r acc) R
def dLc (fi : TDI) (fg : FG) (ft : TDT) (fe : TD) (vs : List Nat) : TD := fun ρ Qd R => fi ρ (fun ds => lcD fg ft fe (wipeD ρ vs) R (fun ys => Qd (.ml ys)) ds []) R
def dYes : TDT := fun _ Qd _ => Qd true
instance : RefT K τ E tYes dYes := ⟨fun W A H σ ρ Qd R Q a h w => w true H (Fr.refl H) a.bs.inv h⟩
/-- its source: data, or a list that is read -/
class RefJ (K : PySem.W.Frag) (τ : List (Addr × Str)) (E : XK) (wi : TI) (fi : outParam TDI) : Prop where
  go : ∀ (W : Wld τ) (A : Addr → Prop) (H : Hp) (σ : L2.St) (ρ : List Sl) (Qd : List PyData → Prop) (R : Er → Prop) (P : It → Hp → Prop), At K W A E H σ ρ R → fi ρ Qd R →
    (∀ (J : It) (H' : Hp) (ds : List PyData), Fr W.B H H' → W.I H' → (∀ (A' : Addr → Prop) (H2 : Hp) (i : Nat), Bs W A' H2 → Goes A A' H' H' → Fr W.B H' H2 → (i < ds.length → J.go i H2) ∧ (ds.length ≤ i → J.stop i H2) ∧ ∀ x H3 d, ds[i]? = some d → J.yld i H2 x H3 → Same H2 H3 ∧ Rp K A' H3 x d) → Qd ds → P J H') → wi σ H P
class Inc (sl vs : List Nat) : Prop where
  h : ∀ i ∈ sl, i ∈ vs
instance (priority := low) {wi : TI} {fi : TDI} [hi : RefI K τ E wi fi] : RefJ K τ E wi fi := ⟨fun W A H σ ρ Qd R P a h k => by
  refine hi.go W A H σ ρ Qd R P a h fun J H1 gs gr ds f1 i1 gh it q => k J H1 ds f1 i1 (fun A' H2 i b2 g2 f2 => ?_) q
  have gh2 : GhR K W A' H2 gs gr := ⟨gh.len, fun j s e => by
    obtain ⟨v, x, e1, e2, r⟩ := gh.at_ j s e
    exact ⟨v, x, e1, e2, (r.go g2).go (goes_fr b2.ba f2)⟩⟩
  exact ⟨fun z => it.go W A' H2 i b2 gh2 z, fun z => it.stop W A' H2 i b2 gh2 z, fun x H3 d e y => it.yld W A' H2 i x H3 d b2 gh2 e y⟩⟩
theorem SlR.grow {W : Wld τ} {A A' : Addr → Prop} {H : Hp} {v : Option V} {s : Sl} (g : Goes A A' H H) (m : ∀ a, A a → A' a) (q : SlR K W A H v s) : SlR K W A' H v s := by
  cases s with
  | un => exact q
  | d x =>
    obtain ⟨u, e1, r1⟩ := q
    exact ⟨u, e1, r1.go g⟩
  | ml ys =>
    obtain ⟨q', us, e1, e2, e3, e4, e5⟩ := q
    exact ⟨q', us, e1, e2, e3, m _ e4, e5.go g⟩
  | bl ys =>
    obtain ⟨q', us, e1, e2, e3⟩ := q
    exact ⟨q', us, e1, e2, e3.go g⟩
  | st => exact q
  | scr ns => exact q
  | raw u => exact q
  | mo o =>
    obtain ⟨q', us, e1, e2, e3, e4, e5⟩ := q
    exact ⟨q', us, e1, e2, e3, m _ e4, e5.go g⟩
  | bo o =>
    obtain ⟨q', us, e1, e2, e3, e4⟩ := q
    exact ⟨q', us, e1, e2, e3, e4.go g⟩
theorem EnvR.grow {W : Wld τ} {A A' : Addr → Prop} {H : Hp} {σ : L2.St} {ρ : List Sl} (g : Goes A A' H H) (m : ∀ a, A a → A' a) (h : EnvR K W A H σ ρ) : EnvR K W A' H σ ρ := ⟨h.len, fun i s e => by
  obtain ⟨v, e1, r⟩ := h.at_ i s e
  exact ⟨v, e1, r.grow g m⟩, h.dis⟩
instance {wi : TI} {g : TG} {tt : TT} {te : TE} {vs sl : List Nat} {fi : TDI} {fg : FG} {ft : TDT} {fe : TD} [hi : RefJ K τ E wi fi] [hg : RefG K g fg sl] [ht : RefT K τ E tt ft] [he : RefE K τ E te fe] [inc : Inc sl vs] : RefE K τ E (tLc wi g tt te vs) (dLc fi fg ft fe vs) := ⟨fun W A H σ ρ Qd R Q a h w => by
  refine hi.go W A H σ ρ _ R _ a h fun J H1 ds f1 i1 jt q => ?_
  intro D nD
  have a1 := a.fr f1 i1
  have sD : Same H1 (upd H1 D (.lst [])) := same_new nD
  have nB : ¬ W.B D := a1.bs.nB (nob nD)
  -- what holds at each turn
  refine ⟨fun i m H' => m = ds.length - i ∧ i ≤ ds.length ∧ Fr W.B H1 H' ∧ W.I H' ∧ ∃ acc ys, H' D = some (.lst acc) ∧ RpAll K (fun a => A a ∨ a = D) H' acc ys ∧ lcD fg ft fe (wipeD ρ vs) R (fun ys => Qd (.ml ys)) (ds.drop i) ys,
    ⟨ds.length, by omega, by omega, Fr.of sD, W.stay _ _ sD i1, [], [], upd_same, .nil, q⟩, ?_⟩
  rintro i m H' ⟨rfl, hi', f', i', acc, ys, eD, rD, q'⟩
  have gA : Goes A (fun a => A a ∨ a = D) H1 H1 := fun c o ec _ nc => ⟨ec, fun z => z.elim nc (ne_of_none ec nD)⟩
  have aH : At K W (fun a => A a ∨ a = D) E H' σ ρ R := by
    refine ⟨⟨fun a z => .inl (a1.bs.ba a z), fun a z => ?_, i'⟩, (a1.env.grow gA fun a z => .inl z).fr (fun a z => .inl (a1.bs.ba a z)) f', fun er x H2 fr2 i2 z r => a1.er er x H2 (f'.trans fr2) i2 (z.mono fun a z => .inl z) r⟩
    rcases z with z | rfl
    · exact f'.2 a (a1.bs.dom a z)
    · exact ⟨_, eD, nt_lst⟩
  obtain ⟨j1, j2, j3⟩ := jt _ H' i aH.bs gA f'
  by_cases hlt : i < ds.length
  · rw [List.drop_eq_getElem_cons hlt] at q'
    refine .inr ⟨j1 hlt, fun H2 => i + 1 ≤ ds.length ∧ Fr W.B H1 H2 ∧ W.I H2 ∧ ∃ acc ys, H2 D = some (.lst acc) ∧ RpAll K (fun a => A a ∨ a = D) H2 acc ys ∧ lcD fg ft fe (wipeD ρ vs) R (fun ys => Qd (.ml ys)) (ds.drop (i + 1)) ys, fun H2 z => ⟨ds.length - (i + 1), by omega, rfl, z⟩, fun x H2 y => ?_⟩
    obtain ⟨sm, rx⟩ := j3 x H2 ds[i] (List.getElem?_eq_getElem hlt) y
    have f2 : Fr W.B H' H2 := Fr.of sm
    have i2 := W.stay _ _ sm i'
    have a2 := aH.fr f2 i2
    have ew : EnvR K W (fun a => A a ∨ a = D) H2 (wipe σ vs ++ []) (wipeD ρ vs ++ []) := by
      rw [List.append_nil, List.append_nil]
      exact a2.env.wipe vs
    refine hg.go W (fun a => A a ∨ a = D) H2 (wipe σ vs) (wipeD ρ vs) [] [] x ds[i] _ _ ew (a2.env.wipe vs).len rx q' fun σ3 ρ3 e3 l3 d3 _ q3 => ?_
    rw [List.append_nil, List.append_nil] at e3
    have ww : wipe σ3 vs = wipe σ vs := by
      have z := d3 vs inc.h
      rw [z]
      refine List.ext_getElem? fun j => ?_
      rw [wipe_get, wipe_get]
      by_cases hj : j ∈ vs
      · rw [if_pos hj, if_pos hj]
        cases σ[j]? <;> rfl
      · rw [if_neg hj, if_neg hj]
    refine ⟨ww, ?_⟩
    have a3 : At K W (fun a => A a ∨ a = D) E H2 σ3 ρ3 R := ⟨a2.bs, e3, a2.er⟩
    refine ht.go W (fun a => A a ∨ a = D) H2 σ3 ρ3 _ R _ a3 q3 fun k H3 f3 i3 q4 => ?_
    cases k with
    | false =>
      refine iteF ⟨hlt, (f'.trans f2).trans f3, i3, acc, ys, (f2.trans f3).1 _ _ eD nt_lst nB, rD.go (goes_fr (fun a z => .inl (a1.bs.ba a z)) (f2.trans f3)), q4⟩
    | true =>
      refine iteT (he.go W (fun a => A a ∨ a = D) H3 σ3 ρ3 _ R _ (a3.fr f3 i3) q4 fun y H4 s f4 i4 r4 q5 => ?_)
      obtain ⟨hs, q5⟩ := q5
      obtain ⟨z, ez, q6⟩ := dat_iff (P := fun y => lcD fg ft fe (wipeD ρ vs) R (fun ys => Qd (.ml ys)) (ds.drop (i + 1)) (ys ++ [y])) q5
      have f24 := (f2.trans f3).trans f4
      have eD4 : H4 D = some (.lst acc) := f24.1 _ _ eD nt_lst nB
      have rz := r4.dat (a3.bs.fr f3 i3) ez
      refine ⟨acc, eD4, by rw [rD.length]; exact hs, hlt, ?_, W.own H4 D _ _ i4 eD4 (.lst _) (.lst _) nB, acc ++ [y], ys ++ [z], upd_same, ?_, q6⟩
      · refine ⟨fun c o ec t nc => ?_, fun c hc => ?_⟩
        · rw [upd_ne (ne_of_none ec nD)]
          exact (f'.trans f24).1 c o ec t nc
        · by_cases e : c = D
          · subst e
            exact ⟨_, upd_same, nt_lst⟩
          · obtain ⟨o, e1, t1⟩ := (f'.trans f24).2 c hc
            exact ⟨o, (upd_ne e).trans e1, t1⟩
      · have gu : Goes (fun a => A a ∨ a = D) (fun a => A a ∨ a = D) H4 (upd H4 D (.lst (acc ++ [y]))) := fun c o ec _ nc => ⟨(upd_ne fun z => nc (.inr z)).trans ec, nc⟩
        exact ((rD.go (goes_fr (fun a z => .inl (a1.bs.ba a z)) f24)).go gu).append (.one (rz.go gu))
  · have e : i = ds.length := by omega
    subst e
    rw [List.drop_length] at q'
    exact .inl ⟨j2 (Nat.le_refl _), w (.ref D) H' (.ml ys) (f1.trans f') i' ⟨D, acc, rfl, fun z => nob nD (f1.2 D z), eD, rD⟩ q'⟩⟩
end
end Dl

namespace Dl
open PySem PySem.Spec PyProof.Rows L2
section
variable {K : PySem.W.Frag} {E : XK}
/-! ### what is walked -/
theorem gh1 {W : Wld τ} {A : Addr → Prop} {H : Hp} {v : V} {x : PyData} (r : Rp K A H v x) : GhR K W A H [some v] [.d x] := ⟨rfl, fun i s e => by
  cases i with
  | zero =>
    simp at e
    subst e
    exact ⟨v, x, rfl, rfl, r⟩
  | succ i => simp at e⟩
theorem GhR.one {W : Wld τ} {A : Addr → Prop} {H : Hp} {v : V} {x : PyData} (h : GhR K W A H [some v] [.d x]) : Rp K A H v x := by
  obtain ⟨u, y, e1, e2, r⟩ := h.at_ 0 _ rfl
  cases e1
  cases e2
  exact r
theorem Rp.lst_ {A : Addr → Prop} {H : Hp} {v : V} {xs : List PyData} (h : Rp K A H v (.list xs)) : ∃ a vs, v = .ref a ∧ SqL K H a vs ∧ RpAll K A H vs xs := by
  cases h with
  | lst q r => exact ⟨_, _, rfl, sqLA_sq q, r⟩
theorem Rp.tup_ {A : Addr → Prop} {H : Hp} {v : V} {xs : List PyData} (h : Rp K A H v (.tuple xs)) : ∃ a vs, v = .ref a ∧ SqT K H a vs ∧ RpAll K A H vs xs := by
  cases h with
  | tup q r => exact ⟨_, _, rfl, sqTA_sq q, r⟩
def iLst (fe : TD) : TDI := fun ρ Qd R => fe ρ (fun s => match s.dat with
  | some (.list xs) => Qd xs
  | _ => False) R
def iTp (fe : TD) : TDI := fun ρ Qd R => fe ρ (fun s => match s.dat with
  | some (.tuple xs) => Qd xs
  | _ => False) R
instance {t : TE} {f : TD} [ht : RefE K τ E t f] : RefI K τ E (iList K t) (iLst f) := ⟨fun W A H σ ρ Qd R P a h k => by
  refine ht.go W A H σ ρ _ R _ a h fun v H1 s f1 i1 r1 q => ?_
  split at q
  · rename_i xs ex
    have rp := r1.dat a.bs ex
    obtain ⟨p, vs, rfl, sq, ra⟩ := rp.lst_
    refine ⟨p, rfl, ⟨_, sq⟩, k (Itl K p) H1 [some (.ref p)] [.d (.list xs)] xs f1 i1 (gh1 rp) ⟨fun W A H i b g hi => ?_, fun W A H i b g hi => ?_, fun W A H i x H' d b g ed y => ?_⟩ q⟩
    · obtain ⟨a, us, e, s2, r2⟩ := g.one.lst_
      cases e
      obtain ⟨u, eu, _⟩ := r2.get (List.getElem?_eq_getElem hi)
      exact ⟨us, u, s2, eu⟩
    · obtain ⟨a, us, e, s2, r2⟩ := g.one.lst_
      cases e
      exact ⟨us, s2, by rw [r2.length]; exact hi⟩
    · obtain ⟨a, us, e, s2, r2⟩ := g.one.lst_
      cases e
      obtain ⟨rfl, y⟩ := y
      obtain ⟨d', e1, e2⟩ := r2.getV (y us s2)
      rw [ed] at e1
      cases e1
      exact ⟨Same.refl _, e2⟩
  · exact q.elim⟩
instance {t : TE} {f : TD} [ht : RefE K τ E t f] : RefI K τ E (iTup K t) (iTp f) := ⟨fun W A H σ ρ Qd R P a h k => by
  refine ht.go W A H σ ρ _ R _ a h fun v H1 s f1 i1 r1 q => ?_
  split at q
  · rename_i xs ex
    have rp := r1.dat a.bs ex
    obtain ⟨p, vs, rfl, sq, ra⟩ := rp.tup_
    refine ⟨p, rfl, ⟨_, sq⟩, k (Itt K p) H1 [some (.ref p)] [.d (.tuple xs)] xs f1 i1 (gh1 rp) ⟨fun W A H i b g hi => ?_, fun W A H i b g hi => ?_, fun W A H i x H' d b g ed y => ?_⟩ q⟩
    · obtain ⟨a, us, e, s2, r2⟩ := g.one.tup_
      cases e
      obtain ⟨u, eu, _⟩ := r2.get (List.getElem?_eq_getElem hi)
      exact ⟨us, u, s2, eu⟩
    · obtain ⟨a, us, e, s2, r2⟩ := g.one.tup_
      cases e
      exact ⟨us, s2, by rw [r2.length]; exact hi⟩
    · obtain ⟨a, us, e, s2, r2⟩ := g.one.tup_
      cases e
      obtain ⟨rfl, y⟩ := y
      obtain ⟨d', e1, e2⟩ := r2.getV (y us s2)
      rw [ed] at e1
      cases e1
      exact ⟨Same.refl _, e2⟩
  · exact q.elim⟩
/-- a comprehension over a list that is read -/
def iSeq (fe : TD) : TDI := fun ρ Qd R => fe ρ (fun s => match s.seq with
  | some xs => Qd xs
  | none => False) R
instance (priority := high) {t : TE} {f : TD} [ht : RefE K τ E t f] : RefJ K τ E (iList K t) (iSeq f) := ⟨fun W A H σ ρ Qd R P a h k => by
  refine ht.go W A H σ ρ _ R _ a h fun v H1 s f1 i1 r1 q => ?_
  split at q
  · rename_i xs ex
    obtain ⟨p, vs, rfl, sq, ra⟩ := r1.seq a.bs ex
    refine ⟨p, rfl, ⟨_, sqLA_sq sq⟩, k (Itl K p) H1 xs f1 i1 (fun A' H2 i b2 g2 f2 => ?_) q⟩
    have s2 := sqLA_sq (sqB_fr f2 sq)
    have r2 := (ra.go g2).go (goes_fr b2.ba f2)
    refine ⟨fun hi => ?_, fun hi => ⟨vs, s2, by rw [r2.length]; exact hi⟩, fun x H3 d ed y => ?_⟩
    · obtain ⟨u, eu, _⟩ := r2.get (List.getElem?_eq_getElem hi)
      exact ⟨vs, u, s2, eu⟩
    · obtain ⟨rfl, y⟩ := y
      obtain ⟨d', e1, e2⟩ := r2.getV (y vs s2)
      rw [ed] at e1
      cases e1
      exact ⟨Same.refl _, e2⟩
  · exact q.elim⟩
/-- range(n), range(m, n) -/
def rangeD (lo : Int) (n : Nat) : List PyData := (List.range n).map fun (k : Nat) => PyData.int (lo + k)
def iRg1 (fa : TDA) : TDI := fun ρ Qd R => fa ρ (fun ss => match ss with
  | [.d (.int j)] => -(2 ^ 62) ≤ j ∧ j < 2 ^ 62 ∧ Qd (rangeD 0 j.toNat)
  | _ => False) R
def iRg2 (fa : TDA) : TDI := fun ρ Qd R => fa ρ (fun ss => match ss with
  | [.d (.int i), .d (.int j)] => (-(2 ^ 62) ≤ i ∧ i < 2 ^ 62 ∧ -(2 ^ 62) ≤ j ∧ j < 2 ^ 62) ∧ Qd (rangeD i (j - i).toNat)
  | _ => False) R
theorem itR_rng (lo : Int) (n : Nat) : ItR K (Itr lo n) [] [] (rangeD lo n) := by
  have hl : (rangeD lo n).length = n := by rw [rangeD, List.length_map, List.length_range]
  refine ⟨fun W A H i b g hi => by rw [hl] at hi; exact hi, fun W A H i b g hi => by rw [hl] at hi; exact hi, fun W A H i x H' d b g ed y => ?_⟩
  obtain ⟨rfl, rfl⟩ := y
  unfold rangeD at ed
  rw [List.getElem?_map] at ed
  have hi : i < n := by
    rcases Nat.lt_or_ge i n with z | z
    · exact z
    · rw [List.getElem?_eq_none (by rw [List.length_range]; exact z)] at ed
      cases ed
  rw [List.getElem?_range hi] at ed
  cases ed
  exact ⟨Same.refl _, .int _⟩
theorem ghNil {W : Wld τ} {A : Addr → Prop} {H : Hp} : GhR K W A H [] [] := ⟨rfl, fun i s e => by simp at e⟩
instance {t : TA} {f : TDA} [ht : RefA K τ E t f] : RefI K τ E (iRng1 t) (iRg1 f) := ⟨fun W A H σ ρ Qd R P a h k => by
  refine ht.go W A H σ ρ _ R _ a h fun vs H1 ss f1 i1 r1 q => ?_
  split at q
  · rename_i j
    obtain ⟨v, rfl, r⟩ := vlsr1 r1
    obtain rfl := r.flat (u := .int j) rfl
    exact ⟨j, rfl, q.1, q.2.1, k _ H1 [] [] _ f1 i1 ghNil (itR_rng 0 j.toNat) q.2.2⟩
  · exact q.elim⟩
instance {t : TA} {f : TDA} [ht : RefA K τ E t f] : RefI K τ E (iRng2 t) (iRg2 f) := ⟨fun W A H σ ρ Qd R P a h k => by
  refine ht.go W A H σ ρ _ R _ a h fun vs H1 ss f1 i1 r1 q => ?_
  split at q
  · rename_i i j
    obtain ⟨v, u, rfl, r, r'⟩ := vlsr2 r1
    obtain rfl := r.flat (u := .int i) rfl
    obtain rfl := r'.flat (u := .int j) rfl
    exact ⟨i, j, rfl, q.1, k _ H1 [] [] _ f1 i1 ghNil (itR_rng i _) q.2⟩
  · exact q.elim⟩
/-- enumerate(xs) -/
def enumD (xs : List PyData) : List PyData := xs.zipIdx.map fun p => .tuple [.int (p.2 : Nat), p.1]
theorem enumD_get {xs : List PyData} {i : Nat} {d : PyData} (h : (enumD xs)[i]? = some d) : ∃ x, xs[i]? = some x ∧ d = .tuple [.int (i : Nat), x] := by
  unfold enumD at h
  rw [List.getElem?_map, List.getElem?_zipIdx] at h
  cases e : xs[i]? with
  | none =>
    rw [e] at h
    cases h
  | some x =>
    rw [e] at h
    simp at h
    exact ⟨x, rfl, h.symm⟩
theorem enumD_len (xs : List PyData) : (enumD xs).length = xs.length := by rw [enumD, List.length_map, List.length_zipIdx]
def iEn (fa : TDA) : TDI := fun ρ Qd R => fa ρ (fun ss => match ss with
  | [s] => (match s.dat with
    | some (.list xs) => Qd (enumD xs)
    | _ => False)
  | _ => False) R
theorem rp_pair {W : Wld τ} {A : Addr → Prop} {H : Hp} {T : Addr} {v w : V} {x y : PyData} (b : Bs W A H) (n : H T = none) (r : Rp K A H v x) (r' : Rp K A H w y) : Same H (upd H T (.tup [v, w])) ∧ Rp K A (upd H T (.tup [v, w])) (.ref T) (.tuple [x, y]) :=
  ⟨same_new n, .tup (.inl ⟨.inl upd_same, b.nA (nob n)⟩) (.cons (r.go (goes_fr b.ba (Fr.new n))) (.cons (r'.go (goes_fr b.ba (Fr.new n))) .nil))⟩
instance {t : TA} {f : TDA} [ht : RefA K τ E t f] : RefI K τ E (iEnum K t) (iEn f) := ⟨fun W A H σ ρ Qd R P a h k => by
  refine ht.go W A H σ ρ _ R _ a h fun vs H1 ss f1 i1 r1 q => ?_
  split at q
  · obtain ⟨v, rfl, r⟩ := vlsr1 r1
    split at q
    · rename_i xs ex
      have rp := r.dat a.bs ex
      obtain ⟨p, us, rfl, sq, ra⟩ := rp.lst_
      refine ⟨p, _, rfl, sq, k (Ite K p) H1 [some (.ref p)] [.d (.list xs)] (enumD xs) f1 i1 (gh1 rp) ⟨fun W A H i b g hi => ?_, fun W A H i b g hi => ?_, fun W A H i x H' d b g ed y => ?_⟩ q⟩
      · rw [enumD_len] at hi
        obtain ⟨a, us, e, s2, r2⟩ := g.one.lst_
        cases e
        obtain ⟨u, eu, _⟩ := r2.get (List.getElem?_eq_getElem hi)
        exact ⟨us, u, s2, eu⟩
      · rw [enumD_len] at hi
        obtain ⟨a, us, e, s2, r2⟩ := g.one.lst_
        cases e
        exact ⟨us, s2, by rw [r2.length]; exact hi⟩
      · obtain ⟨a, us, e, s2, r2⟩ := g.one.lst_
        cases e
        obtain ⟨T, u, rfl, nT, rfl, hx⟩ := y
        obtain ⟨x', ex', rfl⟩ := enumD_get ed
        obtain ⟨d', e1, e2⟩ := r2.getV (hx us s2)
        rw [ex'] at e1
        cases e1
        exact rp_pair b nT (.int _) e2
    · exact q.elim
  · exact q.elim⟩
/-- zip(xs, ys) of two lists, of two tuples -/
def zipD (xs ys : List PyData) : List PyData := (xs.zip ys).map fun p => .tuple [p.1, p.2]
theorem zipD_get {xs ys : List PyData} {i : Nat} {d : PyData} (h : (zipD xs ys)[i]? = some d) : ∃ x y, xs[i]? = some x ∧ ys[i]? = some y ∧ d = .tuple [x, y] := by
  unfold zipD at h
  rw [List.getElem?_map] at h
  cases e : (xs.zip ys)[i]? with
  | none =>
    rw [e] at h
    cases h
  | some p =>
    rw [e] at h
    cases h
    obtain ⟨e1, e2⟩ := List.getElem?_zip_eq_some.mp e
    exact ⟨p.1, p.2, e1, e2, rfl⟩
theorem zipD_len (xs ys : List PyData) : (zipD xs ys).length = min xs.length ys.length := by rw [zipD, List.length_map, List.length_zip]
def iZp (fa : TDA) : TDI := fun ρ Qd R => fa ρ (fun ss => match ss with
  | [s, u] => (match s.dat, u.dat with
    | some (.list xs), some (.list ys) => Qd (zipD xs ys)
    | some (.tuple xs), some (.tuple ys) => Qd (zipD xs ys)
    | _, _ => False)
  | _ => False) R
theorem gh2 {W : Wld τ} {A : Addr → Prop} {H : Hp} {v w : V} {x y : PyData} (r : Rp K A H v x) (r' : Rp K A H w y) : GhR K W A H [some v, some w] [.d x, .d y] := ⟨rfl, fun i s e => by
  match i with
  | 0 =>
    simp at e
    subst e
    exact ⟨v, x, rfl, rfl, r⟩
  | 1 =>
    simp at e
    subst e
    exact ⟨w, y, rfl, rfl, r'⟩
  | i + 2 => simp at e⟩
theorem GhR.two {W : Wld τ} {A : Addr → Prop} {H : Hp} {v w : V} {x y : PyData} (h : GhR K W A H [some v, some w] [.d x, .d y]) : Rp K A H v x ∧ Rp K A H w y := by
  obtain ⟨u, z, e1, e2, r⟩ := h.at_ 0 _ rfl
  cases e1
  cases e2
  obtain ⟨u, z, e1, e2, r'⟩ := h.at_ 1 _ rfl
  cases e1
  cases e2
  exact ⟨r, r'⟩
instance {t : TA} {f : TDA} [ht : RefA K τ E t f] : RefI K τ E (RZ.iZipA K t) (iZp f) := ⟨fun W A H σ ρ Qd R P a h k => by
  refine ht.go W A H σ ρ _ R _ a h fun vs H1 ss f1 i1 r1 q => ?_
  split at q
  · obtain ⟨v, w, rfl, r, r'⟩ := vlsr2 r1
    split at q
    · rename_i xs ys ex ey
      have rp := r.dat a.bs ex
      have rp' := r'.dat a.bs ey
      obtain ⟨p, us, rfl, sq, ra⟩ := rp.lst_
      obtain ⟨p', us', rfl, sq', ra'⟩ := rp'.lst_
      refine ⟨p, p', _, _, rfl, .inl ⟨sq, sq', k (Itz K p p') H1 [some (.ref p), some (.ref p')] [.d (.list xs), .d (.list ys)] (zipD xs ys) f1 i1 (gh2 rp rp') ⟨fun W A H i b g hi => ?_, fun W A H i b g hi => ?_, fun W A H i x H' d b g ed y => ?_⟩ q⟩⟩
      all_goals
        obtain ⟨g1, g2⟩ := g.two
        obtain ⟨a1, us, e, s2, r2⟩ := g1.lst_
        cases e
        obtain ⟨a2, us', e, s3, r3⟩ := g2.lst_
        cases e
      · rw [zipD_len] at hi
        obtain ⟨u, eu, _⟩ := r2.get (List.getElem?_eq_getElem (show i < xs.length by omega))
        obtain ⟨u', eu', _⟩ := r3.get (List.getElem?_eq_getElem (show i < ys.length by omega))
        exact ⟨us, us', u, u', s2, s3, eu, eu'⟩
      · rw [zipD_len] at hi
        refine ⟨us, us', s2, s3, ?_⟩
        rw [r2.length, r3.length]
        omega
      · obtain ⟨T, u, u', rfl, nT, rfl, hx, hy⟩ := y
        obtain ⟨x', y', ex', ey', rfl⟩ := zipD_get ed
        obtain ⟨d1, e1, q1⟩ := r2.getV (hx us s2)
        obtain ⟨d2, e2, q2⟩ := r3.getV (hy us' s3)
        rw [ex'] at e1
        rw [ey'] at e2
        cases e1
        cases e2
        exact rp_pair b nT q1 q2
    · rename_i xs ys ex ey
      have rp := r.dat a.bs ex
      have rp' := r'.dat a.bs ey
      obtain ⟨p, us, rfl, sq, ra⟩ := rp.tup_
      obtain ⟨p', us', rfl, sq', ra'⟩ := rp'.tup_
      refine ⟨p, p', _, _, rfl, .inr ⟨sq, sq', k (RZ.ItzT K p p') H1 [some (.ref p), some (.ref p')] [.d (.tuple xs), .d (.tuple ys)] (zipD xs ys) f1 i1 (gh2 rp rp') ⟨fun W A H i b g hi => ?_, fun W A H i b g hi => ?_, fun W A H i x H' d b g ed y => ?_⟩ q⟩⟩
      all_goals
        obtain ⟨g1, g2⟩ := g.two
        obtain ⟨a1, us, e, s2, r2⟩ := g1.tup_
        cases e
        obtain ⟨a2, us', e, s3, r3⟩ := g2.tup_
        cases e
      · rw [zipD_len] at hi
        obtain ⟨u, eu, _⟩ := r2.get (List.getElem?_eq_getElem (show i < xs.length by omega))
        obtain ⟨u', eu', _⟩ := r3.get (List.getElem?_eq_getElem (show i < ys.length by omega))
        exact ⟨us, us', u, u', s2, s3, eu, eu'⟩
      · rw [zipD_len] at hi
        refine ⟨us, us', s2, s3, ?_⟩
        rw [r2.length, r3.length]
        omega
      · obtain ⟨T, u, u', rfl, nT, rfl, hx, hy⟩ := y
        obtain ⟨x', y', ex', ey', rfl⟩ := zipD_get ed
        obtain ⟨d1, e1, q1⟩ := r2.getV (hx us s2)
        obtain ⟨d2, e2, q2⟩ := r3.getV (hy us' s3)
        rw [ex'] at e1
        rw [ey'] at e2
        cases e1
        cases e2
        exact rp_pair b nT q1 q2
    · exact q.elim
  · exact q.elim⟩
end
end Dl

namespace Dl
open PySem PySem.Spec PyProof.Rows L2
section
variable {K : PySem.W.Frag} {E : XK}
/-! ### items, slices, sums of sequences -/
theorem RpAll.atI {A : Addr → Prop} {H : Hp} {vs : List V} {ds : List PyData} {i : Int} {d : PyData} (h : RpAll K A H vs ds) (e : L2.atI ds i = some d) : ∃ v, L2.atI vs i = some v ∧ Rp K A H v d := by
  unfold L2.atI at e ⊢
  rw [h.length]
  cases z : ixN ds.length i with
  | none =>
    rw [z] at e
    cases e
  | some j =>
    rw [z] at e
    exact h.get e
def fIxL : Sl → Sl → (Sl → Prop) → Prop := fun s u Qd => match s.seq, u with
  | some xs, .d (.int i) => (match L2.atI xs i with
    | some d => Qd (.d d)
    | none => False)
  | _, _ => False
def fIxT : Sl → Sl → (Sl → Prop) → Prop := fun s u Qd => match s, u with
  | .d (.tuple xs), .d (.int i) => (match L2.atI xs i with
    | some d => Qd (.d d)
    | none => False)
  | _, _ => False
instance : Ref2 K (rIxL K) fIxL := ⟨fun W A H0 H x y s u Qd Q b f i rx ry h w => by
  unfold fIxL at h
  split at h
  · rename_i xs n ex
    split at h
    · rename_i d ed
      obtain ⟨p, vs, rfl, sq, r⟩ := rx.seq b ex
      obtain ⟨v, ev, rv⟩ := r.atI ed
      exact ⟨p, vs, n, v, rfl, ry.flat (u := .int n) rfl, sqLA_sq sq, ev, w v H (.d d) (Fr.refl H) i rv h⟩
    · exact h.elim
  · exact h.elim⟩
instance : Ref2 K (rIxT K) fIxT := ⟨fun W A H0 H x y s u Qd Q b f i rx ry h w => by
  unfold fIxT at h
  split at h
  · rename_i xs n
    split at h
    · rename_i d ed
      obtain ⟨p, vs, rfl, sq, r⟩ := Rp.tup_ rx
      obtain ⟨v, ev, rv⟩ := r.atI ed
      exact ⟨p, vs, n, v, rfl, ry.flat (u := .int n) rfl, sq, ev, w v H (.d d) (Fr.refl H) i rv h⟩
    · exact h.elim
  · exact h.elim⟩
def cutD (xs : List PyData) (lo hi : Option Int) : List PyData := (xs.drop (HT.sIx xs.length 0 lo)).take (HT.sIx xs.length xs.length hi - HT.sIx xs.length 0 lo)
theorem RpAll.cut {A : Addr → Prop} {H : Hp} {vs : List V} {ds : List PyData} (h : RpAll K A H vs ds) (lo hi : Option Int) : RpAll K A H (cutV vs lo hi) (cutD ds lo hi) := by
  unfold cutV cutD
  rw [h.length]
  exact (h.drop _).take _
theorem cutD_whole {xs : List PyData} {lo hi : Option Int} (h : HT.sIx xs.length 0 lo = 0 ∧ HT.sIx xs.length xs.length hi = xs.length) : cutD xs lo hi = xs := by
  unfold cutD
  rw [h.1, h.2, List.drop_zero, Nat.sub_zero, List.take_length]
abbrev TDO := List Sl → (Option Int → Prop) → (Er → Prop) → Prop
class RefO (K : PySem.W.Frag) (τ : List (Addr × Str)) (E : XK) (t : TO) (f : outParam TDO) : Prop where
  go : ∀ (W : Wld τ) (A : Addr → Prop) (H : Hp) (σ : L2.St) (ρ : List Sl) (Qd : Option Int → Prop) (R : Er → Prop) (Q : Option Int → Hp → Prop), At K W A E H σ ρ R → f ρ Qd R → (∀ o H', Fr W.B H H' → W.I H' → Qd o → Q o H') → t σ H Q
def dNo : TDO := fun _ Qd _ => Qd none
def dPt (fe : TD) : TDO := fun ρ Qd R => fe ρ (fun s => match s with
  | .d (.int i) => Qd (some i)
  | _ => False) R
instance : RefO K τ E tNoPart dNo := ⟨fun W A H σ ρ Qd R Q a h w => w none H (Fr.refl H) a.bs.inv h⟩
instance {t : TE} {f : TD} [ht : RefE K τ E t f] : RefO K τ E (tPart t) (dPt f) := ⟨fun W A H σ ρ Qd R Q a h w => by
  refine ht.go W A H σ ρ _ R _ a h fun v H1 s f1 i1 r1 q => ?_
  split at q
  · rename_i i
    exact ⟨i, r1.flat (u := .int i) rfl, w _ H1 f1 i1 q⟩
  · exact q.elim⟩
class RefSl (K : PySem.W.Frag) (r : V → Option Int → Option Int → Hp → VK → Prop) (f : outParam (Sl → Option Int → Option Int → (Sl → Prop) → Prop)) : Prop where
  go : ∀ {τ : List (Addr × Str)} (W : Wld τ) (A : Addr → Prop) (H0 H : Hp) (x : V) (s : Sl) (lo hi : Option Int) (Qd : Sl → Prop) (Q : VK), Bs W A H0 → Fr W.B H0 H → W.I H → VlR K W A H0 H x s → f s lo hi Qd → Want K W A H Qd Q → r x lo hi H Q
def dSl (f : Sl → Option Int → Option Int → (Sl → Prop) → Prop) (fe : TD) (fl fh : TDO) : TD := fun ρ Qd R => fe ρ (fun s => fl ρ (fun l => fh ρ (fun h => f s l h Qd) R) R) R
instance {r : V → Option Int → Option Int → Hp → VK → Prop} {te : TE} {tl th : TO} {f : Sl → Option Int → Option Int → (Sl → Prop) → Prop} {fe : TD} {fl fh : TDO} [he : RefE K τ E te fe] [hl : RefO K τ E tl fl] [hh : RefO K τ E th fh] [hr : RefSl K r f] : RefE K τ E (tSl r te tl th) (dSl f fe fl fh) := ⟨fun W A H σ ρ Qd R Q a h w => by
  refine he.go W A H σ ρ _ R _ a h fun v H1 s f1 i1 r1 q1 => ?_
  refine hl.go W A H1 σ ρ _ R _ (a.fr f1 i1) q1 fun l H2 f2 i2 q2 => ?_
  refine hh.go W A H2 σ ρ _ R _ (a.fr (f1.trans f2) i2) q2 fun u H3 f3 i3 q3 => ?_
  exact hr.go W A H H3 v s l u Qd Q a.bs ((f1.trans f2).trans f3) i3 (r1.fr a.bs (f2.trans f3)) q3 (w.back ((f1.trans f2).trans f3))⟩
def fSlT : Sl → Option Int → Option Int → (Sl → Prop) → Prop := fun s lo hi Qd => match s with
  | .d (.tuple xs) => Qd (.d (.tuple (cutD xs lo hi)))
  | _ => False
def fSlL : Sl → Option Int → Option Int → (Sl → Prop) → Prop := fun s lo hi Qd => match s.seq with
  | some xs => Qd (.ml (cutD xs lo hi))
  | none => False
instance : RefSl K (rSlA K) fSlT := ⟨fun W A H0 H x s lo hi Qd Q b f i rx h w => by
  unfold fSlT at h
  split at h
  · rename_i xs
    have rx' : Rp K A H x (.tuple xs) := rx
    have bH : Bs W A H := b.fr f i
    cases rx with
    | @tup a vs ds q r =>
      refine ⟨a, vs, rfl, sqTA_sq q, fun hw => ?_, fun hw => ?_⟩
      · refine w _ H (.d (.tuple (cutD xs lo hi))) (Fr.refl H) i ?_ h
        rw [cutD_whole (by rw [← r.length]; exact hw)]
        exact rx'
      · exact Want.tup bH w (r.cut lo hi) h
  · exact h.elim⟩
instance : RefSl K (rSlL K) fSlL := ⟨fun W A H0 H x s lo hi Qd Q b f i rx h w => by
  unfold fSlL at h
  split at h
  · rename_i xs ex
    obtain ⟨p, vs, rfl, sq, r⟩ := rx.seq b ex
    exact ⟨p, vs, rfl, sqLA_sq sq, Want.lst (b.fr f i) w (r.cut lo hi) h⟩
  · exact h.elim⟩
def fCatT : Sl → Sl → (Sl → Prop) → Prop := fun s u Qd => match s, u with
  | .d (.tuple xs), .d (.tuple ys) => xs.length + ys.length ≤ sizeLine ∧ Qd (.d (.tuple (xs ++ ys)))
  | _, _ => False
instance : Ref2 K (rCatA K) fCatT := ⟨fun W A H0 H x y s u Qd Q b f i rx ry h w => by
  unfold fCatT at h
  split at h
  · rename_i xs ys
    have rx' : Rp K A H x (.tuple xs) := rx
    have ry' : Rp K A H y (.tuple ys) := ry
    obtain ⟨p, vs, rfl, sq, r⟩ := Rp.tup_ rx'
    obtain ⟨p', vs', rfl, sq', r'⟩ := Rp.tup_ ry'
    refine ⟨p, p', vs, vs', rfl, rfl, sq, sq', by rw [r.length, r'.length]; exact h.1, fun z => ?_, fun _ z => ?_, fun _ _ => Want.tup (b.fr f i) w (r.append r') h.2⟩
    · refine w _ H (.d (.tuple (xs ++ ys))) (Fr.refl H) i ?_ h.2
      subst z
      cases r
      exact ry'
    · refine w _ H (.d (.tuple (xs ++ ys))) (Fr.refl H) i ?_ h.2
      subst z
      cases r'
      rw [List.append_nil]
      exact rx'
  · exact h.elim⟩
def fCatL : Sl → Sl → (Sl → Prop) → Prop := fun s u Qd => match s.seq, u.seq with
  | some xs, some ys => xs.length + ys.length ≤ sizeLine ∧ Qd (.ml (xs ++ ys))
  | _, _ => False
instance : Ref2 K rCat fCatL := ⟨fun W A H0 H x y s u Qd Q b f i rx ry h w => by
  unfold fCatL at h
  split at h
  · rename_i xs ys ex ey
    obtain ⟨p, vs, rfl, sq, r⟩ := rx.seq b ex
    obtain ⟨p', vs', rfl, sq', r'⟩ := ry.seq b ey
    exact ⟨p, p', vs, vs', rfl, rfl, sq.1, sq'.1, by rw [r.length, r'.length]; exact h.1, Want.lst (b.fr f i) w (r.append r') h.2⟩
  · exact h.elim⟩
def fRep : Sl → Sl → (Sl → Prop) → Prop := fun s u Qd => match s.seq, u with
  | some xs, .d (.int k) => -(2 ^ 63) ≤ k ∧ k < 2 ^ 63 ∧ xs.length * k.toNat ≤ sizeLine ∧ Qd (.ml (List.replicate k.toNat xs).flatten)
  | _, _ => False
instance : Ref2 K rRep fRep := ⟨fun W A H0 H x y s u Qd Q b f i rx ry h w => by
  unfold fRep at h
  split at h
  · rename_i xs k ex
    obtain ⟨p, vs, rfl, sq, r⟩ := rx.seq b ex
    exact ⟨p, k, vs, rfl, ry.flat (u := .int k) rfl, sq.1, h.1, h.2.1, by rw [r.length]; exact h.2.2.1, Want.lst (b.fr f i) w (r.rep _) h.2.2.2⟩
  · exact h.elim⟩
/-! ### in -/
def dflat : PyData → Option V
  | .none => some .non
  | .bool b => some (.bl b)
  | .int i => some (.int i)
  | .str x => some (.str x)
  | _ => none
def dflats : List PyData → Option (List V)
  | [] => some []
  | x :: r => match dflat x, dflats r with
    | some v, some vs => some (v :: vs)
    | _, _ => none
theorem rp_flat {A : Addr → Prop} {H : Hp} {v u : V} {x : PyData} (h : Rp K A H v x) (e : dflat x = some u) : v = u ∧ flatV u = true := by
  cases h <;> cases e <;> exact ⟨rfl, rfl⟩
theorem rps_flat {A : Addr → Prop} {H : Hp} : ∀ {vs us : List V} {xs : List PyData}, RpAll K A H vs xs → dflats xs = some us → vs = us ∧ us.all flatV = true
  | _, _, _, .nil, e => by
    cases e
    exact ⟨rfl, rfl⟩
  | _, _, _, .cons h r, e => by
    unfold dflats at e
    split at e
    · rename_i v vs e1 e2
      cases e
      obtain ⟨rfl, a1⟩ := rp_flat h e1
      obtain ⟨rfl, a2⟩ := rps_flat r e2
      exact ⟨rfl, by rw [List.all_cons, a1, a2]; rfl⟩
    · cases e
def fIn (neg : Bool) : Sl → Sl → (Sl → Prop) → Prop := fun s u Qd => match s.dat.bind dflat, u.sq.bind dflats with
  | some x, some ys => Qd (.d (.bool (if neg then !inV x ys else inV x ys)))
  | _, _ => False
instance {neg : Bool} : Ref2 K (rIn K neg) (fIn neg) := ⟨fun W A H0 H x y s u Qd Q b f i rx ry h w => by
  unfold fIn at h
  split at h
  · rename_i v vs ex ey
    obtain ⟨d, e1, e2⟩ := Option.bind_eq_some_iff.mp ex
    obtain ⟨ds, e3, e4⟩ := Option.bind_eq_some_iff.mp ey
    obtain ⟨rfl, a1⟩ := rp_flat (rx.dat b e1) e2
    obtain ⟨p, us, rfl, sq, r⟩ := ry.sq b i e3
    obtain ⟨rfl, a2⟩ := rps_flat r e4
    exact ⟨p, us, rfl, sq, a1, a2, w.here i _ h⟩
  · exact h.elim⟩
/-! ### built-in calls -/
def fLen : List Sl → (Sl → Prop) → Prop := fun ss Qd => match ss with
  | [s] => (match s.sq with
    | some xs => Qd (.d (.int xs.length))
    | none => False)
  | _ => False
instance : RefC K (fun xs H Q => ∃ p ys, xs = [.ref p] ∧ (SqL K H p ys ∨ SqT K H p ys) ∧ Q (.int ys.length) H) fLen := ⟨fun W A H0 H xs ss Qd Q b f i rx h w => by
  unfold fLen at h
  split at h
  · obtain ⟨v, rfl, r⟩ := vlsr1 rx
    split at h
    · rename_i xs ex
      obtain ⟨p, vs, rfl, sq, r⟩ := r.sq b i ex
      refine ⟨p, vs, rfl, sq, ?_⟩
      rw [r.length]
      exact w.here i _ h
    · exact h.elim
  · exact h.elim⟩
def fLenS : List Sl → (Sl → Prop) → Prop := fun ss Qd => match ss with
  | [.d (.str z)] => z.length ≤ sizeLine ∧ Qd (.d (.int z.length))
  | _ => False
instance : RefC K (fun xs H Q => ∃ z, xs = [.str z] ∧ z.length ≤ sizeLine ∧ Q (.int z.length) H) fLenS := ⟨fun W A H0 H xs ss Qd Q b f i rx h w => by
  unfold fLenS at h
  split at h
  · rename_i z
    obtain ⟨v, rfl, r⟩ := vlsr1 rx
    obtain rfl := r.flat (u := .str z) rfl
    exact ⟨z, rfl, h.1, w.here i _ h.2⟩
  · exact h.elim⟩
/-- isinstance(x, T), T a built-in class -/
def tyD : PyData → String
  | .none => "NoneType"
  | .bool _ => "bool"
  | .int _ => "int"
  | .str _ => "str"
  | .list _ => "list"
  | .tuple _ => "tuple"
  | .dict _ => "dict"
def isiD (n T : String) : Bool := n == T || (n == "bool" && T == "int")
def okTy (T : String) : Prop := T = "int" ∨ T = "bool" ∨ T = "tuple" ∨ T = "list" ∨ T = "str" ∨ T = "dict"
theorem isi_kit (x : PyData) {T : String} (h : okTy T) : PySem.W.kitOne K (.type (tyD x)) (.type T) = some (isiD (tyD x) T) := by
  rcases h with rfl | rfl | rfl | rfl | rfl | rfl <;> cases x <;> (simp only [tyD]; exact kit_ty (by decide +kernel))
theorem rp_ty {A : Addr → Prop} {H : Hp} {v : V} {x : PyData} (h : Rp K A H v x) : TyX K H v (.type (tyD x)) := by
  cases h with
  | non => exact .base .non
  | bl b => exact .base (.bl b)
  | int i => exact .base (.int i)
  | str x => exact .base (.str x)
  | lst q r => exact .base (.lst q.1)
  | tup q r =>
    rcases sqTA_sq q with (e | ⟨o, e⟩) | ⟨o, its, n, e, c, _⟩
    · exact .base (.tup e)
    · exact .fTuple e
    · exact .kTuple e c
  | dct e n r => exact .base (.dK e)
def fIsi : List Sl → (Sl → Prop) → Prop := fun ss Qd => match ss with
  | [s, .raw (.ty T)] => (match s.dat with
    | some x => okTy T ∧ Qd (.d (.bool (isiD (tyD x) T)))
    | none => False)
  | _ => False
instance : RefC K (rIsi K) fIsi := ⟨fun W A H0 H xs ss Qd Q b f i rx h w => by
  unfold fIsi at h
  split at h
  · rename_i s T
    obtain ⟨v, u, rfl, r, r'⟩ := vlsr2 rx
    obtain rfl := r'.flat (u := .ty T) rfl
    split at h
    · rename_i x ex
      exact ⟨v, _, _, _, _, rfl, .ty T, rp_ty (r.dat b ex), isi_kit x h.1, w.here i _ h.2⟩
    · exact h.elim
  · exact h.elim⟩
end
end Dl

namespace Dl
open PySem PySem.Spec PyProof.Rows L2
section
variable {K : PySem.W.Frag} {E : XK}
/-! ### built-in calls over lists -/
def dint : PyData → Option Int
  | .int i => some i
  | _ => none
def dbool : PyData → Option Bool
  | .bool b => some b
  | _ => none
def dstr : PyData → Option Str
  | .str b => some b
  | _ => none
def oAll {α : Type} (f : PyData → Option α) : List PyData → Option (List α)
  | [] => some []
  | x :: r => match f x, oAll f r with
    | some a, some as => some (a :: as)
    | _, _ => none
theorem oAll_map {α : Type} {f : PyData → Option α} {g : α → PyData} (h : ∀ x a, f x = some a → x = g a) : ∀ {xs : List PyData} {as : List α}, oAll f xs = some as → xs = as.map g
  | [], _, e => by
    cases e
    rfl
  | x :: r, as, e => by
    unfold oAll at e
    split at e
    · rename_i a as' e1 e2
      cases e
      rw [h x a e1, oAll_map h e2]
      rfl
    · cases e
theorem oAll_of {α : Type} {f : PyData → Option α} {g : α → PyData} (h : ∀ a, f (g a) = some a) : ∀ as : List α, oAll f (as.map g) = some as
  | [] => rfl
  | a :: r => by
    rw [List.map_cons]
    unfold oAll
    rw [h a, oAll_of h r]
theorem dint_eq : ∀ (x : PyData) (a : Int), dint x = some a → x = .int a := fun x a e => by cases x <;> cases e; rfl
theorem dbool_eq : ∀ (x : PyData) (a : Bool), dbool x = some a → x = .bool a := fun x a e => by cases x <;> cases e; rfl
theorem dstr_eq : ∀ (x : PyData) (a : Str), dstr x = some a → x = .str a := fun x a e => by cases x <;> cases e; rfl
theorem ints_of (ns : List Int) : oAll dint (ns.map PyData.int) = some ns := oAll_of (g := PyData.int) (fun _ => rfl) ns
theorem bools_of (ns : List Bool) : oAll dbool (ns.map PyData.bool) = some ns := oAll_of (g := PyData.bool) (fun _ => rfl) ns
theorem strs_of (ns : List Str) : oAll dstr (ns.map PyData.str) = some ns := oAll_of (g := PyData.str) (fun _ => rfl) ns
/-- f of a list of ints, of truths -/
def fInts (g : List Int → (Sl → Prop) → Prop) : List Sl → (Sl → Prop) → Prop := fun ss Qd => match ss with
  | [s] => (match s.seq.bind (oAll dint) with
    | some ns => g ns Qd
    | none => False)
  | _ => False
def fBools (g : List Bool → (Sl → Prop) → Prop) : List Sl → (Sl → Prop) → Prop := fun ss Qd => match ss with
  | [s] => (match s.seq.bind (oAll dbool) with
    | some ns => g ns Qd
    | none => False)
  | _ => False
theorem fInts_go {g : List Int → (Sl → Prop) → Prop} {W : Wld τ} {A : Addr → Prop} {H0 H : Hp} {xs : List V} {ss : List Sl} {Qd : Sl → Prop} (b : Bs W A H0) (rx : VlsR K W A H0 H xs ss) (h : fInts g ss Qd) : ∃ (p : Addr) (ns : List Int), xs = [.ref p] ∧ H p = some (.lst (ns.map V.int)) ∧ g ns Qd := by
  unfold fInts at h
  split at h
  · obtain ⟨v, rfl, r⟩ := vlsr1 rx
    split at h
    · rename_i ns ex
      obtain ⟨ds, e1, e2⟩ := Option.bind_eq_some_iff.mp ex
      obtain ⟨p, vs, rfl, sq, r⟩ := r.seq b e1
      rw [oAll_map dint_eq e2] at r
      have z := r.ints
      subst z
      exact ⟨p, ns, rfl, sq.1, h⟩
    · exact h.elim
  · exact h.elim
theorem fBools_go {g : List Bool → (Sl → Prop) → Prop} {W : Wld τ} {A : Addr → Prop} {H0 H : Hp} {xs : List V} {ss : List Sl} {Qd : Sl → Prop} (b : Bs W A H0) (rx : VlsR K W A H0 H xs ss) (h : fBools g ss Qd) : ∃ (p : Addr) (ns : List Bool), xs = [.ref p] ∧ H p = some (.lst (ns.map V.bl)) ∧ g ns Qd := by
  unfold fBools at h
  split at h
  · obtain ⟨v, rfl, r⟩ := vlsr1 rx
    split at h
    · rename_i ns ex
      obtain ⟨ds, e1, e2⟩ := Option.bind_eq_some_iff.mp ex
      obtain ⟨p, vs, rfl, sq, r⟩ := r.seq b e1
      rw [oAll_map dbool_eq e2] at r
      have z := r.bools
      subst z
      exact ⟨p, ns, rfl, sq.1, h⟩
    · exact h.elim
  · exact h.elim
def gAll : List Bool → (Sl → Prop) → Prop := fun bs Qd => Qd (.d (.bool (bs.all id)))
def gAny : List Bool → (Sl → Prop) → Prop := fun bs Qd => Qd (.d (.bool (bs.any id)))
def gSum : List Int → (Sl → Prop) → Prop := fun ns Qd => Qd (.d (.int ns.sum))
def gMax : List Int → (Sl → Prop) → Prop := fun ns Qd => 0 < ns.length ∧ ∀ m, m ∈ ns → (∀ y, y ∈ ns → y ≤ m) → Qd (.d (.int m))
def gMin : List Int → (Sl → Prop) → Prop := fun ns Qd => 0 < ns.length ∧ ∀ m, m ∈ ns → (∀ y, y ∈ ns → m ≤ y) → Qd (.d (.int m))
def gSort : List Int → (Sl → Prop) → Prop := fun ns Qd => ns.length < 64 ∧ ∀ ns' : List Int, ns'.Perm ns → ns'.Pairwise (· ≤ ·) → Qd (.ml (ns'.map PyData.int))
instance : RefC K (rAll K) (fBools gAll) := ⟨fun W A H0 H xs ss Qd Q b f i rx h w => by
  obtain ⟨p, ns, rfl, e, q⟩ := fBools_go b rx h
  exact ⟨p, ns, rfl, SqL.of e, w.here i _ q⟩⟩
instance : RefC K (rAny K) (fBools gAny) := ⟨fun W A H0 H xs ss Qd Q b f i rx h w => by
  obtain ⟨p, ns, rfl, e, q⟩ := fBools_go b rx h
  exact ⟨p, ns, rfl, SqL.of e, w.here i _ q⟩⟩
instance : RefC K (rSum K) (fInts gSum) := ⟨fun W A H0 H xs ss Qd Q b f i rx h w => by
  obtain ⟨p, ns, rfl, e, q⟩ := fInts_go b rx h
  exact ⟨p, ns, rfl, SqL.of e, w.here i _ q⟩⟩
instance : RefC K (rMax K) (fInts gMax) := ⟨fun W A H0 H xs ss Qd Q b f i rx h w => by
  obtain ⟨p, ns, rfl, e, q0, q⟩ := fInts_go b rx h
  exact ⟨p, ns, rfl, SqL.of e, q0, fun m h1 h2 => w.here i _ (q m h1 h2)⟩⟩
instance : RefC K (rMin K) (fInts gMin) := ⟨fun W A H0 H xs ss Qd Q b f i rx h w => by
  obtain ⟨p, ns, rfl, e, q0, q⟩ := fInts_go b rx h
  exact ⟨p, ns, rfl, SqL.of e, q0, fun m h1 h2 => w.here i _ (q m h1 h2)⟩⟩
instance : RefC K (rSorted K) (fInts gSort) := ⟨fun W A H0 H xs ss Qd Q b f i rx h w => by
  obtain ⟨p, ns, rfl, e, q0, q⟩ := fInts_go b rx h
  exact ⟨p, ns, rfl, SqL.of e, q0, fun ns' p' h1 h2 n => Want.lst (b.fr f i) w (.of_ints ns') (q ns' h1 h2) p' n⟩⟩
/-- max(m, n), min(m, n), abs -/
def f2I (g : Int → Int → Int) : List Sl → (Sl → Prop) → Prop := fun ss Qd => match ss with
  | [.d (.int i), .d (.int j)] => Qd (.d (.int (g i j)))
  | _ => False
instance : RefC K (fun xs H Q => ∃ i j, xs = [.int i, .int j] ∧ Q (.int (if j > i then j else i)) H) (f2I fun i j => if j > i then j else i) := ⟨fun W A H0 H xs ss Qd Q b f i rx h w => by
  unfold f2I at h
  split at h
  · rename_i m n
    obtain ⟨v, u, rfl, r, r'⟩ := vlsr2 rx
    obtain rfl := r.flat (u := .int m) rfl
    obtain rfl := r'.flat (u := .int n) rfl
    exact ⟨m, n, rfl, w.here i _ h⟩
  · exact h.elim⟩
instance : RefC K (fun xs H Q => ∃ i j, xs = [.int i, .int j] ∧ Q (.int (if j < i then j else i)) H) (f2I fun i j => if j < i then j else i) := ⟨fun W A H0 H xs ss Qd Q b f i rx h w => by
  unfold f2I at h
  split at h
  · rename_i m n
    obtain ⟨v, u, rfl, r, r'⟩ := vlsr2 rx
    obtain rfl := r.flat (u := .int m) rfl
    obtain rfl := r'.flat (u := .int n) rfl
    exact ⟨m, n, rfl, w.here i _ h⟩
  · exact h.elim⟩
/-- int(x) of an int, a truth; str(n) -/
def fInt : List Sl → (Sl → Prop) → Prop := fun ss Qd => match ss with
  | [.d (.int i)] => Qd (.d (.int i))
  | [.d (.bool k)] => Qd (.d (.int (if k then 1 else 0)))
  | _ => False
instance : RefC K (fun xs H Q => (∃ i, xs = [.int i] ∧ Q (.int i) H) ∨ ∃ k, xs = [.bl k] ∧ Q (.int (if k then 1 else 0)) H) fInt := ⟨fun W A H0 H xs ss Qd Q b f i rx h w => by
  unfold fInt at h
  split at h
  · rename_i m
    obtain ⟨v, rfl, r⟩ := vlsr1 rx
    obtain rfl := r.flat (u := .int m) rfl
    exact .inl ⟨m, rfl, w.here i _ h⟩
  · rename_i m
    obtain ⟨v, rfl, r⟩ := vlsr1 rx
    obtain rfl := r.flat (u := .bl m) rfl
    exact .inr ⟨m, rfl, w.here i _ h⟩
  · exact h.elim⟩
def fStr : List Sl → (Sl → Prop) → Prop := fun ss Qd => match ss with
  | [.d (.int i)] => i.natAbs.log2 < 1920 ∧ Qd (.d (.str (toString i)))
  | _ => False
instance : RefC K (fun xs H Q => ∃ i, xs = [.int i] ∧ i.natAbs.log2 < 1920 ∧ Q (.str (toString i)) H) fStr := ⟨fun W A H0 H xs ss Qd Q b f i rx h w => by
  unfold fStr at h
  split at h
  · rename_i m
    obtain ⟨v, rfl, r⟩ := vlsr1 rx
    obtain rfl := r.flat (u := .int m) rfl
    exact ⟨m, rfl, h.1, w.here i _ h.2⟩
  · exact h.elim⟩
/-- list(x), tuple(x) -/
def fList : List Sl → (Sl → Prop) → Prop := fun ss Qd => match ss with
  | [s] => (match s.sq with
    | some xs => Qd (.ml xs)
    | none => False)
  | _ => False
instance : RefC K (fun xs H Q => ∃ p ys, xs = [.ref p] ∧ (SqL K H p ys ∨ SqT K H p ys) ∧ ∀ l, H l = none → Q (.ref l) (upd H l (.lst ys))) fList := ⟨fun W A H0 H xs ss Qd Q b f i rx h w => by
  unfold fList at h
  split at h
  · obtain ⟨v, rfl, r⟩ := vlsr1 rx
    split at h
    · rename_i xs ex
      obtain ⟨p, vs, rfl, sq, r⟩ := r.sq b i ex
      exact ⟨p, vs, rfl, sq, Want.lst (b.fr f i) w r h⟩
    · exact h.elim
  · exact h.elim⟩
def fTuple : List Sl → (Sl → Prop) → Prop := fun ss Qd => match ss with
  | [s] => (match s.sq with
    | some xs => Qd (.d (.tuple xs))
    | none => False)
  | _ => False
instance : RefC K (fun xs H Q => ∃ p ys, xs = [.ref p] ∧ ((SqL K H p ys ∧ ∀ l, H l = none → Q (.ref l) (upd H l (.tup ys))) ∨ (SqT K H p ys ∧ Q (.ref p) H))) fTuple := ⟨fun W A H0 H xs ss Qd Q b f i rx h w => by
  unfold fTuple at h
  split at h
  · obtain ⟨v, rfl, r⟩ := vlsr1 rx
    rename_i s
    have tup : ∀ ys, s.seq = some ys → s.sq = some ys → Qd (.d (.tuple ys)) → ∃ p zs, [v] = [.ref p] ∧ ((SqL K H p zs ∧ ∀ l, H l = none → Q (.ref l) (upd H l (.tup zs))) ∨ (SqT K H p zs ∧ Q (.ref p) H)) := fun ys e1 _ q => by
      obtain ⟨p, vs, rfl, sq, r⟩ := r.seq b e1
      exact ⟨p, vs, rfl, .inl ⟨sqLA_sq sq, Want.tup (b.fr f i) w r q⟩⟩
    split at h
    · rename_i xs ex
      cases s with
      | d x =>
        cases x with
        | tuple ys =>
          obtain rfl : ys = xs := Option.some.inj ex
          have r' : Rp K A H v (.tuple ys) := r
          obtain ⟨p, vs, rfl, sq, _⟩ := Rp.tup_ r'
          exact ⟨p, vs, rfl, .inr ⟨sq, w _ H (.d (.tuple ys)) (Fr.refl H) i r' h⟩⟩
        | list ys =>
          obtain rfl : ys = xs := Option.some.inj ex
          exact tup ys rfl rfl h
        | _ => cases ex
      | ml ys =>
        obtain rfl : ys = xs := Option.some.inj ex
        exact tup ys rfl rfl h
      | bl ys =>
        obtain rfl : ys = xs := Option.some.inj ex
        exact tup ys rfl rfl h
      | scr ns =>
        obtain rfl : ns.map PyData.int = xs := Option.some.inj ex
        obtain ⟨a, rfl, q⟩ := r
        exact ⟨a, _, rfl, .inl ⟨q H i, Want.tup (b.fr f i) w (.of_ints ns) h⟩⟩
      | _ => cases ex
    · exact h.elim
  · exact h.elim⟩
/-! ### a list of one's own grows, is set -/
theorem own_here {W : Wld τ} {A : Addr → Prop} {H : Hp} {p : Addr} {s : Sl} (h : SlR K W A H (some (.ref p)) s) (k : s.isOwn) : ∃ ho, H p = some ho ∧ Mb ho ∧ ¬ W.B p ∧ A p := by
  cases s with
  | ml xs =>
    obtain ⟨q, vs, e, e1, n, a, _⟩ := h
    cases e
    exact ⟨_, e1, .lst _, n, a⟩
  | mo o =>
    obtain ⟨q, ho, e, e1, n, a, r⟩ := h
    cases e
    exact ⟨_, e1, r.mb, n, a⟩
  | _ => exact k.elim
theorem Cor.mutO {W0 W : Wld τ} {A0 A : Addr → Prop} {H0 H : Hp} {σ gσ : L2.St} {ρ gρ : List Sl} (c : Cor K W0 A0 H0 W A H σ ρ gσ gρ) {i : Nat} {p : Addr} {s0 s1 : Sl} {ho : HO} (e : ρ[i]? = some s0) (k0 : s0.isOwn) (ev : σ[i]? = some (some (.ref p))) (mb : Mb ho)
    (r : Goes A A H (upd H p ho) → ¬ W.B p → A p → SlR K W A (upd H p ho) (some (.ref p)) s1) :
    Cor K W0 A0 H0 W A (upd H p ho) σ (ρ.set i s1) gσ gρ := by
  have hi := (List.getElem?_eq_some_iff.mp e).1
  have eA : (ρ ++ gρ)[i]? = some s0 := by rw [List.getElem?_append_left hi]; exact e
  have eS : (σ ++ gσ)[i]? = some (some (.ref p)) := by rw [List.getElem?_append_left (by rw [c.lg]; exact hi)]; exact ev
  obtain ⟨v, ev', q0⟩ := c.env.at_ _ _ eA
  rw [eS] at ev'
  cases ev'
  obtain ⟨h0, e2, mb0, nB, aP⟩ := own_here q0 k0
  have n0 := c.new i p s0 e k0 ev
  have g : Goes A A H (upd H p ho) := fun b o eb _ nb => ⟨(upd_ne fun (z : b = p) => nb (by rw [z]; exact aP)).trans eb, nb⟩
  refine ⟨c.wl, c.a0, ⟨c.bs.ba, fun a z => ?_, W.own H p h0 ho c.bs.inv e2 mb0 mb nB⟩, ⟨fun b o eb t nb => ?_, fun b hb => ?_⟩, ?_, by rw [List.length_set, c.lg], fun j q t f1 f0 f2 => ?_⟩
  · by_cases h : a = p
    · subst h
      exact ⟨_, upd_same, mb.nt⟩
    · obtain ⟨o, e1, t1⟩ := c.bs.dom a z
      exact ⟨o, (upd_ne h).trans e1, t1⟩
  · rw [upd_ne (ne_nob eb t n0)]
    exact c.fr.1 b o eb t nb
  · by_cases h : b = p
    · subst h
      exact ⟨_, upd_same, mb.nt⟩
    · obtain ⟨o, e1, t1⟩ := c.fr.2 b hb
      exact ⟨o, (upd_ne h).trans e1, t1⟩
  · rw [set_app hi]
    refine ⟨by rw [List.length_set]; exact c.env.len, fun j s ej => ?_, fun j k q t s ne f1 f0 f2 f3 f4 f5 => ?_⟩
    · rcases get_set ej with ⟨rfl, rfl, _⟩ | ⟨nj, ej⟩
      · exact ⟨_, eS, r g nB aP⟩
      · obtain ⟨w, ew, q⟩ := c.env.at_ j s ej
        refine ⟨w, ew, ?_⟩
        have far : s.foot → ∀ q' : Addr, w = some (.ref q') → q' ≠ p := fun hf q' e1 z => by
          subst z
          subst e1
          exact c.env.dis i j q' _ _ nj eA k0 ej hf eS ew
        cases s with
        | un => exact q
        | d x =>
          obtain ⟨u, e1, r1⟩ := q
          exact ⟨u, e1, r1.go g⟩
        | ml zs =>
          obtain ⟨q', ws, f1, f2, f3, f4, f5⟩ := q
          exact ⟨q', ws, f1, (upd_ne (far trivial q' f1)).trans f2, f3, f4, f5.go g⟩
        | bl zs =>
          obtain ⟨q', ws, f1, f2, f3⟩ := q
          exact ⟨q', ws, f1, ⟨(upd_ne (far trivial q' f1)).trans f2.1, f2.2⟩, f3.go g⟩
        | st => exact q
        | scr ns => exact q
        | raw u => exact q
        | mo o =>
          obtain ⟨q', ws, f1, f2, f3, f4, f5⟩ := q
          exact ⟨q', ws, f1, (upd_ne (far trivial q' f1)).trans f2, f3, f4, f5.go g⟩
        | bo o =>
          obtain ⟨q', ws, f1, f2, f3, f4⟩ := q
          exact ⟨q', ws, f1, (upd_ne (far trivial q' f1)).trans f2, f3, f4.go g⟩
    · rcases get_set f1 with ⟨rfl, z, _⟩ | ⟨n1, f1⟩
      · rcases get_set f2 with ⟨z2, _, _⟩ | ⟨n2, f2⟩
        · exact ne z2
        · exact c.env.dis i k q s0 s ne eA k0 f2 f3 f4 f5
      · rcases get_set f2 with ⟨rfl, z, _⟩ | ⟨n2, f2⟩
        · exact c.env.dis j i q t _ ne f1 f0 eA (own_foot k0) f4 f5
        · exact c.env.dis j k q t s ne f1 f0 f2 f3 f4 f5
  · rcases get_set f1 with ⟨rfl, z, _⟩ | ⟨nj, f1⟩
    · exact c.new i q s0 e k0 f2
    · exact c.new j q t f1 f0 f2
theorem Cor.mut {W0 W : Wld τ} {A0 A : Addr → Prop} {H0 H : Hp} {σ gσ : L2.St} {ρ gρ : List Sl} (c : Cor K W0 A0 H0 W A H σ ρ gσ gρ) {i : Nat} {p : Addr} {xs ys : List PyData} {us : List V} (e : ρ[i]? = some (.ml xs)) (ev : σ[i]? = some (some (.ref p))) (r : RpAll K A H us ys) :
    Cor K W0 A0 H0 W A (upd H p (.lst us)) σ (ρ.set i (.ml ys)) gσ gρ := c.mutO (s1 := .ml ys) e trivial ev (.lst us) fun g nB aP => ⟨p, us, rfl, upd_same, nB, aP, r.go g⟩
theorem Cor.own_at {W0 W : Wld τ} {A0 A : Addr → Prop} {H0 H : Hp} {σ gσ : L2.St} {ρ gρ : List Sl} (c : Cor K W0 A0 H0 W A H σ ρ gσ gρ) {i : Nat} {xs : List PyData} (e : ρ[i]? = some (.ml xs)) : ∃ p vs, σ[i]? = some (some (.ref p)) ∧ H p = some (.lst vs) ∧ ¬ W.B p ∧ RpAll K A H vs xs := by
  have hi := (List.getElem?_eq_some_iff.mp e).1
  obtain ⟨v, ev', p', vs, e1, e2, nB, aP, r0⟩ := (c.env.pre c.lg).at_ _ _ e
  subst e1
  exact ⟨p', vs, ev', e2, nB, r0⟩
/-- xs.append(e) -/
def dApp (i : Nat) (fe : TD) : TDS := fun dd R ρ => match (ρ[i]?).getD .un with
  | .ml xs => fe ρ (fun s => xs.length < sizeLine ∧ match s.dat with
    | some y => dd.nx (ρ.set i (.ml (xs ++ [y])))
    | none => False) R
  | _ => False
theorem own_iff {ρ : List Sl} {i : Nat} {P : List PyData → Prop} (h : (match (ρ[i]?).getD .un with
  | .ml xs => P xs
  | _ => False)) : ∃ xs, ρ[i]? = some (.ml xs) ∧ P xs := by
  cases e : ρ[i]? with
  | none =>
    rw [e] at h
    exact h.elim
  | some s =>
    rw [e] at h
    cases s with
    | ml xs => exact ⟨xs, rfl, h⟩
    | _ => exact h.elim
instance {i : Nat} {t : TE} {f : TD} [ht : RefE K τ E t f] : RefS K τ E (tDrop (tBM K "list" rAppend (tVar i) (tCons t tNil))) (dApp i f) := ⟨fun W A0 H0 D dd R H σ ρ gσ gρ b sr er ek h => by
  obtain ⟨W', A, c⟩ := sr
  obtain ⟨xs, e, q⟩ := own_iff (P := fun xs => f ρ (fun s => xs.length < sizeLine ∧ match s.dat with
    | some y => dd.nx (ρ.set i (.ml (xs ++ [y])))
    | none => False) R) h
  obtain ⟨p, vs, ev, ep, nB, r0⟩ := c.own_at e
  refine ⟨.ref p, ev, .inl ⟨rfl, _, SqL.of ep⟩, ?_⟩
  refine ht.go W' A H σ ρ _ R _ (c.at_ ek) q fun v H1 s f1 i1 r1 q1 => ?_
  obtain ⟨hs, q1⟩ := q1
  obtain ⟨y, ey, q2⟩ := dat_iff (P := fun y => dd.nx (ρ.set i (.ml (xs ++ [y])))) q1
  have c1 := c.step f1 i1
  have r1' := r0.go (goes_fr c.bs.ba f1)
  refine ⟨p, vs, v, rfl, rfl, f1.1 _ _ ep nt_lst nB, by rw [r0.length]; exact hs, ?_⟩
  exact er.nx _ _ _ ⟨W', A, c1.mut e ev (r1'.append (.one (r1.dat c.bs ey)))⟩ q2⟩
/-- xs[k] = e -/
def dSetI (i : Nat) (fe fk : TD) : TDS := fun dd R ρ => fe ρ (fun s => match (ρ[i]?).getD .un with
  | .ml xs => fk ρ (fun u => match s.dat, u with
    | some y, .d (.int k) => (match ixN xs.length k with
      | some j => dd.nx (ρ.set i (.ml (xs.set j y)))
      | none => False)
    | _, _ => False) R
  | _ => False) R
instance {i : Nat} {t tk : TE} {f fk : TD} [ht : RefE K τ E t f] [hk : RefE K τ E tk fk] : RefS K τ E (tAsg t (gSub (tVar i) tk rSetL)) (dSetI i f fk) := ⟨fun W A0 H0 D dd R H σ ρ gσ gρ b sr er ek h => by
  obtain ⟨W', A, c⟩ := sr
  refine ht.go W' A H σ ρ _ R _ (c.at_ ek) h fun v H1 s f1 i1 r1 q1 => ?_
  obtain ⟨xs, e, q⟩ := own_iff (P := fun xs => fk ρ (fun u => match s.dat, u with
    | some y, .d (.int k) => (match ixN xs.length k with
      | some j => dd.nx (ρ.set i (.ml (xs.set j y)))
      | none => False)
    | _, _ => False) R) q1
  have c1 := c.step f1 i1
  obtain ⟨p, vs, ev, ep, nB, r0⟩ := c1.own_at e
  refine ⟨.ref p, ev, ?_⟩
  refine hk.go W' A H1 σ ρ _ R _ (c1.at_ ek) q fun u H2 s2 f2 i2 r2 q2 => ?_
  have c2 := c1.step f2 i2
  split at q2
  · rename_i y k ey
    split at q2
    · rename_i j ej
      have ry := ((r1.early (Fr.refl H)).fr c.bs f2).dat c.bs ey
      exact ⟨p, vs, k, j, rfl, r2.flat (u := .int k) rfl, f2.1 _ _ ep nt_lst nB, by rw [r0.length]; exact ej, er.nx _ _ _ ⟨W', A, c2.mut e ev ((r0.go (goes_fr c1.bs.ba f2)).set ry j)⟩ q2⟩
    · exact q2.elim
  · exact q2.elim⟩
/-- x += e of ints -/
def dAug (i : Nat) (fe : TD) (g : Int → Int → Int) : TDS := fun dd R ρ => match (ρ[i]?).getD .un with
  | .d (.int m) => fe ρ (fun s => match s with
    | .d (.int n) => dd.nx (ρ.set i (.d (.int (g m n))))
    | _ => False) R
  | _ => False
instance {i : Nat} {t : TE} {f : TD} {g : Int → Int → Int} [ht : RefE K τ E t f] : RefS K τ E (tAug i t (ipI g)) (dAug i f g) := ⟨fun W A0 H0 D dd R H σ ρ gσ gρ b sr er ek h => by
  obtain ⟨W', A, c⟩ := sr
  unfold dAug at h
  split at h
  · rename_i m em
    have e : ρ[i]? = some (.d (.int m)) := by
      cases z : ρ[i]? with
      | none =>
        rw [z] at em
        cases em
      | some s =>
        rw [z] at em
        exact congrArg some em
    obtain ⟨v, ev, u, e1, r⟩ := (c.env.pre c.lg).at_ _ _ e
    subst e1
    cases r
    refine ⟨_, ev, ?_⟩
    refine ht.go W' A H σ ρ _ R _ (c.at_ ek) h fun v H1 s f1 i1 r1 q1 => ?_
    split at q1
    · rename_i n
      obtain rfl := r1.flat (u := .int n) rfl
      exact ⟨m, n, rfl, rfl, er.nx _ _ _ ⟨W', A, (c.step f1 i1).set (s := .d (.int (g m n))) trivial ⟨_, rfl, .int _⟩⟩ q1⟩
    · exact q1.elim
  · exact h.elim⟩
/-! ### while -/
def dWhile (c : TDT) (g : TDS) : TDS := fun dd R ρ => ∃ I : Nat → List Sl → Prop, (∃ m, I m ρ) ∧ ∀ m ρ, I m ρ → c ρ (fun b => match b with
  | true => g { dd with nx := fun ρ' => ∃ m', m' < m ∧ I m' ρ', ct := fun ρ' => ∃ m', m' < m ∧ I m' ρ', bk := dd.nx } R ρ
  | false => dd.nx ρ) R
instance {c : TT} {t : TS} {fc : TDT} {g : TDS} [hc : RefT K τ E c fc] [ht : RefS K τ E t g] : RefS K τ E (tWhile c t) (dWhile fc g) := ⟨fun W A0 H0 D dd R H σ ρ gσ gρ b sr er ek h => by
  obtain ⟨I, ⟨m, im⟩, h⟩ := h
  refine ⟨fun m σ H => ∃ ρ, SR K W A0 H0 H σ ρ gσ gρ ∧ I m ρ, ⟨m, ρ, sr, im⟩, fun m σ H ⟨ρ, sr, im⟩ => ?_⟩
  obtain ⟨W', A, co⟩ := sr
  refine hc.go W' A H σ ρ _ R _ (co.at_ ek) (h m ρ im) fun k H1 f1 i1 q => ?_
  have s1 : SR K W A0 H0 H1 σ ρ gσ gρ := ⟨W', A, co.step f1 i1⟩
  cases k with
  | true =>
    refine iteT ⟨fun σ' H' => ∃ ρ', SR K W A0 H0 H' σ' ρ' gσ gρ ∧ ∃ m', m' < m ∧ I m' ρ', fun σ' H' ⟨ρ', s', m', l, z⟩ => ⟨m', l, ρ', s', z⟩, ?_⟩
    exact ht.go W A0 H0 _ { dd with nx := fun ρ' => ∃ m', m' < m ∧ I m' ρ', ct := fun ρ' => ∃ m', m' < m ∧ I m' ρ', bk := dd.nx } R H1 σ ρ gσ gρ b s1 ⟨fun H2 σ2 ρ2 s2 z => ⟨ρ2, s2, z⟩, er.rt, fun H2 σ2 ρ2 s2 z => er.nx H2 σ2 ρ2 s2 z, fun H2 σ2 ρ2 s2 z => ⟨ρ2, s2, z⟩⟩ ek q
  | false => exact iteF (er.nx H1 σ ρ s1 q)⟩
end
end Dl

namespace Dl
open PySem PySem.Spec PyProof.Rows L2
section
variable {K : PySem.W.Frag} {E : XK}
/-! ### what a def promises, by data -/
abbrev SpD := List Sl → (Sl → Prop) → (Er → Prop) → Prop
/-- what may be handed in -/
def Sl.arg : Sl → Prop
  | .un => False
  | .ml _ => False
  | .mo _ => False
  | _ => True
def cv : Bool → Sl → Sl
  | true, .d (.list xs) => .bl xs
  | true, .ml xs => .bl xs
  | false, .ml xs => .d (.list xs)
  | _, .mo o => .bo o
  | _, s => s
def cvs : List Bool → List Sl → List Sl
  | _, [] => []
  | [], s :: ss => cv false s :: cvs [] ss
  | m :: ms, s :: ss => cv m s :: cvs ms ss
/-- by data: in some world that stands; ms tells which lists are but read -/
def spD (K : PySem.W.Frag) (ms : List Bool) (sp : SpD) : Sp := fun vs H Q E => ∃ (τ : List (Addr × Str)) (W : Wld τ) (A : Addr → Prop) (ss : List Sl) (Qd : Sl → Prop) (R : Er → Prop), Bs W A H ∧ VlsR K W A H H vs ss ∧ (∀ s ∈ ss, s.arg) ∧ sp ss Qd R ∧ Want K W A H Qd Q ∧ ErK K W A E H R
theorem VlR.cv {W : Wld τ} {A : Addr → Prop} {H0 H : Hp} {v : V} {s : Sl} (m : Bool) (b : Bs W A H0) (h : VlR K W A H0 H v s) : VlR K W A H H v (Dl.cv m s) ∧ (Dl.cv m s).arg := by
  cases s with
  | un => exact h.elim
  | d x =>
    cases m with
    | false => exact ⟨h, trivial⟩
    | true =>
      cases x with
      | list xs =>
        obtain ⟨p, vs, rfl, sq, r⟩ := h.seq b rfl
        exact ⟨⟨p, vs, rfl, sq, r⟩, trivial⟩
      | _ => exact ⟨h, trivial⟩
  | ml xs =>
    cases m with
    | false => exact ⟨h.dat b rfl, trivial⟩
    | true =>
      obtain ⟨p, vs, rfl, sq, r⟩ := h.seq b rfl
      exact ⟨⟨p, vs, rfl, sq, r⟩, trivial⟩
  | bl xs => cases m <;> exact ⟨h, trivial⟩
  | st => cases m <;> exact ⟨h, trivial⟩
  | scr ns => cases m <;> exact ⟨h, trivial⟩
  | raw u => cases m <;> exact ⟨h, trivial⟩
  | mo o =>
    obtain ⟨p, ho, e, n, e1, r⟩ := h
    cases m <;> exact ⟨⟨p, ho, e, e1, b.nB n, r.go (goes_less fun a z => .inl z)⟩, trivial⟩
  | bo o => cases m <;> exact ⟨h, trivial⟩
theorem VlsR.cvs {W : Wld τ} {A : Addr → Prop} {H0 H : Hp} {vs : List V} {ss : List Sl} (b : Bs W A H0) (h : VlsR K W A H0 H vs ss) : ∀ ms : List Bool, VlsR K W A H H vs (Dl.cvs ms ss) ∧ ∀ s ∈ Dl.cvs ms ss, s.arg := by
  induction h with
  | nil =>
    intro ms
    cases ms <;> exact ⟨.nil, fun _ h => by cases h⟩
  | @cons v vs s ss h1 h2 ih =>
    intro ms
    cases ms with
    | nil =>
      obtain ⟨a, c⟩ := h1.cv false b
      obtain ⟨a', c'⟩ := ih []
      exact ⟨.cons a a', fun s hs => by
        rcases List.mem_cons.mp hs with rfl | hs
        · exact c
        · exact c' s hs⟩
    | cons m ms =>
      obtain ⟨a, c⟩ := h1.cv m b
      obtain ⟨a', c'⟩ := ih ms
      exact ⟨.cons a a', fun s hs => by
        rcases List.mem_cons.mp hs with rfl | hs
        · exact c
        · exact c' s hs⟩
def dCall (ms : List Bool) (sp : SpD) (fa : TDA) : TD := fun ρ Qd R => fa ρ (fun ss => sp (cvs ms ss) Qd R) R
def dCall0 (ms : List Bool) (sp : SpD) (fa : TDA) : TD := fun ρ Qd R => fa ρ (fun ss => sp (cvs ms ss) Qd fun _ => False) R
instance {ms : List Bool} {sp : SpD} {t : TA} {fa : TDA} [ha : RefA K τ E t fa] : RefE K τ E (tCall (spD K ms sp) [] E0 t) (dCall0 ms sp fa) := ⟨fun W A H σ ρ Qd R Q a h w => by
  refine ha.go W A H σ ρ _ R _ a h fun vs H1 ss f1 i1 r1 q => ?_
  obtain ⟨r2, ar⟩ := r1.cvs a.bs ms
  rw [List.append_nil]
  exact ⟨τ, W, A, _, Qd, _, a.bs.fr f1 i1, r2, ar, q, w.back f1, fun er x H' f i z r => r.elim⟩⟩
instance (priority := low) {ms : List Bool} {sp : SpD} {t : TA} {fa : TDA} [ha : RefA K τ E t fa] : RefE K τ E (tCall (spD K ms sp) [] E t) (dCall ms sp fa) := ⟨fun W A H σ ρ Qd R Q a h w => by
  refine ha.go W A H σ ρ _ R _ a h fun vs H1 ss f1 i1 r1 q => ?_
  obtain ⟨r2, ar⟩ := r1.cvs a.bs ms
  rw [List.append_nil]
  exact ⟨τ, W, A, _, Qd, R, a.bs.fr f1 i1, r2, ar, q, w.back f1, (a.fr f1 i1).er⟩⟩
/-! ### a def, by its body -/
def startD (N : List Str) (ss : List Sl) : List Sl := ss ++ List.replicate (N.length - ss.length) .un
/-- what is left to be shown of a def's body -/
def Reads (K : PySem.W.Frag) (E : XK) (t : TS) (N : List Str) (sp : SpD) : Prop := ∃ g, (∀ τ, RefS K τ E t g) ∧ ∀ ss Qd R, sp ss Qd R → g { nx := fun _ => Qd (.d .none), rt := Qd } R (startD N ss)
theorem env_start {W : Wld τ} {A : Addr → Prop} {H : Hp} {N : List Str} {vs : List V} {ss : List Sl} (r : VlsR K W A H H vs ss) (ar : ∀ s ∈ ss, s.arg) : EnvR K W A H (L2.start N vs) (startD N ss) := by
  have hl := r.length
  have noml : ∀ {i : Nat} {s : Sl}, (startD N ss)[i]? = some s → s.isOwn → False := fun {i s} e k => by
    have := List.mem_of_getElem? e
    rcases List.mem_append.mp this with z | z
    · have := ar _ z
      cases s <;> first | exact this | exact k
    · rw [(List.mem_replicate.mp z).2] at k
      exact k
  refine ⟨?_, fun i s e => ?_, fun i j p t s ne e1 e0 _ _ _ _ => noml e1 e0⟩
  · unfold L2.start startD
    rw [List.length_append, List.length_append, List.length_map, List.length_replicate, List.length_replicate, hl]
  · unfold startD at e
    unfold L2.start
    by_cases hi : i < ss.length
    · rw [List.getElem?_append_left hi] at e
      have hi' : i < (vs.map some).length := by rw [List.length_map, hl]; exact hi
      rw [List.getElem?_append_left hi', List.getElem?_map]
      have get : ∀ {vs : List V} {ss : List Sl} {i : Nat} {s : Sl}, VlsR K W A H H vs ss → ss[i]? = some s → ∃ v, vs[i]? = some v ∧ VlR K W A H H v s := by
        intro vs ss i s r
        induction r generalizing i with
        | nil => intro e; simp at e
        | cons a _ ih =>
          intro e
          cases i with
          | zero => simp at e; subst e; exact ⟨_, rfl, a⟩
          | succ i => simp at e; obtain ⟨v, h1, h2⟩ := ih e; exact ⟨v, by simpa using h1, h2⟩
      obtain ⟨v, ev, rv⟩ := get r e
      rw [ev]
      refine ⟨some v, rfl, ?_⟩
      have hs := ar s (List.mem_of_getElem? e)
      cases s with
      | un => exact hs.elim
      | ml xs => exact hs.elim
      | d x => exact ⟨v, rfl, rv⟩
      | bl xs =>
        obtain ⟨p, us, rfl, q⟩ := rv
        exact ⟨p, us, rfl, q⟩
      | st =>
        obtain ⟨z, rfl, q⟩ := rv
        exact ⟨z, rfl, q⟩
      | scr ns =>
        obtain ⟨z, rfl, q⟩ := rv
        exact ⟨z, rfl, q⟩
      | raw u =>
        obtain rfl := rv
        exact rfl
      | mo o => exact hs.elim
      | bo o =>
        obtain ⟨p, us, rfl, q⟩ := rv
        exact ⟨p, us, rfl, q⟩
    · rw [List.getElem?_append_right (by omega)] at e
      have hi2 : i - ss.length < N.length - ss.length := by
        have := (List.getElem?_eq_some_iff.mp e).1
        rwa [List.length_replicate] at this
      rw [List.getElem?_replicate, if_pos hi2] at e
      cases e
      refine ⟨none, ?_, trivial⟩
      rw [List.getElem?_append_right (by rw [List.length_map, hl]; omega), List.length_map, hl, List.getElem?_replicate, if_pos hi2]
theorem Reads.run {t : TS} {N : List Str} {sp : SpD} {ms : List Bool} (h : Reads K E t N sp) {vs : List V} {H : Hp} {Q : VK} (hs : spD K ms sp vs H Q E) : t { nx := fun _ H' => Q .non H', rt := Q } (L2.start N vs) H := by
  obtain ⟨g, hg, h⟩ := h
  obtain ⟨τ, W, A, ss, Qd, R, b, r, ar, q, w, ek⟩ := hs
  have env := env_start (N := N) r ar
  refine (hg τ).go W A H _ { nx := fun _ => Qd (.d .none), rt := Qd } R H _ _ [] [] b ⟨W, A, WLe.refl W H, fun _ z => z, b, Fr.refl H, by rw [List.append_nil, List.append_nil]; exact env, env.len, fun i p t e k _ => ?_⟩ ⟨fun H' σ ρ sr z => ?_, fun v H' s f i r z => w v H' s f i r z, fun H' σ ρ sr z => False.elim z, fun H' σ ρ sr z => False.elim z⟩ ek (h ss Qd R q)
  · have := List.mem_of_getElem? e
    rcases List.mem_append.mp this with z | z
    · have := ar _ z
      cases t <;> first | exact this.elim | exact k.elim
    · rw [(List.mem_replicate.mp z).2] at k
      exact k.elim
  · obtain ⟨W', A', c⟩ := sr
    exact w .non H' (.d .none) c.fr (c.wl.inv _ c.bs.inv) Rp.non z
theorem VlsR.len_sp {ms : List Bool} {sp : SpD} {n : Nat} (hl : ∀ ss Qd R, sp ss Qd R → ss.length = n) : ∀ vs H Q E, spD K ms sp vs H Q E → vs.length = n := fun vs H Q E ⟨τ, W, A, ss, Qd, R, b, r, ar, q, w, ek⟩ => by
  rw [r.length]
  exact hl ss Qd R q
end
section
variable {P : Program} {w : World} {K : PySem.W.Frag} {mg : Str → Option Value} {base : Heap}
theorem okD {x : Str} {st : Stmt} {f : Addr} {fd : FuncData} {N ps : List Str} {k : Nat} {ms : List Bool} {sp : SpD} (F : Fun K x x st f fd) (S : FnScope N ps (defScope st)) (hl : ∀ ss Qd R, sp ss Qd R → ss.length = ps.length)
    (body : ∀ (cdv : Value) (A : Around) (outer : List Env) (s : Shared) (H : Hp) (E : XK), Room k (A.deeper (envOfC x (defScope st) s.heap.objs.size f cdv)) → ∃ t, PSs (cxOf CX0 P w K mg base N x (defScope st) f cdv A outer s H E).nox (defBody st) t ∧ Reads K E t N sp) :
    FnOk P w K mg base CX0 (k + 1) f fd ps (spD K ms sp) :=
  F.ok S (VlsR.len_sp hl) fun cdv A outer s H vs Q E hr h => by
    obtain ⟨t, h1, h2⟩ := body cdv A outer s H E hr
    exact ⟨t, h1, h2.run h⟩
theorem okX {x : Str} {st : Stmt} {f : Addr} {fd : FuncData} {N ps : List Str} {k : Nat} {ms : List Bool} {sp : SpD} (F : Fun K x x st f fd) (S : FnScope N ps (defScope st)) (hl : ∀ ss Qd R, sp ss Qd R → ss.length = ps.length)
    (body : ∀ (cdv : Value) (A : Around) (outer : List Env) (s : Shared) (H : Hp) (E : XK), Room k (A.deeper (envOfC x (defScope st) s.heap.objs.size f cdv)) → ∃ t, PSs (cxOf (L2.CX P w) P w K mg base N x (defScope st) f cdv A outer s H E) (defBody st) t ∧ Reads K E t N sp) :
    FnOk P w K mg base (L2.CX P w) (k + 1) f fd ps (spD K ms sp) :=
  F.okX S (VlsR.len_sp hl) fun cdv A outer s H vs Q E hr h => by
    obtain ⟨t, h1, h2⟩ := body cdv A outer s H E hr
    exact ⟨t, h1, h2.run h⟩
/-- a def without raises keeps its promise where it is called as one with them -/
theorem spD_imp {ms : List Bool} {sp sp' : SpD} (h : ∀ ss Qd R, sp' ss Qd R → sp ss Qd R) : ∀ vs H Q E, spD K ms sp' vs H Q E → spD K ms sp vs H Q E := fun vs H Q E ⟨τ, W, A, ss, Qd, R, b, r, ar, q, w, ek⟩ => ⟨τ, W, A, ss, Qd, R, b, r, ar, h ss Qd R q, w, ek⟩
end
/-! ### raise -/
def tRaise (C : Addr) (E : XK) : TS := fun _ _ H => E (.ref C) none H
def dRaise (C : Addr) : TDS := fun _ R _ => R (C, [])
theorem ps_raiseD {X : Cx} {E : XK} {C : Addr} {e : Expr} {pos : Pos} (hc : X.calm = true) (tk : Takes X (fun cls d _ H => E cls d H)) (he : PMk X e (fun _ H Q => Q (.ref C) none H)) : PS X (.Raise (some e) none pos) (tRaise C E) := ps_raise hc tk he
instance {K : PySem.W.Frag} {E : XK} {C : Addr} : RefS K τ E (tRaise C E) (dRaise C) := ⟨fun W A0 H0 D dd R H σ ρ gσ gρ b sr er ek h => by
  obtain ⟨W', A, c⟩ := sr
  exact ek (C, []) none H c.fr (c.wl.inv _ c.bs.inv) (.inl ⟨rfl, rfl⟩) h⟩
/-! ### a test by truth -/
def tTru (K : PySem.W.Frag) (t : TE) : TT := fun σ H Q => t σ H fun x H' => ∃ k, TruV K x H' k ∧ Q k H'
theorem pt_tru {X : Cx} {a : Expr} {ta : TE} (ha : PE X a ta) (he : ∀ whole, isTrue a X.env whole = (do let v ← whole; standAt a.pos; holding [v] (truthy v))) : PT X a (tTru X.K ta) := pt_truth ha he
def truD : Sl → Option Bool
  | .d .none => some false
  | .d (.bool b) => some b
  | .d (.int i) => some (i != 0)
  | .d (.list xs) => some !xs.isEmpty
  | .d (.tuple xs) => some !xs.isEmpty
  | .ml xs => some !xs.isEmpty
  | .bl xs => some !xs.isEmpty
  | _ => none
def dTru (f : TD) : TDT := fun ρ Qd R => f ρ (fun s => match truD s with
  | some b => Qd b
  | none => False) R
theorem RpAll.empty {K : PySem.W.Frag} {A : Addr → Prop} {H : Hp} {vs : List V} {ds : List PyData} (h : RpAll K A H vs ds) : vs.isEmpty = ds.isEmpty := by
  cases h <;> rfl
instance {K : PySem.W.Frag} {E : XK} {t : TE} {f : TD} [ht : RefE K τ E t f] : RefT K τ E (tTru K t) (dTru f) := ⟨fun W A H σ ρ Qd R Q a h w => by
  refine ht.go W A H σ ρ _ R _ a h fun v H1 s f1 i1 r1 q => ?_
  split at q
  · rename_i b eb
    refine ⟨b, ?_, w b H1 f1 i1 q⟩
    have sq : ∀ xs : List PyData, s.seq = some xs → b = (!xs.isEmpty) → TruV K v H1 b := fun xs e1 e2 => by
      obtain ⟨p, vs, rfl, sq, r⟩ := r1.seq a.bs e1
      exact .inl ⟨vs, sqLA_sq sq, by rw [e2, r.empty]⟩
    cases s with
    | d x =>
      cases x with
      | none =>
        obtain rfl := r1.flat (u := .non) rfl
        exact (Option.some.inj eb).symm
      | bool c =>
        obtain rfl := r1.flat (u := .bl c) rfl
        exact (Option.some.inj eb).symm
      | int c =>
        obtain rfl := r1.flat (u := .int c) rfl
        exact (Option.some.inj eb).symm
      | list xs => exact sq xs rfl (Option.some.inj eb).symm
      | tuple xs =>
        obtain ⟨p, vs, rfl, s2, r⟩ := Rp.tup_ r1
        exact .inr (.inl ⟨vs, s2, by rw [← Option.some.inj eb, r.empty]⟩)
      | str x => cases eb
      | dict x => cases eb
    | ml xs => exact sq xs rfl (Option.some.inj eb).symm
    | bl xs => exact sq xs rfl (Option.some.inj eb).symm
    | _ => cases eb
  · exact q.elim⟩
end Dl

namespace Dl
open PySem PySem.Spec PyProof.Rows L2
section
variable {K : PySem.W.Frag} {E : XK}
/-! ### operators of several kinds -/
def rStrC : R2 := fun x y H Q => ∃ i j, x = .str i ∧ y = .str j ∧ i.length + j.length ≤ sizeLine ∧ Q (.str (i ++ j)) H
def rAddX (K : PySem.W.Frag) : R2 := fun x y H Q => rI0 (fun i j => .int (i + j)) x y H Q ∨ rCatA K x y H Q ∨ rCat x y H Q ∨ rStrC x y H Q
theorem op_addX {X : Cx} : OpR X (binaryOp .Add) (rAddX X.K) := op_add.or (op_catA.or (op_cat.or op_add_str))
def fAddX : Sl → Sl → (Sl → Prop) → Prop := fun s u Qd => match s, u with
  | .d (.int i), .d (.int j) => Qd (.d (.int (i + j)))
  | .d (.tuple xs), .d (.tuple ys) => xs.length + ys.length ≤ sizeLine ∧ Qd (.d (.tuple (xs ++ ys)))
  | .d (.str a), .d (.str b) => a.length + b.length ≤ sizeLine ∧ Qd (.d (.str (a ++ b)))
  | s, u => fCatL s u Qd
instance : Ref2 K (rAddX K) fAddX := ⟨fun W A H0 H x y s u Qd Q b f i rx ry h w => by
  unfold fAddX at h
  split at h
  · exact .inl ((inferInstance : Ref2 K (rI0 fun i j => .int (i + j)) _).go W A H0 H x y _ _ Qd Q b f i rx ry h w)
  · exact .inr (.inl ((inferInstance : Ref2 K (rCatA K) _).go W A H0 H x y _ _ Qd Q b f i rx ry h w))
  · rename_i a c
    exact .inr (.inr (.inr ⟨a, c, rx.flat (u := .str a) rfl, ry.flat (u := .str c) rfl, h.1, w.here i _ h.2⟩))
  · exact .inr (.inr (.inl ((inferInstance : Ref2 K rCat _).go W A H0 H x y _ _ Qd Q b f i rx ry h w)))⟩
def rMulX (K : PySem.W.Frag) : R2 := fun x y H Q => rI CMul (fun i j => .int (i * j)) x y H Q ∨ rRep x y H Q
theorem op_mulX {X : Cx} : OpR X (binaryOp .Mult) (rMulX X.K) := op_mul.or op_rep
def fMulX : Sl → Sl → (Sl → Prop) → Prop := fun s u Qd => match s, u with
  | .d (.int i), .d (.int j) => CMul i j ∧ Qd (.d (.int (i * j)))
  | s, u => fRep s u Qd
instance : Ref2 K (rMulX K) fMulX := ⟨fun W A H0 H x y s u Qd Q b f i rx ry h w => by
  unfold fMulX at h
  split at h
  · exact .inl ((inferInstance : Ref2 K (rI CMul fun i j => .int (i * j)) _).go W A H0 H x y _ _ Qd Q b f i rx ry h w)
  · exact .inr ((inferInstance : Ref2 K rRep _).go W A H0 H x y _ _ Qd Q b f i rx ry h w)⟩
def fIx : Sl → Sl → (Sl → Prop) → Prop := fun s u Qd => match s with
  | .d (.tuple xs) => fIxT (.d (.tuple xs)) u Qd
  | s => fIxL s u Qd
instance : Ref2 K (rIx K) fIx := ⟨fun W A H0 H x y s u Qd Q b f i rx ry h w => by
  unfold fIx at h
  split at h
  · exact .inr (.inl ((inferInstance : Ref2 K (rIxT K) _).go W A H0 H x y _ _ Qd Q b f i rx ry h w))
  · exact .inl ((inferInstance : Ref2 K (rIxL K) _).go W A H0 H x y _ _ Qd Q b f i rx ry h w)⟩
def rSlX (K : PySem.W.Frag) : V → Option Int → Option Int → Hp → VK → Prop := fun x lo hi H Q => rSlA K x lo hi H Q ∨ rSlL K x lo hi H Q
theorem sl_any {X : Cx} : L2.SlR X (rSlX X.K) := sl_tupA.or sl_list
def fSlX : Sl → Option Int → Option Int → (Sl → Prop) → Prop := fun s lo hi Qd => match s with
  | .d (.tuple xs) => Qd (.d (.tuple (cutD xs lo hi)))
  | s => fSlL s lo hi Qd
instance : RefSl K (rSlX K) fSlX := ⟨fun W A H0 H x s lo hi Qd Q b f i rx h w => by
  unfold fSlX at h
  split at h
  · exact .inl ((inferInstance : RefSl K (rSlA K) _).go W A H0 H x _ lo hi Qd Q b f i rx h w)
  · exact .inr ((inferInstance : RefSl K (rSlL K) _).go W A H0 H x _ lo hi Qd Q b f i rx h w)⟩
/-! ### the names of a comprehension -/
class MemO (i : Nat) (own : List (Str × Nat)) : Prop where
  h : i ∈ own.map (·.2)
instance {x : Str} {i : Nat} {own : List (Str × Nat)} : MemO i ((x, i) :: own) := ⟨List.mem_cons_self⟩
instance (priority := low) {p : Str × Nat} {i : Nat} {own : List (Str × Nat)} [h : MemO i own] : MemO i (p :: own) := ⟨List.mem_cons_of_mem _ h.h⟩
instance {own : List (Str × Nat)} : Inc [] (own.map (·.2)) := ⟨fun _ h => by cases h⟩
instance {i : Nat} {own : List (Str × Nat)} [h : MemO i own] : Inc [i] (own.map (·.2)) := ⟨fun j hj => by rw [List.mem_singleton.mp hj]; exact h.h⟩
instance {a b : List Nat} {own : List (Str × Nat)} [ha : Inc a (own.map (·.2))] [hb : Inc b (own.map (·.2))] : Inc (a ++ b) (own.map (·.2)) := ⟨fun j hj => (List.mem_append.mp hj).elim (ha.h j) (hb.h j)⟩
/-! ### comprehensions and loops by what a turn tells -/
/-- one turn of a comprehension, to N -/
def lcStep (fg : FG) (ft : TDT) (fe : TD) (ρ : List Sl) (R : Er → Prop) (d : PyData) (acc : List PyData) (N : List PyData → Prop) : Prop := fg d ρ fun ρ' => ft ρ' (fun b => match b with
    | true => fe ρ' (fun s => acc.length < sizeLine ∧ match s.dat with
      | some y => N (acc ++ [y])
      | none => False) R
    | false => N acc) R
theorem lcD_cons {fg : FG} {ft : TDT} {fe : TD} {ρ : List Sl} {R : Er → Prop} {Qd : List PyData → Prop} {d : PyData} {r acc : List PyData} (h : lcStep fg ft fe ρ R d acc (lcD fg ft fe ρ R Qd r)) : lcD fg ft fe ρ R Qd (d :: r) acc := h
theorem line_1000 {n : Nat} (h : n < 100000) : n < sizeLine := by rw [sizeLine_eq]; omega
/-- what each turn tells, one of S -/
theorem lcD_all {fg : FG} {ft : TDT} {fe : TD} {ρ : List Sl} {R : Er → Prop} {Qd : List PyData → Prop} (S : PyData → PyData → Prop)
    (step : ∀ d acc N, acc.length < sizeLine → (∀ y, S d y → N (acc ++ [y])) → lcStep fg ft fe ρ R d acc N) : ∀ (ds acc : List PyData), acc.length + ds.length ≤ 100000 → (∀ ys, Paired S ds ys → Qd (acc ++ ys)) → lcD fg ft fe ρ R Qd ds acc
  | [], acc, _, h => by
    have := h [] .nil
    rw [List.append_nil] at this
    exact this
  | d :: r, acc, hl, h => by
    rw [List.length_cons] at hl
    refine lcD_cons (step d acc _ (line_1000 (by omega)) fun y sy => ?_)
    refine lcD_all S step r (acc ++ [y]) (by rw [List.length_append, List.length_singleton]; omega) fun ys hy => ?_
    have := h (y :: ys) (.cons sy hy)
    rw [List.append_assoc]
    exact this
theorem lcD_map {fg : FG} {ft : TDT} {fe : TD} {ρ : List Sl} {R : Er → Prop} {Qd : List PyData → Prop} (g : PyData → PyData) : ∀ (ds acc : List PyData),
    (∀ d ∈ ds, ∀ acc N, acc.length < sizeLine → N (acc ++ [g d]) → lcStep fg ft fe ρ R d acc N) → acc.length + ds.length ≤ 100000 → Qd (acc ++ ds.map g) → lcD fg ft fe ρ R Qd ds acc
  | [], acc, _, _, h => by
    rw [List.map_nil, List.append_nil] at h
    exact h
  | d :: r, acc, step, hl, h => by
    rw [List.length_cons] at hl
    refine lcD_cons (step d List.mem_cons_self acc _ (line_1000 (by omega)) ?_)
    refine lcD_map g r (acc ++ [g d]) (fun e he => step e (List.mem_cons_of_mem _ he)) (by rw [List.length_append, List.length_singleton]; omega) ?_
    rw [List.append_assoc]
    exact h
theorem lcD_filter {fg : FG} {ft : TDT} {fe : TD} {ρ : List Sl} {R : Er → Prop} {Qd : List PyData → Prop} (p : PyData → Bool) (g : PyData → PyData) : ∀ (ds acc : List PyData),
    (∀ d ∈ ds, ∀ acc N, acc.length < sizeLine → (p d = true → N (acc ++ [g d])) → (p d = false → N acc) → lcStep fg ft fe ρ R d acc N) → acc.length + ds.length ≤ 100000 → Qd (acc ++ (ds.filter p).map g) → lcD fg ft fe ρ R Qd ds acc
  | [], acc, _, _, h => by
    rw [List.filter_nil, List.map_nil, List.append_nil] at h
    exact h
  | d :: r, acc, step, hl, h => by
    rw [List.length_cons] at hl
    refine lcD_cons (step d List.mem_cons_self acc _ (line_1000 (by omega)) (fun e => ?_) fun e => ?_)
    · refine lcD_filter p g r (acc ++ [g d]) (fun e he => step e (List.mem_cons_of_mem _ he)) (by rw [List.length_append, List.length_singleton]; omega) ?_
      rw [List.filter_cons_of_pos e, List.map_cons] at h
      rw [List.append_assoc]
      exact h
    · refine lcD_filter p g r acc (fun e he => step e (List.mem_cons_of_mem _ he)) (by omega) ?_
      rw [List.filter_cons_of_neg (by rw [e]; exact Bool.false_ne_true)] at h
      exact h
/-- a for by an invariant -/
theorem forD_inv {fg : FG} {gb : TDS} {dd : DEnds} {R : Er → Prop} (ds : List PyData) (I : Nat → List Sl → Prop)
    (step : ∀ (i : Nat) (d : PyData) (ρ : List Sl) (N : List Sl → Prop), ds[i]? = some d → I i ρ → (∀ ρ', I (i + 1) ρ' → N ρ') → fg d ρ fun ρ' => gb { dd with nx := N, ct := N, bk := dd.nx } R ρ')
    (fin : ∀ ρ, I ds.length ρ → dd.nx ρ) : ∀ (n i : Nat), ds.length - i = n → i ≤ ds.length → ∀ ρ, I i ρ → forD fg gb dd R (ds.drop i) ρ
  | 0, i, h, hi, ρ, hI => by
    have e : i = ds.length := by omega
    subst e
    rw [List.drop_length]
    exact fin ρ hI
  | n + 1, i, h, hi, ρ, hI => by
    have hlt : i < ds.length := by omega
    rw [List.drop_eq_getElem_cons hlt]
    exact step i ds[i] ρ _ (List.getElem?_eq_getElem hlt) hI fun ρ' h' => forD_inv ds I step fin n (i + 1) (by omega) (by omega) ρ' h'
theorem forD_by {fg : FG} {gb : TDS} {dd : DEnds} {R : Er → Prop} {ds : List PyData} (I : Nat → List Sl → Prop) {ρ : List Sl} (h0 : I 0 ρ)
    (step : ∀ (i : Nat) (d : PyData) (ρ : List Sl) (N : List Sl → Prop), ds[i]? = some d → I i ρ → (∀ ρ', I (i + 1) ρ' → N ρ') → fg d ρ fun ρ' => gb { dd with nx := N, ct := N, bk := dd.nx } R ρ')
    (fin : ∀ ρ, I ds.length ρ → dd.nx ρ) : forD fg gb dd R ds ρ := forD_inv ds I step fin ds.length 0 rfl (Nat.zero_le _) ρ h0
end
end Dl

namespace Dl
open PySem PySem.Spec PyProof.Rows L2
section
open AutoSeq1 (wpAny_loadPart')
/-! ### enumerate over a tuple -/
abbrev oTupIt (l : Addr) : Obj := { cls := .type "tuple_iterator", data := .fields #[.ref l, .int 0 0] }
abbrev oEnum (j : Addr) : Obj := { cls := .type "enumerate", data := .fields #[.none, .bool false, .ref j, rawInt 0, .none, .none] }
theorem meets_enum_tup (l : Addr) (its : Array Value) (n : Nat) (dc : Option Addr) (sl : Array (Option Value)) :
    Meets (Builtin.«enumerate.__new__» ⟨[.type "enumerate", .ref l], []⟩) (fun _ R s => s.heap.get? l = some { cls := .type "tuple", dict := dc, data := .seq its n, slots := sl } ∧
      R (.ok (.ret (.ref (s.heap.push (oTupIt l)).objs.size))) { s with heap := (s.heap.push (oTupIt l)).push (oEnum s.heap.objs.size) }) :=
  .of_wp fun prog w A R s h => by
    obtain ⟨hp, g, d, tk, os⟩ := s
    obtain ⟨hl, h⟩ := h
    have hsub := sub_enumerate
    have hT : Heap.IsTuple (Shared.heap ⟨hp, g, d, tk, os⟩) l its := ⟨_, hl, rfl, n, rfl⟩
    wp_walk using wpAny_loadPart' hl
    refine wpAny_stack_any fun st => wpAny_pure ?_
    split
    · rename_i c _ _ _ _ _
      cases (c == Value.type "enumerate") <;> (wp_walk using wpAny_loadPart' hl, wpAny_pyIter_tuple hT; exact ⟨_, rfl, h⟩)
    · wp_walk using wpAny_loadPart' hl, wpAny_pyIter_tuple hT
      exact ⟨_, rfl, h⟩
end
theorem call_enum_tup {prog : Program} {w : World} {A : Around} {E : Value → Shared → Prop} {s : Shared} {l : Addr} {its : Array Value} {Q : Value → Shared → Prop} (hT : s.heap.IsTuple l its)
    (h : ∀ h', IsEnum h' (s.heap.objs.size + 1) s.heap.objs.size 0 .none → h'.IsTupleIter s.heap.objs.size l 0 → h'.objs.size = s.heap.objs.size + 2 → (∀ b o, s.heap.get? b = some o → h'.get? b = some o) → Q (.ref (s.heap.objs.size + 1)) { s with heap := h' }) :
    wpAny (model prog w) A (call (.type "enumerate") [.ref l]) Q E s := by
  obtain ⟨⟨c, dc, dt, sl⟩, hl, hc, n, hd⟩ := hT
  replace hc : c = .type "tuple" := hc
  replace hd : dt = .seq its n := hd
  subst hc hd
  refine callType_new F.called_enumerate (by decide) (F.typeCall_enumerate_1 _) (F.newCall_enumerate_1 _) (fun obj => F.args_object_init_2 obj _) F.entry_enumerate_new (meets_enum_tup l its n dc sl) ⟨hl, ?_⟩
  have hz : (s.heap.push (oTupIt l)).objs.size = s.heap.objs.size + 1 := Heap.size_push ..
  show _ ∧ _
  rw [hz]
  have he : IsEnum ((s.heap.push (oTupIt l)).push (oEnum s.heap.objs.size)) (s.heap.objs.size + 1) s.heap.objs.size 0 .none := by
    have z := Heap.get?_push_size (s.heap.push (oTupIt l)) (o := oEnum s.heap.objs.size) rfl
    rw [hz] at z
    exact z
  exact ⟨⟨_, he, rfl⟩, h _ he ⟨_, Heap.get?_push_of_some _ (Heap.get?_push_size _ rfl), rfl, rfl⟩ (by rw [Heap.size_push, hz]) fun b o x => Heap.get?_push_of_some _ (Heap.get?_push_of_some _ x)⟩
/-- the tuple at a as it stands, its items in new pairs with their numbers -/
def ItT (K : PySem.W.Frag) (a : Addr) : It :=
  ⟨fun i H => ∃ (xs : List V) (x : V), SqT K H a xs ∧ xs[i]? = some x,
    fun i H v G => ∃ T x, v = .ref T ∧ H T = none ∧ G = upd H T (.tup [.int (i : Nat), x]) ∧ ∀ xs, SqT K H a xs → xs[i]? = some x,
    fun i H => ∃ xs : List V, SqT K H a xs ∧ xs.length ≤ i⟩
theorem turn_enumT {P : Program} {w : World} {K : PySem.W.Frag} {elts : List Expr} {kk : Nat} {tp : Pos} (a e it : Addr) (hae : e ≠ a) (hai : a ≠ it) :
    Turn P w K (.Tuple elts kk tp) (ItT K a) [e, it] e (fun i h => (∃ old, IsEnum h e it ((i : Nat) : Int) old) ∧ h.IsTupleIter it a i ∧ e ≠ it) where
  mem := by simp
  obj := fun i h st b hb => by
    obtain ⟨⟨old, he⟩, ⟨o, ho, hc, hd⟩, _⟩ := st
    rcases List.mem_cons.mp hb with z | z
    · rw [z]
      exact ⟨_, he, fun v q => nomatch q⟩
    · rw [List.mem_singleton.mp z]
      exact ⟨o, ho, fun v q => by rw [hd] at q; cases q⟩
  keep := fun i h h' st k => let ⟨⟨old, he⟩, hi, ne⟩ := st; ⟨⟨old, k e (by simp) _ he⟩, hi.at fun o q => k it (by simp) o q, ne⟩
  item := by
    intro X hP hw hK hc i pins s σ H E I hf st hg
    subst hP hw hK
    obtain ⟨⟨old, he⟩, hit, ne⟩ := st
    obtain ⟨xs, x, hq, hx⟩ := hg
    obtain ⟨its, rv, p, hz⟩ := I.tuple hq
    obtain ⟨u, hu, ru⟩ := rv.get hx
    have hT : s.heap.IsTuple a its.toArray := p
    have hel : e < s.heap.objs.size := Heap.lt_size he
    have hil : it < s.heap.objs.size := by
      obtain ⟨_, q, _⟩ := hit
      exact Heap.lt_size q
    have hi : i < its.toArray.size := by
      rw [List.size_toArray]
      exact (List.getElem?_eq_some_iff.mp hu).1
    have nf : e ∉ [it, a] := fun z => by
      rcases List.mem_cons.mp z with q | q
      · exact ne q
      · exact hae (List.mem_singleton.mp q)
    refine wpAny_pyNext_enum_itemD (Draws.tuple (A := X.A.in1) (show X.A.in1.handled = none from I.ok.hd hc) it a hai its.toArray) he ⟨hit, hT⟩ hi ne nf fun y h' tk hP ho hst' hTn hsz hk => ?_
    have ey : y = u := by
      have h1 : its[i]? = some y := by simpa using hP
      rw [hu] at h1
      exact (Option.some.inj h1).symm
    subst ey
    refine ⟨_, rfl, wpAny_letOwnedTupleGo_enum (s := { s with heap := h', toks := tk + 1 }) ho fun h2 he' sb => ?_⟩
    have hT2 : h2.get? s.heap.objs.size = some { cls := .type "tuple", data := .seq #[.int i tk, y] } := (sb.2 _ (Nat.ne_of_gt hel)).trans hTn
    have new : ObjOk X.prog X.w (upd H s.heap.objs.size (.tup [.int (i : Nat), x])) h2 s.heap.objs.size (.tup [.int (i : Nat), x]) :=
      ⟨by show 2 ≤ sizeLine; decide, [.int i tk, y], .cons ⟨_, rfl⟩ (.cons ru .nil), ⟨_, hT2, rfl, _, rfl⟩⟩
    have J : Inv X pins σ (upd H s.heap.objs.size (.tup [.int (i : Nat), x])) { s with heap := h2, toks := tk + 1 } :=
      I.turnedNew (ch := [e, it]) (fun b ob hb q => (sb.2 b (fun z => hb (by simp [z]))).trans (hk b ob (fun z => hb (by simp [z])) (fun z => hb (by simp [z])) q)) hf (Nat.le_refl _) new
    refine ⟨.ref s.heap.objs.size, _, J, rfl, ⟨_, x, rfl, I.hok.fresh (Nat.le_refl _), rfl, fun ys hy => by rw [I.tuple_inj hy hq]; exact hx⟩, ⟨⟨y, ?_⟩, hst'.1.at fun o q => (sb.2 it (Ne.symm ne)).trans q, ne⟩, fun b hb => ?_⟩
    · have z : ((i + 1 : Nat) : Int) = (i : Int) + 1 := by omega
      rw [z]
      exact he'
    · have hb' : b < s.heap.objs.size := by
        rcases List.mem_cons.mp hb with z | z
        · rw [z]
          exact hel
        · rw [List.mem_singleton.mp z]
          exact hil
      rw [upd_ne (Nat.ne_of_lt hb')]
      exact (hf b hb).1
  done := by
    intro X hP hw hK hc i pins s σ H E I hf st hg
    subst hP hw hK
    obtain ⟨⟨old, he⟩, hit, ne⟩ := st
    obtain ⟨xs, hq, hx⟩ := hg
    obtain ⟨its, rv, p, hz⟩ := I.tuple hq
    obtain ⟨g0, g1, g2, g3, g4, g5⟩ := hf it (by simp)
    have hT : s.heap.IsTuple a its.toArray := p
    have hl := rv.length
    have T : s.TypeIs (.ref e) "enumerate" := ⟨_, he, rfl⟩
    unfold pyNext
    refine wpAny_bind (wpAny_attempt (wpAny_callSpecial?_slot (name := Str.ofString "__next__") T F.slot_enumerate_next (wpAny_call_entry F.slot_enumerate_next T F.entry_enumerate_next ?_ (F.args_enumerate_next_1 _))))
    show wpAny _ _ (PySem.field (.ref e) 2 >>= _) _ _ _
    refine wpAny_bind (wpAny_field he rfl (x := .ref it) rfl ?_)
    refine wpAny_bind (wpAny_nextOf_tuple_end (I.ok.hd hc) hit hT (by simp; omega) fun h' x eb hx' => ?_)
    obtain ⟨o, ho, hcl⟩ := hx'
    refine wpAny_bind (wpAny_isInstance (T := "StopIteration") (b := true) ⟨o, ho, hcl⟩ isSubtype_stop ?_)
    exact wpAny_pure ⟨rfl, I.turned (t' := s.toks) (fun b o hb q => eb b o hb q) g0 g1 g3 g4 g5⟩
  self := fun A i s Q E st h => let ⟨⟨_, he⟩, _⟩ := st; wpAny_pyIter_enum he h
def iEnumT (K : PySem.W.Frag) (ta : TA) : TI := fun σ H R => ta σ H fun vs G => ∃ a xs, vs = [.ref a] ∧ SqT K G a xs ∧ R (ItT K a) G
theorem pi_enumT {X : Cx} {e : Expr} {ta : TA} {p pos tp : Pos} {elts : List Expr} {kk : Nat} (ge : Gl X "enumerate") (me : X.mg "enumerate" = none) (ha : PA X [e] ta) (hs : starEach [e] X.env = [(false, eval e X.env)] := by rfl) :
    PI X (.Tuple elts kk tp) (.Call (.Name "enumerate" p) [e] [] pos) (iEnumT X.K ta) := by
  refine ⟨fun pins s σ H R I h => ?_⟩
  refine PyProof.Rows.Call_ (ld_blt I ge me boot_enumerate (PyProof.Rows.callWith_type1 (thn (ha.run pos pins s σ H _ I h) fun us t ⟨vs, G, J, rr, hx⟩ => ?_) hs rfl))
  obtain ⟨a, xs, ex, hq, q⟩ := hx
  subst ex
  cases rr with
  | cons r r2 =>
    cases r2
    cases r
    obtain ⟨its, rv, pl, hz⟩ := J.tuple hq
    have hT : t.heap.IsTuple a its.toArray := pl
    have hlt : a < t.heap.objs.size := by
      obtain ⟨_, z, _⟩ := hT
      exact Heap.lt_size z
    refine call_enum_tup hT fun h' he hit hsz hk => wpAny_pyIter_enum he ?_
    have J2 : Inv X pins σ G { t with heap := h' } := J.kept (t' := t.toks) hk
    refine ⟨t.heap.objs.size + 1, [t.heap.objs.size + 1, t.heap.objs.size], _, _, G, rfl, J2, turn_enumT a (t.heap.objs.size + 1) t.heap.objs.size (Nat.ne_of_gt (Nat.lt_succ_of_lt hlt)) (Nat.ne_of_lt hlt), ⟨⟨.none, he⟩, hit, Nat.succ_ne_self _⟩, fun b hb => ?_, q⟩
    have hle : t.heap.objs.size ≤ b := by
      rcases List.mem_cons.mp hb with z | z
      · rw [z]
        exact Nat.le_add_right _ _
      · rw [List.mem_singleton.mp z]
        exact Nat.le_refl _
    exact J.fpOk hle (J.hok.fresh hle)
section
open HT
/-! ### t[::-1] of a tuple -/
theorem rev_adjust (n : Nat) : Builtin.Slice.sliceAdjust none none (-1) (n : Int) = ((n : Int) - 1, -1) := by
  unfold Builtin.Slice.sliceAdjust
  rfl
theorem rev_places (n : Nat) : Builtin.Slice.slicePlaces ((n : Int) - 1) (-1) (-1) = n := by
  unfold Builtin.Slice.slicePlaces
  simp
  omega
theorem rev_pick (xs : List Value) : ((List.range xs.length).filterMap fun (k : Nat) => xs.toArray[(((xs.length : Int) - 1) + (k : Int) * (-1)).toNat]?) = xs.reverse := by
  have e : ∀ m, m ≤ xs.length → ((List.range m).filterMap fun (k : Nat) => xs.toArray[(((xs.length : Int) - 1) + (k : Int) * (-1)).toNat]?) = xs.reverse.take m := by
    intro m
    induction m with
    | zero =>
      intro _
      rfl
    | succ m ih =>
      intro h
      rw [List.range_succ, List.filterMap_append, ih (by omega), List.take_add_one]
      congr 1
      have hi : (((xs.length : Int) - 1) + (m : Int) * (-1)).toNat = xs.length - 1 - m := by omega
      have hr : xs.reverse[m]? = some xs[xs.length - 1 - m] := by
        rw [List.getElem?_reverse (by omega), List.getElem?_eq_getElem (by omega)]
      have ha : xs.toArray[xs.length - 1 - m]? = some xs[xs.length - 1 - m] := by
        rw [List.getElem?_toArray, List.getElem?_eq_getElem (by omega)]
      rw [hr]
      show List.filterMap _ [m] = [xs[xs.length - 1 - m]]
      rw [List.filterMap_cons_some (b := xs[xs.length - 1 - m]) (by rw [hi]; exact ha)]
      rfl
  rw [e _ (Nat.le_refl _), List.take_of_length_le (by rw [List.length_reverse]; exact Nat.le_refl _)]
section
variable {prog : Program} {w : World} {A : Around} {E : Value → Shared → Prop} {s : Shared}
theorem tuple_back {u sl : Addr} {its : List Value} {tk : Tok} {Q : Value → Shared → Prop} (hT : IsTup s.heap u its.toArray) (hs : s.heap.IsSliceOf sl .none .none (.int (-1) tk)) (hz : its.length ≤ sizeLine)
    (h : Q (.ref s.heap.objs.size) { s with heap := s.heap.push { cls := .type "tuple", data := .seq its.reverse.toArray } }) : wpAny (model prog w) A (getItem (.ref u) (.ref sl)) Q E s := by
  have fits : sizeOk (.seq its.reverse.toArray) := by
    show its.reverse.toArray.size ≤ sizeLine
    rw [List.size_toArray, List.length_reverse]
    exact hz
  obtain ⟨os, ho, hc, hd⟩ := id hs
  have ty : s.TypeIs (.ref sl) "slice" := ⟨os, ho, hc⟩
  unfold getItem
  try with_reducible refine wpAny_holding ?_
  first | refine wpAny_bind (wpAny_pure ?_) | skip
  refine wpAny_bind (wpAny_sequenceKey hT.typeIs (by decide) (wpAny_bind (wpAny_callSpecial?_slot (name := Str.ofString "__getitem__") hT.typeIs PyProof.Rows.slot_tuple_getitem (wpAny_call_entry PyProof.Rows.slot_tuple_getitem hT.typeIs entry_tuple_getitem ?_ (args_tuple_getitem _ _)))))
  show wpAny _ _ (Builtin.Tuple.tupleItemsOf (.ref u) >>= _) _ _ s
  refine wpAny_bind (tupleItemsOf_ hT (wpAny_bind (wpAny_typeOf ty ?_)))
  rw [if_pos (by decide)]
  refine wpAny_bind (m := Builtin.Slice.sliceApplied _ _) ?_
  unfold Builtin.Slice.sliceApplied Builtin.Slice.sliceFields
  refine wpAny_bind (wpAny_bind (wpAny_field ho hd (x := .none) rfl (wpAny_bind (wpAny_field ho hd (x := .none) rfl (wpAny_bind (wpAny_field ho hd (x := .int (-1) tk) rfl (wpAny_pure ?_)))))))
  refine wpAny_bind (slicePart_int ?_)
  show wpAny _ _ (if ((-1 : Int) == 0) = true then _ else _) _ _ s
  rw [if_neg (by decide)]
  refine wpAny_bind (slicePart_none (wpAny_bind (slicePart_none (wpAny_bind (wpAny_pure ?_)))))
  show wpAny _ _ (match Builtin.Slice.sliceAdjust none none (-1) (its.toArray.size : Int) with | (lo, hi) => pure (lo, (-1 : Int), Builtin.Slice.slicePlaces lo hi (-1))) _ _ s
  rw [rev_adjust]
  show wpAny _ _ (pure (((its.toArray.size : Int) - 1), (-1 : Int), Builtin.Slice.slicePlaces ((its.toArray.size : Int) - 1) (-1) (-1))) _ _ s
  rw [rev_places]
  refine wpAny_pure ?_
  show wpAny _ _ (if ((((its.toArray.size : Int) - 1) == 0 && (-1 : Int) == 1 && its.toArray.size == its.toArray.size) = true) then _ else _) _ _ s
  rw [if_neg (by simp), List.size_toArray, rev_pick]
  first
    | exact wpAny_bind (m := Builtin.Tuple.tupleExact _) (wpAny_newObj_type (wpAny_pure ⟨_, rfl, wpAny_pure h⟩) fits)
    | exact wpAny_bind (m := Builtin.Tuple.tupleExact _) (wpAny_newObj_type (wpAny_bind (wpAny_pure (wpAny_pure ⟨_, rfl, wpAny_pure h⟩))) fits)
    | exact wpAny_bind (wpAny_bind (m := Builtin.Tuple.tupleExact _) (wpAny_newObj_type (wpAny_pure (wpAny_pure ⟨_, rfl, wpAny_pure h⟩)) fits))
    | exact wpAny_bind (wpAny_bind (m := Builtin.Tuple.tupleExact _) (wpAny_newObj_type (wpAny_pure ⟨_, rfl, wpAny_pure h⟩) fits))
end
def tBackT (K : PySem.W.Frag) (te : TE) : TE := fun σ H Q => te σ H fun x G => ∃ a xs, x = .ref a ∧ SqT K G a xs ∧ ∀ p, G p = none → Q (.ref p) (upd G p (.tup xs.reverse))
theorem pe_backT {X : Cx} {e : Expr} {te : TE} {k : Nat} {u1 u2 u3 u4 : Pos} (he : PE X e te) : PE X (.Subscript e (.Slice none none (some (.UnaryOp .USub (.Constant (.int 1) k u1) u2)) u3) u4) (tBackT X.K te) := by
  refine ⟨fun pins s σ H Q I h => ?_⟩
  refine Subscript_ (thn (he.run pins s σ H _ I h) fun v t1 ⟨x, G1, J1, r1, g1⟩ => ?_)
  obtain ⟨a, xs, ex, hx, q⟩ := g1
  subst ex
  cases r1
  have step : PO X (some (.UnaryOp .USub (.Constant (.int 1) k u1) u2)) (tPart (tUn (rU fun i => .int (-i)) (tC (.int 1)))) := po_some (pe_un un_neg pe_int)
  refine wpAny_Slice (thn (po_none.run pins t1 σ G1 (fun o G => o = none ∧ G = G1) J1 ⟨rfl, rfl⟩) fun vl t2 ⟨l, G2, J2, pl, el, e2⟩ => ?_)
  subst el e2
  refine thn (po_none.run pins t2 σ G2 (fun o G => o = none ∧ G = G2) J2 ⟨rfl, rfl⟩) fun vu t3 ⟨u, G3, J3, pu, eu, e3⟩ => ?_
  subst eu e3
  refine thn (step.run pins t3 σ G3 (fun o G => o = some (-1) ∧ G = G3) J3 ⟨1, rfl, -1, rfl, rfl, rfl⟩) fun vs t4 ⟨o, G4, J4, ps, eo, e4⟩ => ?_
  subst eo e4
  have J5 : Inv X pins σ G4 { t4 with heap := t4.heap.push { cls := .type "slice", data := .fields #[vl, vu, vs] } } := J4.kept (t' := t4.toks) fun b ob z => Heap.get?_push_of_some _ z
  obtain ⟨its, r, hT, hz⟩ := J5.tuple hx
  have hlen := r.length
  show wpAny (model X.prog X.w) X.A (subscriptTail e (.Slice none none (some (.UnaryOp .USub (.Constant (.int 1) k u1) u2)) u3) (.ref a) (.ref t4.heap.objs.size)) (EP X pins σ Q) X.xe _
  refine tail_any (ops := [.ref a, .ref t4.heap.objs.size]) hT.typeIs (PyProof.Rows.slot_tuple_getitem.lookup) ?_ (by with_unfolding_all rfl)
  cases pl
  cases pu
  cases ps
  refine tuple_back hT (Heap.IsSliceOf.new _ _ _ _) (by omega) ?_
  refine ⟨.ref _, _, J5.laid (t' := t4.toks) (o := .tup xs.reverse) (fun b ob z => Heap.get?_push_of_some _ z) (Nat.le_refl _) ?_, rfl, q _ (J5.hok.fresh (Nat.le_refl _))⟩
  exact ⟨by rw [List.length_reverse]; exact hz, _, r.reverse, ⟨_, Heap.get?_push_size _ rfl, rfl, _, rfl⟩⟩
end
/-! ### how long a thing's text is -/
structure Sh (d : PyData) (n m : Nat) : Prop where
  s : d.showable = true
  l : d.shown.length ≤ n
  k : d.depth ≤ m
theorem Sh.mono {d : PyData} {n m n' m' : Nat} (h : Sh d n m) (a : n ≤ n') (b : m ≤ m') : Sh d n' m' := ⟨h.s, Nat.le_trans h.l a, Nat.le_trans h.k b⟩
theorem piled_le {c : Nat} : ∀ ts : List Str, (∀ t ∈ ts, t.length ≤ c) → piled ts ≤ ts.length * (c + 2)
  | [], _ => by
    show piled [] ≤ 0 * _
    simp [piled]
  | t :: r, h => by
    have h1 := h t List.mem_cons_self
    have h2 := piled_le r fun u hu => h u (List.mem_cons_of_mem _ hu)
    rw [piled_cons, List.length_cons, Nat.add_mul, Nat.one_mul]
    omega
theorem tuple_le {c : Nat} (ts : List Str) (h : ∀ t ∈ ts, t.length ≤ c) : (tupleText ts).length ≤ 4 + ts.length * (c + 2) := by
  unfold tupleText
  rw [strLen_append, strLen_append]
  have e1 : ((("(" : String) : Str)).length = 1 := rfl
  have e3 : (((if ts.length == 1 then ",)" else ")" : String) : Str)).length ≤ 2 := by split <;> decide
  have e4 := piled_le ts h
  rw [e1]
  by_cases hn : ts = []
  · subst hn
    have : (Str.join ", " []).length = 0 := rfl
    omega
  · have := join_length_add ts hn
    omega
theorem from_le {c : Nat} : ∀ (ts : List Str) (k : Nat) (acc : Str), (∀ t ∈ ts, t.length ≤ c) → (textFrom k acc ts).length ≤ acc.length + ts.length * (c + 2)
  | [], _, acc, _ => by
    show acc.length ≤ _
    omega
  | t :: r, k, acc, h => by
    have h1 := h t List.mem_cons_self
    have h2 := from_le r (k + 1) (acc ++ (if k > 0 then ", " else "" : String) ++ t) fun u hu => h u (List.mem_cons_of_mem _ hu)
    have e : (acc ++ (if k > 0 then ", " else "" : String) ++ t).length ≤ acc.length + 2 + t.length := by
      rw [strLen_append, strLen_append]
      have : (((if k > 0 then ", " else "" : String) : Str)).length ≤ 2 := by split <;> decide
      omega
    show (textFrom (k + 1) _ r).length ≤ _
    rw [List.length_cons, Nat.add_mul, Nat.one_mul]
    omega
theorem list_le {c : Nat} (ts : List Str) (h : ∀ t ∈ ts, t.length ≤ c) : (listText ts).length ≤ 4 + ts.length * (c + 2) := by
  unfold listText
  rw [strLen_append]
  have e1 : ((("[" : String) : Str)).length = 1 := rfl
  have e2 : ((("]" : String) : Str)).length = 1 := rfl
  have := from_le ts 0 "[" h
  rw [e2]
  omega
theorem shown_mem : ∀ {ds : List PyData} {t : Str}, t ∈ PyData.shownAll ds → ∃ d ∈ ds, t = d.shown
  | [], _, h => by
    rw [PyData.shownAll] at h
    cases h
  | d :: r, t, h => by
    rw [PyData.shownAll] at h
    rcases List.mem_cons.mp h with e | e
    · exact ⟨d, List.mem_cons_self, e⟩
    · obtain ⟨x, hx, e⟩ := shown_mem e
      exact ⟨x, List.mem_cons_of_mem _ hx, e⟩
theorem shown_len : ∀ ds : List PyData, (PyData.shownAll ds).length = ds.length
  | [] => by
    rw [PyData.shownAll]
    rfl
  | d :: r => by rw [PyData.shownAll, List.length_cons, List.length_cons, shown_len r]
theorem show_all : ∀ {ds : List PyData} {n m : Nat}, (∀ d ∈ ds, Sh d n m) → PyData.showableAll ds = true ∧ PyData.depthAll ds ≤ m
  | [], n, m, _ => by
    rw [PyData.showableAll, PyData.depthAll]
    exact ⟨rfl, Nat.zero_le _⟩
  | d :: r, n, m, h => by
    have h1 := h d List.mem_cons_self
    obtain ⟨h2, h3⟩ := show_all (n := n) (m := m) fun u hu => h u (List.mem_cons_of_mem _ hu)
    rw [PyData.showableAll, PyData.depthAll, h1.s, h2]
    have := h1.k
    exact ⟨rfl, by omega⟩
theorem Sh.tuple {ds : List PyData} {n m k : Nat} (h : ∀ d ∈ ds, Sh d n m) (hk : ds.length ≤ k) : Sh (.tuple ds) (4 + k * (n + 2)) (m + 1) := by
  obtain ⟨h1, h2⟩ := show_all h
  refine ⟨by rw [PyData.showable]; exact h1, ?_, by rw [PyData.depth]; omega⟩
  rw [PyData.shown]
  refine Nat.le_trans (tuple_le (c := n) _ fun t ht => ?_) ?_
  · obtain ⟨d, hd, e⟩ := shown_mem ht
    rw [e]
    exact (h d hd).l
  · rw [shown_len]
    have := Nat.mul_le_mul_right (n + 2) hk
    omega
theorem Sh.list {ds : List PyData} {n m k : Nat} (h : ∀ d ∈ ds, Sh d n m) (hk : ds.length ≤ k) : Sh (.list ds) (4 + k * (n + 2)) (m + 1) := by
  obtain ⟨h1, h2⟩ := show_all h
  refine ⟨by rw [PyData.showable]; exact h1, ?_, by rw [PyData.depth]; omega⟩
  rw [PyData.shown]
  refine Nat.le_trans (list_le (c := n) _ fun t ht => ?_) ?_
  · obtain ⟨d, hd, e⟩ := shown_mem ht
    rw [e]
    exact (h d hd).l
  · rw [shown_len]
    have := Nat.mul_le_mul_right (n + 2) hk
    omega
theorem Sh.int {i : Int} (h : i.natAbs < 10 ^ 30) : Sh (.int i) 40 0 := by
  refine ⟨?_, ?_, by rw [PyData.depth]; exact Nat.le_refl _⟩
  · rw [PyData.showable]
    refine decide_eq_true ?_
    by_cases h0 : i.natAbs = 0
    · rw [h0]
      decide
    · exact (Nat.log2_lt h0).mpr (Nat.lt_of_lt_of_le h (by decide +kernel))
  · rw [PyData.shown]
    show (Str.ofString (toString i)).length ≤ 40
    rw [PySem.ofString_length]
    have := int_text_length_le10 (k := 30) (by decide) h
    omega
theorem Sh.bool (b : Bool) : Sh (.bool b) 40 0 := by
  refine ⟨by rw [PyData.showable], ?_, by rw [PyData.depth]; exact Nat.le_refl _⟩
  rw [PyData.shown]
  cases b <;> decide
theorem Sh.none : Sh .none 40 0 := by
  refine ⟨by rw [PyData.showable], ?_, by rw [PyData.depth]; exact Nat.le_refl _⟩
  rw [PyData.shown]
  decide
theorem sh_text {x : Str} (h : (reprText x).length ≤ 40) : Sh (.str x) 40 0 := ⟨by rw [PyData.showable], by rw [PyData.shown]; exact h, by rw [PyData.depth]; exact Nat.le_refl _⟩
/-! ### repr of data -/
mutual
def noLst : PyData → Bool
  | .list _ => false
  | .tuple xs => noLstAll xs
  | .dict kvs => noLstKV kvs
  | _ => true
def noLstAll : List PyData → Bool
  | [] => true
  | x :: r => noLst x && noLstAll r
def noLstKV : List (PyData × PyData) → Bool
  | [] => true
  | p :: r => noLst p.1 && noLst p.2 && noLstKV r
end
/-- no list beside a dict -/
def okR (d : PyData) : Bool := !d.hasDict || noLst d
theorem keys_read {h : Heap} {P : Program} {w : World} : ∀ {es : List DictEntry} {kvs : List (Key × Value)}, Pairs (mixKind P w) es kvs → ReadsAll h (es.map (·.key)) (kvs.map fun p => keyD p.1) []
  | _, _, .nil => .nil
  | e :: _, p :: _, .cons h1 h2 t => by
    have ih := keys_read (h := h) t
    obtain ⟨k, v⟩ := p
    have h1' : keyIs k e.key = true := h1
    rcases keyIs_shape h1' with ⟨i, t, rfl, e2⟩ | ⟨x, t, rfl, e2⟩
    · refine ReadsAll.cons (as := []) (bs := []) ?_ ih
      show PySem.Reads h e.key (.int i) []
      rw [e2]
      exact .int i t
    · refine ReadsAll.cons (as := []) (bs := []) ?_ ih
      show PySem.Reads h e.key (.str x) []
      rw [e2]
      exact .str x t
theorem vals_of {P : Program} {w : World} : ∀ {es : List DictEntry} {kvs : List (Key × Value)}, Pairs (mixKind P w) es kvs → es.map (·.val) = kvs.map (·.2)
  | _, _, .nil => rfl
  | _, _, .cons h1 h2 t => by
    rw [List.map_cons, List.map_cons, h2, vals_of t]
theorem kv_split : ∀ {kvs : List (Key × V)} {vs : List (Key × Value)}, KV kvs vs → (kvs.map fun p => keyD p.1) = (vs.map fun p => keyD p.1) ∧ Vals (kvs.map (·.2)) (vs.map (·.2))
  | _, _, .nil => ⟨rfl, .nil⟩
  | _, _, .cons h t => by
    obtain ⟨a, b⟩ := kv_split t
    obtain ⟨h1, h2⟩ := h
    exact ⟨by rw [List.map_cons, List.map_cons, a, h1], .cons h2 b⟩
theorem zip_fst {α β : Type} : ∀ {xs : List α} {ys : List β}, xs.length = ys.length → (xs.zip ys).map (·.1) = xs ∧ (xs.zip ys).map (·.2) = ys
  | [], [], _ => ⟨rfl, rfl⟩
  | x :: xs, y :: ys, h => by
    obtain ⟨a, b⟩ := zip_fst (xs := xs) (ys := ys) (by simpa using h)
    exact ⟨by rw [List.zip_cons_cons, List.map_cons, a], by rw [List.zip_cons_cons, List.map_cons, b]⟩
theorem noLst_kv : ∀ {xs ys : List PyData}, xs.length = ys.length → noLstKV (xs.zip ys) = true → noLstAll ys = true
  | [], [], _, _ => by rw [noLstAll]
  | x :: xs, y :: ys, h, e => by
    rw [List.zip_cons_cons, noLstKV, Bool.and_eq_true, Bool.and_eq_true] at e
    rw [noLstAll, e.1.2, noLst_kv (by simpa using h) e.2]
    rfl
section
variable {X : Cx} {pins : List (Addr × Obj)} {σ : L2.St} {H : Hp} {s : Shared} {A : Addr → Prop}
mutual
theorem Rp.reads (I : Inv X pins σ H s) : ∀ {v : V} {d : PyData} {u : Value}, Rp X.K A H v d → RelV v u → ∃ as, PySem.Reads s.heap u d as ∧ (noLst d = true → sysModules ∉ as)
  | _, _, _, .non, r => by
    cases r
    exact ⟨_, .none, fun _ h => nomatch h⟩
  | _, _, _, .bl b, r => by
    cases r
    exact ⟨_, .bool b, fun _ h => nomatch h⟩
  | _, _, _, .int i, r => by
    obtain ⟨t, rfl⟩ := r
    exact ⟨_, .int i t, fun _ h => nomatch h⟩
  | _, _, _, .str x, r => by
    obtain ⟨t, rfl⟩ := r
    exact ⟨_, .str x t, fun _ h => nomatch h⟩
  | _, _, _, .lst q ra, r => by
    cases r
    obtain ⟨its, rv, ⟨o, n, ho, hc, _, hd⟩, _⟩ := I.list (sqLA_sq q)
    obtain ⟨as, hr, _⟩ := RpAll.reads I ra rv
    exact ⟨_, .list ho hc hd hr, fun z => by simp [noLst] at z⟩
  | _, _, _, .tup q ra, r => by
    cases r
    obtain ⟨its, rv, ⟨o, ho, hc, n, hd⟩, _⟩ := I.tuple (sqTA_sq q)
    obtain ⟨as, hr, hn⟩ := RpAll.reads I ra rv
    exact ⟨_, .tuple ho hc hd hr, fun z => hn (by simpa [noLst] using z)⟩
  | _, _, _, .dct (a := a) (kvs := kvs) (ds := ds) e na ra, r => by
    cases r
    obtain ⟨_, hs, vs, kv, o, es, ep, ho, hx, hd, _, hp, _⟩ := I.hok a _ e
    obtain ⟨k1, k2⟩ := kv_split kv
    have hl : (kvs.map fun p => keyD p.1).length = ds.length := by
      rw [← ra.length, List.length_map, List.length_map]
    obtain ⟨z1, z2⟩ := zip_fst hl
    obtain ⟨bs, hr, hn⟩ := RpAll.reads I ra k2
    have := PySem.Reads.dict (h := s.heap) (a := a) (kvs := (kvs.map fun p => keyD p.1).zip ds) ho hx.1 hd (by rw [z1, k1]; exact keys_read hp) (by rw [z2, vals_of hp]; exact hr)
    refine ⟨_, this, fun z hm => ?_⟩
    rcases List.mem_append.mp hm with hm | hm
    · exact (beq_eq_false_iff_ne.mp hs) (List.mem_singleton.mp hm).symm
    · exact hn (noLst_kv hl (by simpa [noLst] using z)) hm
theorem RpAll.reads (I : Inv X pins σ H s) : ∀ {vs : List V} {ds : List PyData} {us : List Value}, RpAll X.K A H vs ds → Vals vs us → ∃ as, PySem.ReadsAll s.heap us ds as ∧ (noLstAll ds = true → sysModules ∉ as)
  | _, _, _, .nil, r => by
    cases r
    exact ⟨_, .nil, fun _ h => nomatch h⟩
  | _, _, _, .cons h t, r => by
    cases r with
    | cons r1 r2 =>
      obtain ⟨as, q1, n1⟩ := Rp.reads I h r1
      obtain ⟨bs, q2, n2⟩ := RpAll.reads I t r2
      refine ⟨_, .cons q1 q2, fun z hm => ?_⟩
      rw [noLstAll, Bool.and_eq_true] at z
      rcases List.mem_append.mp hm with hm | hm
      · exact n1 z.1 hm
      · exact n2 z.2 hm
end
end
def rReprG (K : PySem.W.Frag) : List V → Hp → VK → Prop := fun xs H Q => ∃ x d A, xs = [x] ∧ Rp K A H x d ∧ Sh d 10000000 50 ∧ okR d = true ∧ Q (.str d.shown) H
theorem call_reprG {X : Cx} (hg : X.A.guards = some []) (hu : X.A.units + 64 < cLine) : CallR X (.builtin "repr") (rReprG X.K) := by
  intro pins s σ H xs us Q I r h
  obtain ⟨x, d, A, rfl, hd, sh, ok, q⟩ := h
  have fits : d.shown.length ≤ sizeLine := Nat.le_trans sh.l (by decide)
  have hk := sh.k
  cases r with
  | cons r1 r2 =>
    cases r2
    have go : ∀ {a : Addr}, x = .ref a → wpAny (model X.prog X.w) X.A (call (.builtin "repr") [.ref a]) (EP X pins σ Q) X.xe s := fun {a} ex => by
      subst ex
      obtain ⟨as, rd, hn⟩ := Rp.reads (u := .ref a) I hd rfl
      refine repr_of_reads' rd sh.s (fun hD => hn ?_) hg (by omega) (fun _ _ e => e) (fun h' u tk kept => ⟨.str d.shown, H, I.kept (t' := tk) kept, ⟨u, rfl⟩, q⟩) fits
      unfold okR at ok
      rw [hD] at ok
      simpa using ok
    cases hd with
    | bl b =>
      cases r1
      refine PySem.P.repr_of_bool ⟨.str _, H, I.tok _, ⟨_, rfl⟩, ?_⟩
      rw [PyData.shown] at q
      cases b <;> exact q
    | non =>
      cases r1
      refine PySem.P.repr_of_none ⟨.str _, H, I.tok _, ⟨_, rfl⟩, ?_⟩
      rw [PyData.shown] at q
      exact q
    | int i =>
      obtain ⟨t, rfl⟩ := r1
      have hs := sh.s
      rw [PyData.showable] at hs
      refine PySem.P.repr_of_int (of_decide_eq_true hs) ⟨.str _, H, I.tok _, ⟨_, rfl⟩, ?_⟩
      rw [PyData.shown] at q
      exact q
    | str x =>
      obtain ⟨t, rfl⟩ := r1
      rw [PyData.shown] at q fits
      exact PySem.P.repr_of_str ⟨.str _, H, I.tok _, ⟨_, rfl⟩, q⟩ fits
    | lst _ _ =>
      cases r1
      exact go rfl
    | tup _ _ =>
      cases r1
      exact go rfl
    | dct _ _ _ =>
      cases r1
      exact go rfl
def fRepr : List Sl → (Sl → Prop) → Prop := fun ss Qd => match ss with
  | [s] => (match s.rd with
    | some d => Sh d 10000000 50 ∧ okR d = true ∧ Qd (.d (.str d.shown))
    | none => False)
  | _ => False
instance {K : PySem.W.Frag} : RefC K (rReprG K) fRepr := ⟨fun W A H0 H xs ss Qd Q b f i rx h w => by
  unfold fRepr at h
  split at h
  · obtain ⟨v, rfl, r⟩ := vlsr1 rx
    split at h
    · rename_i d ed
      obtain ⟨A', r'⟩ := r.rd b ed
      exact ⟨v, d, A', rfl, r', h.1, h.2.1, w.here i _ h.2.2⟩
    · exact h.elim
  · exact h.elim⟩
/-! ### enumerate of a tuple, a tuple turned about -/
section
variable {K : PySem.W.Frag} {E : XK}
def iEnT (fa : TDA) : TDI := fun ρ Qd R => fa ρ (fun ss => match ss with
  | [.d (.tuple xs)] => Qd (enumD xs)
  | _ => False) R
instance {t : TA} {f : TDA} [ht : RefA K τ E t f] : RefI K τ E (iEnumT K t) (iEnT f) := ⟨fun W A H σ ρ Qd R P a h k => by
  refine ht.go W A H σ ρ _ R _ a h fun vs H1 ss f1 i1 r1 q => ?_
  split at q
  · rename_i xs
    obtain ⟨v, rfl, r⟩ := vlsr1 r1
    have rp : Rp K A H1 v (.tuple xs) := r
    obtain ⟨p, us, rfl, sq, ra⟩ := rp.tup_
    refine ⟨p, _, rfl, sq, k (ItT K p) H1 [some (.ref p)] [.d (.tuple xs)] (enumD xs) f1 i1 (gh1 rp) ⟨fun W A H i b g hi => ?_, fun W A H i b g hi => ?_, fun W A H i x H' d b g ed y => ?_⟩ q⟩
    · rw [enumD_len] at hi
      obtain ⟨a, us, e, s2, r2⟩ := g.one.tup_
      cases e
      obtain ⟨u, eu, _⟩ := r2.get (List.getElem?_eq_getElem hi)
      exact ⟨us, u, s2, eu⟩
    · rw [enumD_len] at hi
      obtain ⟨a, us, e, s2, r2⟩ := g.one.tup_
      cases e
      exact ⟨us, s2, by rw [r2.length]; exact hi⟩
    · obtain ⟨a, us, e, s2, r2⟩ := g.one.tup_
      cases e
      obtain ⟨T, u, rfl, nT, rfl, hx⟩ := y
      obtain ⟨x', ex', rfl⟩ := enumD_get ed
      obtain ⟨d', e1, e2⟩ := r2.getV (hx us s2)
      rw [ex'] at e1
      cases e1
      exact rp_pair b nT (.int _) e2
  · exact q.elim⟩
def dBack (f : TD) : TD := fun ρ Qd R => f ρ (fun s => match s with
  | .d (.tuple xs) => Qd (.d (.tuple xs.reverse))
  | _ => False) R
instance {t : TE} {f : TD} [ht : RefE K τ E t f] : RefE K τ E (tBackT K t) (dBack f) := ⟨fun W A H σ ρ Qd R Q a h w => by
  refine ht.go W A H σ ρ _ R _ a h fun v H1 s f1 i1 r1 q => ?_
  split at q
  · rename_i xs
    have rp : Rp K A H1 v (.tuple xs) := r1
    obtain ⟨p, us, rfl, sq, ra⟩ := rp.tup_
    exact ⟨p, us, rfl, sq, Want.tup (a.bs.fr f1 i1) (w.back f1) ra.reverse q⟩
  · exact q.elim⟩
end
end Dl

namespace Dl
open PySem PySem.Spec PyProof.Rows L2 LamX
/-! ### the state that draws are taken from -/
def Keep (z : Addr) (H H' : Hp) : Prop := ∀ b o, H b = some o → b ≠ z → H' b = some o
theorem Keep.self {z : Addr} {H : Hp} {o : HO} : Keep z H (upd H z o) := fun b u h n => by rw [upd_ne n]; exact h
def spTake : Sp := fun vs H Q _ => ∃ (z : Addr) (m : Int), vs = [.ref z, .int m] ∧ StOk H z ∧ 0 < m ∧ m < 1073741824 ∧
  ∀ H' n, Keep z H H' → StOk H' z → 0 ≤ n → n < m → Q (.int n) H'
def sdTake : SpD := fun ss Qd _ => ∃ m : Int, ss = [.st, .d (.int m)] ∧ 0 < m ∧ m < 1073741824 ∧ ∀ n : Int, 0 ≤ n → n < m → Qd (.d (.int n))
theorem take_imp {K : PySem.W.Frag} {ms : List Bool} : ∀ vs H Q E, spD K ms sdTake vs H Q E → spTake vs H Q E := fun vs H Q E ⟨τ, W, A, ss, Qd, R, b, r, ar, q, w, ek⟩ => by
  obtain ⟨m, rfl, h1, h2, q⟩ := q
  obtain ⟨v, u, rfl, r1, r2⟩ := vlsr2 r
  obtain rfl := r2.flat (u := .int m) rfl
  obtain ⟨z, rfl, st⟩ := r1
  refine ⟨z, m, rfl, st.ok H b.inv, h1, h2, fun H' n kp st' n0 n1 => ?_⟩
  obtain ⟨x, y, e, hx, hy, hy2⟩ := st'
  refine w (.int n) H' (.d (.int n)) ⟨fun c o ec _ nc => kp c o ec fun z => nc (z ▸ st.b), fun c hc => ?_⟩ ?_ (Rp.int n) (q n n0 n1)
  · by_cases h : c = z
    · subst h
      exact ⟨_, e, nt_lst⟩
    · obtain ⟨o, e1, t1⟩ := hc
      exact ⟨o, kp c o e1 h, t1⟩
  · refine W.stay _ H' (fun c o ec => ?_) (st.set H x y b.inv hx hy hy2)
    by_cases h : c = z
    · subst h
      rw [upd_same] at ec
      cases ec
      exact e
    · rw [upd_ne h] at ec
      exact kp c o ec h
/-- a new state -/
def spState (K : PySem.W.Frag) : Sp := fun vs H Q _ => ∃ (a : Addr) (ns : List Int) (i : Nat), vs = [.ref a, .int (i : Int)] ∧ SqL K H a (ns.map V.int) ∧ ∀ H' z, Same H H' → H z = none → StOk H' z → Q (.ref z) H'
def dNew (i : Nat) (fa : TDA) : TDS := fun dd R ρ => fa ρ (fun ss => (∃ ns, ∃ k : Nat, ss = [.scr ns, .d (.int (k : Int))]) ∧ dd.nx (ρ.set i .st)) R
def Wld.more {τ : List (Addr × Str)} (W : Wld τ) (z : Addr) (n : ¬ W.B z) : Wld τ where
  B := fun a => W.B a ∨ a = z
  I := fun H => W.I H ∧ StOk H z
  tab := fun H h => W.tab H h.1
  tbI := fun H H' h e t => ⟨W.tbI H H' h.1 e t, by
    obtain ⟨x, y, e1, r⟩ := h.2
    exact ⟨x, y, e _ _ e1 nt_lst, r⟩⟩
  stay := fun H H' s h => ⟨W.stay H H' s h.1, by
    obtain ⟨x, y, e1, r⟩ := h.2
    exact ⟨x, y, s _ _ e1, r⟩⟩
  own := fun H p o o' h e m m' np => ⟨W.own H p o o' h.1 e m m' fun q => np (.inl q), by
    obtain ⟨x, y, e1, r⟩ := h.2
    exact ⟨x, y, (upd_ne fun q => np (.inr q.symm)).trans e1, r⟩⟩
section
variable {K : PySem.W.Frag} {E : XK}
instance {i : Nat} {t : TA} {fa : TDA} [ha : RefA K τ E t fa] : RefS K τ E (tAsg (tCall (spState K) [] E0 t) (gName i)) (dNew i fa) := ⟨fun W A0 H0 D dd R H σ ρ gσ gρ b sr er ek h => by
  obtain ⟨W', A, c⟩ := sr
  refine ha.go W' A H σ ρ _ R _ (c.at_ ek) h fun vs H1 ss f1 i1 r1 q => ?_
  obtain ⟨⟨ns, k, rfl⟩, q⟩ := q
  obtain ⟨v, u, rfl, ra, rb⟩ := vlsr2 r1
  obtain rfl := rb.flat (u := .int (k : Int)) rfl
  obtain ⟨a, rfl, sc⟩ := ra
  refine ⟨a, ns, k, rfl, sc H1 i1, fun H2 z s2 nz st => ?_⟩
  have c1 := c.step f1 i1
  have c2 := c1.step (Fr.of s2) (W'.stay _ _ s2 i1)
  have nzO : ¬ Ob H1 z := nob nz
  have nB : ¬ W'.B z := c1.bs.nB nzO
  have nA : ¬ A z := c1.bs.nA nzO
  obtain ⟨x, y, ez, hx, hy, hy2⟩ := st
  have gA : Goes A (fun b => A b ∨ b = z) H1 H1 := fun b o eb _ nb => ⟨eb, fun q => q.elim nb (ne_of_none eb nz)⟩
  -- each slot in the greater world
  have up : ∀ {v : Option V} {s : Sl}, SlR K W' A H1 v s → SlR K (W'.more z nB) (fun b => A b ∨ b = z) H2 v s := fun {v s} q => by
    have f2 : Fr W'.B H1 H2 := Fr.of s2
    have gg : Goes A (fun b => A b ∨ b = z) H1 H2 := fun b o eb t nb => ⟨s2 b o eb, (gA b o eb t nb).2⟩
    cases s with
    | un => exact q
    | d x =>
      obtain ⟨u, e1, r1⟩ := q
      exact ⟨u, e1, r1.go gg⟩
    | ml ys =>
      obtain ⟨q', us, e1, e2, e3, e4, e5⟩ := q
      exact ⟨q', us, e1, s2 _ _ e2, fun w => w.elim e3 (ne_of_none e2 nz), .inl e4, e5.go gg⟩
    | bl ys =>
      obtain ⟨q', us, e1, e2, e3⟩ := q
      exact ⟨q', us, e1, ⟨s2 _ _ e2.1, fun w => w.elim e2.2 (ne_of_none e2.1 nz)⟩, e3.go gg⟩
    | st =>
      obtain ⟨z0, e1, sw⟩ := q
      have ne : z ≠ z0 := fun w => by
        obtain ⟨x, y, e, _⟩ := sw.ok H1 i1
        rw [← w, nz] at e
        cases e
      refine ⟨z0, e1, .inl sw.b, fun H h => sw.ok H h.1, fun H x y h h1 h2 h3 => ⟨sw.set H x y h.1 h1 h2 h3, ?_⟩⟩
      obtain ⟨x', y', e', r'⟩ := h.2
      exact ⟨x', y', (upd_ne ne).trans e', r'⟩
    | scr ms =>
      obtain ⟨a', e1, sc'⟩ := q
      exact ⟨a', e1, fun H h => sc' H h.1⟩
    | raw u => exact q
    | mo o =>
      obtain ⟨q', us, e1, e2, e3, e4, e5⟩ := q
      exact ⟨q', us, e1, s2 _ _ e2, fun w => w.elim e3 (ne_of_none e2 nz), .inl e4, e5.go gg⟩
    | bo o =>
      obtain ⟨q', us, e1, e2, e3, e4⟩ := q
      exact ⟨q', us, e1, s2 _ _ e2, fun w => w.elim e3 (ne_of_none e2 nz), e4.go gg⟩
  have env' : EnvR K (W'.more z nB) (fun b => A b ∨ b = z) H2 (σ ++ gσ) (ρ ++ gρ) := ⟨c1.env.len, fun j s e => by
    obtain ⟨v, e1, r⟩ := c1.env.at_ j s e
    exact ⟨v, e1, up r⟩, c1.env.dis⟩
  have n0 : ¬ Ob H0 z := fun q => nzO (c1.fr.2 z q)
  have cF : Cor K W A0 H0 (W'.more z nB) (fun b => A b ∨ b = z) H2 σ ρ gσ gρ := by
    refine ⟨⟨fun b h => .inl (c.wl.up b h), fun b h => ?_, fun H h => c.wl.inv H h.1⟩, fun b h => .inl (c.a0 b h), ⟨fun b h => h.imp (c.bs.ba b) id, fun b h => ?_, ⟨c2.bs.inv, x, y, ez, hx, hy, hy2⟩⟩, c2.fr, env', c.lg, c.new⟩
    · rcases h with h | rfl
      · exact c.wl.dn b h
      · exact .inr n0
    · rcases h with h | rfl
      · exact c2.bs.dom b h
      · exact ⟨_, ez, nt_lst⟩
  refine er.nx H2 (σ.set i (some (.ref z))) (ρ.set i .st) ⟨_, _, cF.set (s := .st) trivial ⟨z, rfl, .inr rfl, fun H h => h.2, fun H x y h h1 h2 h3 => ⟨?_, x, y, upd_same, h1, h2, h3⟩⟩⟩ q
  obtain ⟨x', y', e', _⟩ := h.2
  exact W'.own H z _ _ h.1 e' (.lst _) (.lst _) nB⟩
/-! ### what is said of a call: told, or the refusal's word -/
def TSaid (C : Nat → Addr) (ms : List Nat) (wd : Nat → Str) : (XK → Hp → VK → Prop) → Hp → VK → Prop := fun tl H Q =>
  tl (fun cls d H' => ∃ m, m ∈ ms ∧ cls = .ref (C m) ∧ d = none ∧ ∀ G t, Same H' G → H' t = none → G t = some (.tup [.str (wd m)]) → Q (.ref t) G) H fun v G => ([V.str "told", v] : List V).length ≤ sizeLine ∧ ∀ p, G p = none → Q (.ref p) (upd G p (.tup [.str "told", v]))
def dSaid (C : Nat → Addr) (ms : List Nat) (wd : Nat → Str) (f : TD) : TD := fun ρ Qd _ => f ρ (fun s => match s.dat with
  | some x => Qd (.d (.tuple [.str "told", x]))
  | none => False) fun er => ∃ m, m ∈ ms ∧ er = (C m, []) ∧ Qd (.d (.tuple [.str (wd m)]))
theorem fr_ext {B : Addr → Prop} {H H1 : Hp} (e : ExtN H H1) : Fr B H H1 := ⟨fun b o h t _ => e b o h t, fun b ⟨o, h, t⟩ => ⟨o, e b o h t, t⟩⟩
instance {C : Nat → Addr} {ms : List Nat} {wd : Nat → Str} {t : XK → TE} {f : TD} [ht : ∀ E', RefE K τ E' (t E') f] : RefE K τ E (tLam τ (TSaid C ms wd) t) (dSaid C ms wd f) := ⟨fun W A H σ ρ Qd R Q a h w => by
  refine ⟨W.tab H a.bs.inv, fun H1 e1 t1 => ?_⟩
  have f1 : Fr W.B H H1 := fr_ext e1
  have i1 := W.tbI H H1 a.bs.inv e1 t1
  have a1 := a.fr f1 i1
  have w1 := w.back f1
  refine (ht _).go W A H1 σ ρ _ _ _ ⟨a1.bs, a1.env, fun er x H' f' i' z r => ?_⟩ h fun v H' s f' i' r q => ?_
  · obtain ⟨m, hm, rfl, q⟩ := r
    have hx : x = none := by
      rcases z with z | z
      · exact z.2
      · exact absurd rfl z.1
    refine ⟨m, hm, rfl, hx, fun G t sm nt et => ?_⟩
    have b' := a1.bs.fr f' i'
    exact w1 (.ref t) G (.d (.tuple [.str (wd m)])) (f'.trans (Fr.of sm)) (W.stay _ _ sm i') (Rp.tup (.inl ⟨.inl et, b'.nA (nob nt)⟩) (.cons (.str _) .nil)) q
  · obtain ⟨x, ex, q⟩ := dat_iff (P := fun x => Qd (.d (.tuple [.str "told", x]))) q
    exact ⟨by show 2 ≤ sizeLine; decide, Want.tup (a1.bs.fr f' i') (w1.back f') (.cons (.str _) (.cons (r.dat a1.bs ex) .nil)) q⟩⟩
end
/-! ### a law, by its body -/
theorem tabs_updL {T : List (Addr × Str)} {G : Hp} {l : Addr} {o o' : HO} (h : Tabs T G) (e : G l = some o) (mb : Mb o) : Tabs T (upd G l o') := fun p hp => by
  obtain ⟨ps, h1, h2, h3⟩ := h p hp
  refine ⟨ps, (upd_ne (ne_of h1 e fun q => by cases mb <;> cases q)).trans h1, h2, fun pos cv hc => ?_⟩
  obtain ⟨c, e1, e2⟩ := h3 pos cv hc
  exact ⟨c, e1, (upd_ne (ne_of e2 e fun q => by
    unfold CodeO at q
    cases mb <;> cases q)).trans e2⟩
/-- the world of a law: the script, the tables -/
theorem law_world {K : PySem.W.Frag} {τ : List (Addr × Str)} {H : Hp} {a : Addr} {ns : List Int} (hS : SqL K H a (ns.map V.int)) (hT : Tabs τ H) : ∃ (W : Wld τ) (A : Addr → Prop), Bs W A H ∧ ∀ H, W.I H → SqL K H a (ns.map V.int) := by
  rcases hS with hS | hS
  · have hO : Ob H a := by
      rcases hS with h | ⟨o, h⟩
      · exact ⟨_, h, nt_lst⟩
      · exact ⟨_, h, nt_frz⟩
    refine ⟨{ B := fun b => b = a, I := fun G => Tabs τ G ∧ Rd G a (.lst (ns.map V.int)), tab := fun G h => h.1, tbI := fun G G' h e t => ⟨t, ?_⟩, stay := fun G G' s h => ⟨h.1.ext s, ?_⟩, own := fun G p o o' h e m m' np => ⟨tabs_updL h.1 e m, ?_⟩ }, fun b => b = a, ⟨fun _ h => h, fun b h => h ▸ hO, ⟨hT, hS⟩⟩, fun G h => .inl h.2⟩
    · rcases h.2 with z | ⟨o, z⟩
      · exact .inl (e _ _ z nt_lst)
      · exact .inr ⟨o, e _ _ z nt_frz⟩
    · rcases h.2 with z | ⟨o, z⟩
      · exact .inl (s _ _ z)
      · exact .inr ⟨o, s _ _ z⟩
    · rcases h.2 with z | ⟨o, z⟩
      · exact .inl ((upd_ne fun q => np q.symm).trans z)
      · exact .inr ⟨o, (upd_ne fun q => np q.symm).trans z⟩
  · exact ⟨{ B := fun _ => False, I := fun G => Tabs τ G, tab := fun G h => h, tbI := fun G G' h e t => t, stay := fun G G' s h => h.ext s, own := fun G p o o' h e m m' np => tabs_updL h e m }, fun _ => False, ⟨fun _ h => h, fun b h => h.elim, hT⟩, fun G _ => .inr hS⟩
/-- what is left to be shown of a law's body -/
def ReadsL (K : PySem.W.Frag) (τ : List (Addr × Str)) (E : XK) (t : TS) (N : List Str) : Prop := ∃ g, RefS K τ E t g ∧ ∀ ns : List Int, g { nx := fun _ => False, rt := fun s => s = .d (.bool true) } (fun _ => False) (startD N [.scr ns])
theorem ReadsL.run {K : PySem.W.Frag} {τ : List (Addr × Str)} {E : XK} {t : TS} {N : List Str} (h : ReadsL K τ E t N) {H : Hp} {a : Addr} {ns : List Int} {nx : L2.St → Hp → Prop} {Q : VK} (hS : SqL K H a (ns.map V.int)) (hT : Tabs τ H) (hQ : ∀ G, Q (.bl true) G) : t { nx := nx, rt := Q } (L2.start N [.ref a]) H := by
  obtain ⟨g, hg, h⟩ := h
  obtain ⟨W, A, b, sc⟩ := law_world hS hT
  have r : VlsR K W A H H [.ref a] [.scr ns] := .cons ⟨a, rfl, sc⟩ .nil
  have ar : ∀ s ∈ ([.scr ns] : List Sl), s.arg := fun s hs => by
    rw [List.mem_singleton.mp hs]
    trivial
  have env := env_start (N := N) r ar
  refine hg.go W A H _ { nx := fun _ => False, rt := fun s => s = .d (.bool true) } (fun _ => False) H _ _ [] [] b ⟨W, A, WLe.refl W H, fun _ z => z, b, Fr.refl H, by rw [List.append_nil, List.append_nil]; exact env, env.len, fun i p t e k _ => ?_⟩ ⟨fun H' σ ρ sr z => False.elim z, fun v H' s f i r z => ?_, fun H' σ ρ sr z => False.elim z, fun H' σ ρ sr z => False.elim z⟩ (fun er x H' f i z r => r.elim) (h ns)
  · have := List.mem_of_getElem? e
    rcases List.mem_append.mp this with z | z
    · have := ar _ z
      cases t <;> first | exact this.elim | exact k.elim
    · rw [(List.mem_replicate.mp z).2] at k
      exact k.elim
  · have z' : s = .d (.bool true) := z
    subst z'
    obtain rfl := r.flat (u := .bl true) rfl
    exact hQ H'
/-- a freeze ahead of a block -/
theorem pss_fz {X : Cx} {ss : List Stmt} {t : TS} (i : Nat) (h : PSs X ss t) : PSs X ss (tFz i t) := h
end Dl

namespace Dl
open PySem PySem.Spec PyProof.Rows L2
/-! ### the rules with their written part by name -/
section
variable {X : Cx} {K : PySem.W.Frag}
theorem op_addK (h : X.K = K) : OpR X (binaryOp .Add) (rAddX K) := h ▸ op_addX
theorem op_mulK (h : X.K = K) : OpR X (binaryOp .Mult) (rMulX K) := h ▸ op_mulX
theorem op_eqK (h : X.K = K) (hu : X.A.units + 64 < cLine) : OpR X (compareOp .Eq) (rEqD K) := h ▸ op_eqD hu
theorem op_neK (h : X.K = K) (hu : X.A.units + 64 < cLine) : OpR X (compareOp .NotEq) (rNeD K) := h ▸ op_neD hu
theorem op_inK (h : X.K = K) : OpR X (compareOp .In) (rIn K false) := h ▸ op_in_seq
theorem op_notInK (h : X.K = K) : OpR X (compareOp .NotIn) (rIn K true) := h ▸ op_notIn_seq
theorem ix_seqK (h : X.K = K) : IxR X (rIx K) := h ▸ ix_seq
theorem sl_anyK (h : X.K = K) : L2.SlR X (rSlX K) := h ▸ sl_any
theorem call_isiQ (h : X.K = K) : CallR X (.builtin "isinstance") (rIsi K) := h ▸ call_isi
theorem cr_allK (hc : X.calm = true) (h : X.K = K) : CallR X (.builtin "all") (rAll K) := h ▸ cr_all hc
theorem cr_anyK (hc : X.calm = true) (h : X.K = K) : CallR X (.builtin "any") (rAny K) := h ▸ cr_any hc
theorem cr_sumK (hc : X.calm = true) (h : X.K = K) : CallR X (.builtin "sum") (rSum K) := h ▸ cr_sum hc
theorem cr_maxK (hc : X.calm = true) (h : X.K = K) : CallR X (.builtin "max") (rMax K) := h ▸ cr_max hc
theorem cr_minK (hc : X.calm = true) (h : X.K = K) : CallR X (.builtin "min") (rMin K) := h ▸ cr_min hc
theorem cr_sortedK (h : X.K = K) : CallR X (.builtin "sorted") (rSorted K) := h ▸ cr_sorted
def rLenK (K : PySem.W.Frag) : List V → Hp → VK → Prop := fun xs H Q => ∃ p ys, xs = [.ref p] ∧ (SqL K H p ys ∨ SqT K H p ys) ∧ Q (.int ys.length) H
theorem call_lenK (h : X.K = K) : CallR X (.builtin "len") (rLenK K) := h ▸ call_len_seq
def rListK (K : PySem.W.Frag) : List V → Hp → VK → Prop := fun xs H Q => ∃ p ys, xs = [.ref p] ∧ (SqL K H p ys ∨ SqT K H p ys) ∧ ∀ l, H l = none → Q (.ref l) (upd H l (.lst ys))
theorem call_listK (h : X.K = K) : CallR X (.type "list") (rListK K) := h ▸ call_list_of
def rTupleK (K : PySem.W.Frag) : List V → Hp → VK → Prop := fun xs H Q => ∃ p ys, xs = [.ref p] ∧ ((SqL K H p ys ∧ ∀ l, H l = none → Q (.ref l) (upd H l (.tup ys))) ∨ (SqT K H p ys ∧ Q (.ref p) H))
theorem call_tupleK (h : X.K = K) : CallR X (.type "tuple") (rTupleK K) := h ▸ call_tuple_of
theorem call_reprQ (h : X.K = K) (hg : X.A.guards = some []) (hu : X.A.units + 64 < cLine) : CallR X (.builtin "repr") (rReprG K) := h ▸ call_reprG hg hu
theorem pt_truK {a : Expr} {ta : TE} (h : X.K = K) (ha : PE X a ta) (he : ∀ whole, isTrue a X.env whole = (do let v ← whole; standAt a.pos; holding [v] (truthy v))) : PT X a (tTru K ta) := h ▸ pt_tru ha he
theorem pi_listK {tg e : Expr} {te : TE} (h : X.K = K) (he : PE X e te) : PI X tg e (iList K te) := h ▸ pi_list he
theorem pi_tupK {tg e : Expr} {te : TE} (h : X.K = K) (he : PE X e te) : PI X tg e (iTup K te) := h ▸ pi_tup he
theorem pi_enumK {e : Expr} {ta : TA} {p pos tp : Pos} {elts : List Expr} {kk : Nat} (h : X.K = K) (ge : Gl X "enumerate") (me : X.mg "enumerate" = none) (ha : PA X [e] ta) (hs : starEach [e] X.env = [(false, eval e X.env)] := by rfl) :
    PI X (.Tuple elts kk tp) (.Call (.Name "enumerate" p) [e] [] pos) (iEnumT K ta) := h ▸ pi_enumT ge me ha hs
theorem pi_enumLK {e : Expr} {ta : TA} {p pos tp : Pos} {elts : List Expr} {kk : Nat} (h : X.K = K) (ge : Gl X "enumerate") (me : X.mg "enumerate" = none) (ha : PA X [e] ta) (hs : starEach [e] X.env = [(false, eval e X.env)] := by rfl) :
    PI X (.Tuple elts kk tp) (.Call (.Name "enumerate" p) [e] [] pos) (iEnum K ta) := h ▸ pi_enum ge me ha hs
theorem pi_zipK {e e2 : Expr} {ta : TA} {p pos tpos : Pos} {elts : List Expr} {kk : Nat} (h : X.K = K) (hg : Gl X "zip") (hm : X.mg "zip" = none) (ha : PA X [e, e2] ta)
    (hs : starEach [e, e2] X.env = (false, eval e X.env) :: starEach [e2] X.env := by rfl) (hpl : (backTo pos (starEach [e2] X.env)).any (·.1) = false := by rfl) :
    PI X (.Tuple elts kk tpos) (.Call (.Name "zip" p) [e, e2] [] pos) (RZ.iZipA K ta) := h ▸ RZ.pi_zipA hg hm ha hs hpl
theorem pe_backK {e : Expr} {te : TE} {k : Nat} {u1 u2 u3 u4 : Pos} (h : X.K = K) (he : PE X e te) : PE X (.Subscript e (.Slice none none (some (.UnaryOp .USub (.Constant (.int 1) k u1) u2)) u3) u4) (tBackT K te) := h ▸ pe_backT he
end
instance {K : PySem.W.Frag} : RefC K (rLenK K) fLen := ⟨fun W A H0 H xs ss Qd Q b f i rx h w => (inferInstance : RefC K (fun xs H Q => ∃ p ys, xs = [.ref p] ∧ (SqL K H p ys ∨ SqT K H p ys) ∧ Q (.int ys.length) H) fLen).go W A H0 H xs ss Qd Q b f i rx h w⟩
instance {K : PySem.W.Frag} : RefC K (rListK K) fList := ⟨fun W A H0 H xs ss Qd Q b f i rx h w => (inferInstance : RefC K (fun xs H Q => ∃ p ys, xs = [.ref p] ∧ (SqL K H p ys ∨ SqT K H p ys) ∧ ∀ l, H l = none → Q (.ref l) (upd H l (.lst ys))) fList).go W A H0 H xs ss Qd Q b f i rx h w⟩
instance {K : PySem.W.Frag} : RefC K (rTupleK K) fTuple := ⟨fun W A H0 H xs ss Qd Q b f i rx h w => (inferInstance : RefC K (fun xs H Q => ∃ p ys, xs = [.ref p] ∧ ((SqL K H p ys ∧ ∀ l, H l = none → Q (.ref l) (upd H l (.tup ys))) ∨ (SqT K H p ys ∧ Q (.ref p) H))) fTuple).go W A H0 H xs ss Qd Q b f i rx h w⟩
/-- a method, the written part by name -/
theorem pe_bmK {X : Cx} {K : PySem.W.Frag} {T id : String} {name : Str} {r : V → List V → Hp → VK → Prop} {o e : Expr} {es : List Expr} {to : TE} {t : TA} {apos cpos : Pos} (h : X.K = K) (pa : PlainAttrs T) (slot : Slot T name id) (hty : typeOf (.builtin id) = pure (.type "method_descriptor")) (hm : MtR X id r) (ho : PE X o to) (ha : PA X (e :: es) t)
    (hbase : attributeBase o name X.env (eval o X.env) = eval o X.env := by rfl)
    (hf : ((backTo cpos (starEach (e :: es) X.env)).all (fun x => !x.1) && (backToKw cpos (keywordEach [] X.env)).all (fun x => x.1.isSome) && decide ((e :: es).length + ([] : List Keyword).length + (if ([] : List Keyword).isEmpty then 0 else 1) < 30)) = true := by rfl)
    (hl : (apos.endLine == cpos.line) = true := by rfl) (hs : starEach (e :: es) X.env = (false, eval e X.env) :: starEach es X.env := by rfl) (hp : (backTo cpos (starEach es X.env)).any (·.1) = false := by rfl) : PE X (.Call (.Attribute o name apos) (e :: es) [] cpos) (tBM K T r to t) := by
  subst h
  exact pe_bm pa slot hty hm ho ha hbase hf hl hs hp
end Dl

namespace Dl
open PySem PySem.Spec PyProof.Rows L2
theorem pg_tupK {X : Cx} {K : PySem.W.Frag} {ts : List Expr} {t : TGs} {i n : Nat} {pos : Pos} (h : X.K = K) (hc : X.calm = true) (hs : PGs X ts t) (en : (assignEach ts X.env).length = n := by rfl) (es : (assignEach ts X.env).findIdx? (·.1) = none := by rfl) : PG X (.Tuple ts i pos) (gTup K n t) := h ▸ pg_tup hc hs en es
/-! ### shapes of data -/
/-- data that can be compared, of at most so many depths -/
structure Lay (d : PyData) (n : Nat) : Prop where
  c : d.canLay0 = true
  k : d.depth ≤ n
theorem Lay.mono {d : PyData} {n m : Nat} (h : Lay d n) (l : n ≤ m) : Lay d m := ⟨h.c, Nat.le_trans h.k l⟩
theorem Lay.sh {d : PyData} {n : Nat} (h : Lay d n) (l : n ≤ 64) : SeqAt.shaped d = true := by
  unfold SeqAt.shaped
  rw [h.c, Bool.true_and]
  exact decide_eq_true (Nat.le_trans h.k l)
theorem lay_int (i : Int) (n : Nat) : Lay (.int i) n := ⟨by simp [PyData.canLay0], by simp [PyData.depth]⟩
theorem lay_bool (i : Bool) (n : Nat) : Lay (.bool i) n := ⟨by simp [PyData.canLay0], by simp [PyData.depth]⟩
theorem lay_none (n : Nat) : Lay .none n := ⟨by simp [PyData.canLay0], by simp [PyData.depth]⟩
theorem lay_str {x : Str} (h : PyData.strOk x = true) (n : Nat) : Lay (.str x) n := ⟨by simp [PyData.canLay0, h], by simp [PyData.depth]⟩
theorem lay_all : ∀ {xs : List PyData} {n : Nat}, (∀ x ∈ xs, Lay x n) → PyData.canLayAll0 xs = true ∧ PyData.depthAll xs ≤ n
  | [], n, _ => by simp [PyData.canLayAll0, PyData.depthAll]
  | x :: r, n, h => by
    obtain ⟨a, b⟩ := lay_all (xs := r) (n := n) fun y hy => h y (List.mem_cons_of_mem _ hy)
    have hx := h x List.mem_cons_self
    refine ⟨by rw [PyData.canLayAll0, hx.c, a]; rfl, ?_⟩
    rw [PyData.depthAll]
    have := hx.k
    omega
theorem lay_tup {xs : List PyData} {n : Nat} (h : ∀ x ∈ xs, Lay x n) : Lay (.tuple xs) (n + 1) := by
  obtain ⟨a, b⟩ := lay_all h
  exact ⟨by rw [PyData.canLay0, a], by rw [PyData.depth]; omega⟩
theorem lay_lst {xs : List PyData} {n : Nat} (h : ∀ x ∈ xs, Lay x n) : Lay (.list xs) (n + 1) := by
  obtain ⟨a, b⟩ := lay_all h
  exact ⟨by rw [PyData.canLay0, a], by rw [PyData.depth]; omega⟩
theorem eqv_int (i j : Int) : PyData.eqv (.int i) (.int j) = decide (i = j) := by
  simp only [PyData.eqv]
  rfl
theorem eqv_bool (i j : Bool) : PyData.eqv (.bool i) (.bool j) = decide (i = j) := by
  simp only [PyData.eqv]
  cases i <;> cases j <;> rfl
theorem eqv_str (i j : Str) : PyData.eqv (.str i) (.str j) = (i == j) := by simp only [PyData.eqv]
theorem sh_int (i : Int) : SeqAt.shaped (.int i) = true := (lay_int i 0).sh (by decide)
theorem sh_bool (i : Bool) : SeqAt.shaped (.bool i) = true := (lay_bool i 0).sh (by decide)
theorem sh_none : SeqAt.shaped .none = true := (lay_none 0).sh (by decide)
theorem sh_str {x : Str} (h : PyData.strOk x = true) : SeqAt.shaped (.str x) = true := (lay_str h 0).sh (by decide)
/-! ### nets among data -/
def wholeD : PyData → Bool
  | .int _ => true
  | _ => false
def withinD (lo hi : Int) : PyData → Bool
  | .int i => decide (lo ≤ i) && decide (i ≤ hi)
  | _ => false
theorem withinD_true {lo hi : Int} {x : PyData} (h : withinD lo hi x = true) : ∃ i, x = .int i ∧ lo ≤ i ∧ i ≤ hi := by
  cases x with
  | int i =>
    have h : (decide (lo ≤ i) && decide (i ≤ hi)) = true := h
    rw [Bool.and_eq_true, decide_eq_true_eq, decide_eq_true_eq] at h
    exact ⟨i, rfl, h.1, h.2⟩
  | _ => cases h
theorem withinD_of {lo hi i : Int} (a : lo ≤ i) (b : i ≤ hi) : withinD lo hi (.int i) = true := by
  show (decide (lo ≤ i) && decide (i ≤ hi)) = true
  rw [decide_eq_true a, decide_eq_true b]
  rfl
theorem withinD_not {lo hi i : Int} (h : i < lo ∨ hi < i) : withinD lo hi (.int i) = false := by
  show (decide (lo ≤ i) && decide (i ≤ hi)) = false
  rcases h with h | h
  · rw [decide_eq_false (by omega)]
    rfl
  · rw [decide_eq_false (show ¬ (i ≤ hi) by omega), Bool.and_false]
def tupD (n : Int) : PyData → Bool
  | .tuple xs => decide ((xs.length : Int) = n)
  | _ => false
def isT : PyData → Bool
  | .tuple _ => true
  | _ => false
def neI : PyData → PyData → Bool
  | .int i, .int j => !decide (i = j)
  | _, _ => false
def roadD (p : Int) : PyData → Bool
  | .tuple [a, b, c, t] => withinD 0 (p - 1) a && (withinD 0 (p - 1) b && (neI a b && (withinD 1 99 c && withinD 0 99 t)))
  | _ => false
def netD : PyData → Bool
  | .tuple [.int p, .tuple rs] => withinD 1 10 (.int p) && (decide (rs.length ≤ 30) && rs.all (roadD p))
  | _ => false
/-- a road, a net -/
structure Road where
  one : Int
  other : Int
  cost : Int
  time : Int
  deriving DecidableEq
def Road.dt (q : Road) : PyData := .tuple [.int q.one, .int q.other, .int q.cost, .int q.time]
structure RoadOk (p : Int) (q : Road) : Prop where
  o1 : 0 ≤ q.one
  o2 : q.one ≤ p - 1
  t1 : 0 ≤ q.other
  t2 : q.other ≤ p - 1
  ne : q.one ≠ q.other
  c1 : 1 ≤ q.cost
  c2 : q.cost ≤ 99
  m1 : 0 ≤ q.time
  m2 : q.time ≤ 99
structure NetOk (p : Int) (rs : List Road) : Prop where
  p1 : 1 ≤ p
  p2 : p ≤ 10
  len : rs.length ≤ 30
  all : ∀ q ∈ rs, RoadOk p q
def netT (p : Int) (rs : List Road) : PyData := .tuple [.int p, .tuple (rs.map Road.dt)]
theorem roadD_ok {p : Int} {q : Road} (h : RoadOk p q) : roadD p q.dt = true := by
  show (withinD 0 (p - 1) (.int q.one) && (withinD 0 (p - 1) (.int q.other) && (!decide (q.one = q.other) && (withinD 1 99 (.int q.cost) && withinD 0 99 (.int q.time))))) = true
  rw [withinD_of h.o1 h.o2, withinD_of h.t1 h.t2, withinD_of h.c1 h.c2, withinD_of h.m1 h.m2, decide_eq_false h.ne]
  rfl
theorem netD_ok {p : Int} {rs : List Road} (h : NetOk p rs) : netD (netT p rs) = true := by
  show (withinD 1 10 (.int p) && (decide ((rs.map Road.dt).length ≤ 30) && (rs.map Road.dt).all (roadD p))) = true
  rw [withinD_of h.p1 h.p2, decide_eq_true (by rw [List.length_map]; exact h.len), List.all_eq_true.mpr fun x hx => ?_]
  · rfl
  · obtain ⟨q, hq, rfl⟩ := List.mem_map.mp hx
    exact roadD_ok (h.all q hq)
theorem lay_road (q : Road) : Lay q.dt 1 := lay_tup fun x hx => by
  simp only [List.mem_cons, List.not_mem_nil, or_false] at hx
  rcases hx with rfl | rfl | rfl | rfl <;> exact lay_int _ 0
theorem lay_net (p : Int) (rs : List Road) : Lay (netT p rs) 3 := lay_tup fun x hx => by
  simp only [List.mem_cons, List.not_mem_nil, or_false] at hx
  rcases hx with rfl | rfl
  · exact lay_int _ 2
  · refine lay_tup fun x hx => ?_
    obtain ⟨q, _, rfl⟩ := List.mem_map.mp hx
    exact lay_road q
/-! ### how long the text of a net is -/
theorem Sh.small {i : Int} (h : i.natAbs ≤ 1000) : Sh (.int i) 40 0 := Sh.int (Nat.lt_of_le_of_lt h (by decide +kernel))
theorem Sh.road {p : Int} {q : Road} (h : RoadOk p q) (hp : p ≤ 10) : Sh q.dt 172 1 := by
  refine (Sh.tuple (n := 40) (m := 0) (k := 4) (fun d hd => ?_) (Nat.le_refl _)).mono (by decide) (Nat.le_refl _)
  have o1 := h.o1
  have o2 := h.o2
  have t1 := h.t1
  have t2 := h.t2
  have c1 := h.c1
  have c2 := h.c2
  have m1 := h.m1
  have m2 := h.m2
  simp only [List.mem_cons, List.not_mem_nil, or_false] at hd
  rcases hd with rfl | rfl | rfl | rfl <;> exact Sh.small (by omega)
theorem Sh.net {p : Int} {rs : List Road} (h : NetOk p rs) : Sh (netT p rs) 11000 3 := by
  have s1 : Sh (.tuple (rs.map Road.dt)) (4 + 30 * (172 + 2)) 2 := Sh.tuple (n := 172) (m := 1) (k := 30) (fun d hd => by
    obtain ⟨q, hq, rfl⟩ := List.mem_map.mp hd
    exact Sh.road (h.all q hq) h.p2) (by rw [List.length_map]; exact h.len)
  have s2 : Sh (.int p) 40 0 := Sh.small (by have := h.p1; have := h.p2; omega)
  refine (Sh.tuple (n := 4 + 30 * (172 + 2)) (m := 2) (k := 2) (fun d hd => ?_) (Nat.le_refl _)).mono (by decide) (Nat.le_refl _)
  simp only [List.mem_cons, List.not_mem_nil, or_false] at hd
  rcases hd with rfl | rfl
  · exact s2.mono (by decide) (by decide)
  · exact s1
/-- no dict in it -/
theorem noDict_all : ∀ {xs : List PyData}, (∀ x ∈ xs, x.hasDict = false) → PyData.hasDictAll xs = false
  | [], _ => by rw [PyData.hasDictAll]
  | x :: r, h => by
    rw [PyData.hasDictAll, h x List.mem_cons_self, noDict_all fun y hy => h y (List.mem_cons_of_mem _ hy)]
    rfl
mutual
theorem noDict_lay : ∀ {d : PyData}, d.canLay0 = true → d.hasDict = false
  | .none, _ => by simp [PyData.hasDict]
  | .bool _, _ => by simp [PyData.hasDict]
  | .int _, _ => by simp [PyData.hasDict]
  | .str _, _ => by simp [PyData.hasDict]
  | .list xs, h => by
    rw [PyData.hasDict]
    exact noDict_lays (by simpa [PyData.canLay0] using h)
  | .tuple xs, h => by
    rw [PyData.hasDict]
    exact noDict_lays (by simpa [PyData.canLay0] using h)
  | .dict _, h => by simp [PyData.canLay0] at h
theorem noDict_lays : ∀ {xs : List PyData}, PyData.canLayAll0 xs = true → PyData.hasDictAll xs = false
  | [], _ => by rw [PyData.hasDictAll]
  | x :: r, h => by
    rw [PyData.canLayAll0, Bool.and_eq_true] at h
    rw [PyData.hasDictAll, noDict_lay h.1, noDict_lays h.2]
    rfl
end
theorem okR_lay {d : PyData} {n : Nat} (h : Lay d n) : okR d = true := by
  unfold okR
  rw [noDict_lay h.c]
  rfl
end Dl

namespace Dl
open PySem PySem.Spec PyProof.Rows L2
section
variable {K : PySem.W.Frag} {E : XK}
/-! ### written dicts -/
theorem Want.dct {τ : List (Addr × Str)} {W : Wld τ} {A : Addr → Prop} {H : Hp} {Qd : Sl → Prop} {Q : VK} {kvs : List (Key × V)} {ds : List PyData} (b : Bs W A H) (h : Want K W A H Qd Q) (r : RpAll K A H (kvs.map (·.2)) ds) (q : Qd (.d (.dict ((kvs.map fun (z : Key × V) => keyD z.1).zip ds)))) : ∀ p, H p = none → Q (.ref p) (upd H p (.dK kvs)) := fun p n =>
  h _ _ (.d (.dict ((kvs.map fun (z : Key × V) => keyD z.1).zip ds))) (Fr.new n) (W.stay _ _ (same_new n) b.inv) (Rp.dct upd_same (b.nA (nob n)) (r.go (goes_fr b.ba (Fr.new n)))) q
def dDict0 : TD := fun _ Qd _ => Qd (.d (.dict []))
instance : RefE K τ E tDNewK dDict0 := ⟨fun W A H σ ρ Qd R Q a h w => Want.dct (kvs := []) (ds := []) a.bs w .nil h⟩
def dDict1 (k n : Int) : TD := fun _ Qd _ => Qd (.d (.dict [(.int k, .int n)]))
instance {k n : Int} : RefE K τ E (tDisp [(tC (.int k), tC (.int n))]) (dDict1 k n) := ⟨fun W A H σ ρ Qd R Q a h w => by
  intro p np
  refine ⟨upd_same, [(Sum.inl k, .int n)], rfl, by show 1 ≤ 15; decide, ?_⟩
  rw [upd_upd]
  exact Want.dct (kvs := [(Sum.inl k, .int n)]) (ds := [.int n]) a.bs w (.cons (.int n) .nil) h p np⟩
end
/-! ### what is drawn from a list -/
/-- the one of a number -/
theorem pick {α : Type} {xs : List α} {n : Int} (h0 : 0 ≤ n) (h1 : n < (xs.length : Int)) : ∃ v, v ∈ xs ∧ L2.atI xs n = some v := by
  obtain ⟨m, rfl⟩ := Int.eq_ofNat_of_zero_le h0
  have hm : m < xs.length := by omega
  exact ⟨xs[m], List.getElem_mem hm, L2.atI_nat (List.getElem?_eq_getElem hm)⟩
/-- an item, where the list is known and the number drawn -/
theorem fIx_pick {xs : List PyData} {n : Int} {Qd : Sl → Prop} (h0 : 0 ≤ n) (h1 : n < (xs.length : Int)) (h : ∀ d ∈ xs, Qd (.d d)) : fIx (.ml xs) (.d (.int n)) Qd := by
  obtain ⟨v, hv, e⟩ := pick h0 h1
  show (match L2.atI xs n with | some d => Qd (.d d) | none => False)
  rw [e]
  exact h v hv
theorem fIx_at {xs : List PyData} {n : Nat} {d : PyData} {Qd : Sl → Prop} (e : xs[n]? = some d) (h : Qd (.d d)) : fIx (.d (.tuple xs)) (.d (.int (n : Int))) Qd := by
  show (match L2.atI xs (n : Int) with | some d => Qd (.d d) | none => False)
  rw [L2.atI_nat e]
  exact h
theorem fIxL_at {xs : List PyData} {n : Nat} {d : PyData} {Qd : Sl → Prop} {s : Sl} (hs : s.seq = some xs) (e : xs[n]? = some d) (h : Qd (.d d)) : fIxL s (.d (.int (n : Int))) Qd := by
  unfold fIxL
  rw [hs]
  show (match L2.atI xs (n : Int) with | some d => Qd (.d d) | none => False)
  rw [L2.atI_nat e]
  exact h
/-! ### slices -/
theorem sIx_nat {n d m : Nat} (h : m ≤ n) : HT.sIx n d (some (m : Int)) = m := by
  rw [HT.sIx_nat, Nat.min_eq_left h]
theorem cutD_take {xs : List PyData} {m : Nat} (h : m ≤ xs.length) : cutD xs none (some (m : Int)) = xs.take m := by
  unfold cutD
  rw [sIx_nat h]
  show (xs.drop 0).take (m - 0) = _
  rw [List.drop_zero, Nat.sub_zero]
theorem cutD_drop {xs : List PyData} {m : Nat} (h : m ≤ xs.length) : cutD xs (some (m : Int)) none = xs.drop m := by
  unfold cutD
  rw [sIx_nat h]
  show (xs.drop m).take (xs.length - m) = _
  rw [List.take_of_length_le (by rw [List.length_drop]; omega)]
end Dl

namespace Dl
open PySem PySem.Spec PyProof.Rows L2
theorem rangeD_get {lo : Int} {n i : Nat} {d : PyData} (h : (rangeD lo n)[i]? = some d) : i < n ∧ d = .int (lo + (i : Int)) := by
  unfold rangeD at h
  rw [List.getElem?_map] at h
  have hi : i < n := by
    rcases Nat.lt_or_ge i n with z | z
    · exact z
    · rw [List.getElem?_eq_none (by rw [List.length_range]; exact z)] at h
      cases h
  rw [List.getElem?_range hi] at h
  cases h
  exact ⟨hi, rfl⟩
theorem rangeD_len (lo : Int) (n : Nat) : (rangeD lo n).length = n := by rw [rangeD, List.length_map, List.length_range]
/-- a number among drawn ones -/
theorem fIx_num {xs : List PyData} {n lo hi : Int} {Qd : Sl → Prop} (h0 : 0 ≤ n) (h1 : n < (xs.length : Int)) (hx : ∀ d ∈ xs, ∃ i : Int, d = .int i ∧ lo ≤ i ∧ i ≤ hi) (h : ∀ i : Int, lo ≤ i → i ≤ hi → Qd (.d (.int i))) : fIx (.ml xs) (.d (.int n)) Qd := fIx_pick h0 h1 fun d hd => by
  obtain ⟨i, rfl, a, b⟩ := hx d hd
  exact h i a b
theorem other_ok {a b p : Int} (a0 : 0 ≤ a) (a1 : a < p) (b0 : 0 ≤ b) (b1 : b < p - 1) : 0 ≤ (a + 1 + b) % p ∧ (a + 1 + b) % p ≤ p - 1 ∧ a ≠ (a + 1 + b) % p := by
  by_cases h : a + 1 + b < p
  · rw [Int.emod_eq_of_lt (by omega) h]
    omega
  · have e : a + 1 + b = (a + 1 + b - p) + p := by omega
    rw [e, Int.add_emod_right, Int.emod_eq_of_lt (by omega) (by omega)]
    omega
/-! ### what the operators tell of known things -/
section
variable {Qd : Sl → Prop} {i j : Int} {a b : Bool} {x y : Str} {xs ys : List PyData} {g : Int → Int → V} {C : Int → Int → Prop} {d e : PyData} {s u : Sl} {neg : Bool} {lo hi : Option Int}
theorem fI0_c : fI0 g (.d (.int i)) (.d (.int j)) Qd = Qd (vS (g i j)) := propext Iff.rfl
theorem fI_c : fI C g (.d (.int i)) (.d (.int j)) Qd = (C i j ∧ Qd (vS (g i j))) := propext Iff.rfl
theorem fU_c {g : Int → V} : fU g (.d (.int i)) Qd = Qd (vS (g i)) := propext Iff.rfl
theorem fAddX_i : fAddX (.d (.int i)) (.d (.int j)) Qd = Qd (.d (.int (i + j))) := propext Iff.rfl
theorem fAddX_t : fAddX (.d (.tuple xs)) (.d (.tuple ys)) Qd = (xs.length + ys.length ≤ sizeLine ∧ Qd (.d (.tuple (xs ++ ys)))) := propext Iff.rfl
theorem fAddX_s : fAddX (.d (.str x)) (.d (.str y)) Qd = (x.length + y.length ≤ sizeLine ∧ Qd (.d (.str (x ++ y)))) := propext Iff.rfl
theorem fAddX_mm : fAddX (.ml xs) (.ml ys) Qd = (xs.length + ys.length ≤ sizeLine ∧ Qd (.ml (xs ++ ys))) := propext Iff.rfl
theorem fAddX_bm : fAddX (.bl xs) (.ml ys) Qd = (xs.length + ys.length ≤ sizeLine ∧ Qd (.ml (xs ++ ys))) := propext Iff.rfl
theorem fAddX_mb : fAddX (.ml xs) (.bl ys) Qd = (xs.length + ys.length ≤ sizeLine ∧ Qd (.ml (xs ++ ys))) := propext Iff.rfl
theorem fAddX_bb : fAddX (.bl xs) (.bl ys) Qd = (xs.length + ys.length ≤ sizeLine ∧ Qd (.ml (xs ++ ys))) := propext Iff.rfl
theorem fAddX_lm : fAddX (.d (.list xs)) (.ml ys) Qd = (xs.length + ys.length ≤ sizeLine ∧ Qd (.ml (xs ++ ys))) := propext Iff.rfl
theorem fAddX_ll : fAddX (.d (.list xs)) (.d (.list ys)) Qd = (xs.length + ys.length ≤ sizeLine ∧ Qd (.ml (xs ++ ys))) := propext Iff.rfl
theorem fMulX_i : fMulX (.d (.int i)) (.d (.int j)) Qd = (CMul i j ∧ Qd (.d (.int (i * j)))) := propext Iff.rfl
theorem fMulX_m : fMulX (.ml xs) (.d (.int j)) Qd = (-(2 ^ 63) ≤ j ∧ j < 2 ^ 63 ∧ xs.length * j.toNat ≤ sizeLine ∧ Qd (.ml (List.replicate j.toNat xs).flatten)) := propext Iff.rfl
theorem fSlX_t : fSlX (.d (.tuple xs)) lo hi Qd = Qd (.d (.tuple (cutD xs lo hi))) := propext Iff.rfl
theorem fSlX_m : fSlX (.ml xs) lo hi Qd = Qd (.ml (cutD xs lo hi)) := propext Iff.rfl
theorem fSlX_b : fSlX (.bl xs) lo hi Qd = Qd (.ml (cutD xs lo hi)) := propext Iff.rfl
theorem fSlX_l : fSlX (.d (.list xs)) lo hi Qd = Qd (.ml (cutD xs lo hi)) := propext Iff.rfl
theorem fIs_n : fIs neg (.d .none) (.d .none) Qd = Qd (.d (.bool !neg)) := by cases neg <;> rfl
theorem fIs_i : fIs neg (.d (.int i)) (.d .none) Qd = Qd (.d (.bool neg)) := by cases neg <;> rfl
theorem fIs_b : fIs neg (.d (.bool a)) (.d .none) Qd = Qd (.d (.bool neg)) := by cases neg <;> rfl
theorem fIs_s : fIs neg (.d (.str x)) (.d .none) Qd = Qd (.d (.bool neg)) := by cases neg <;> rfl
theorem fIs_l : fIs neg (.d (.list xs)) (.d .none) Qd = Qd (.d (.bool neg)) := by cases neg <;> rfl
theorem fIs_t : fIs neg (.d (.tuple xs)) (.d .none) Qd = Qd (.d (.bool neg)) := by cases neg <;> rfl
theorem fIs_m : fIs neg (.ml xs) (.d .none) Qd = Qd (.d (.bool neg)) := by cases neg <;> rfl
theorem fIs_bl : fIs neg (.bl xs) (.d .none) Qd = Qd (.d (.bool neg)) := by cases neg <;> rfl
theorem fLen_t : fLen [.d (.tuple xs)] Qd = Qd (.d (.int xs.length)) := propext Iff.rfl
theorem fLen_l : fLen [.d (.list xs)] Qd = Qd (.d (.int xs.length)) := propext Iff.rfl
theorem fLen_m : fLen [.ml xs] Qd = Qd (.d (.int xs.length)) := propext Iff.rfl
theorem fLen_b : fLen [.bl xs] Qd = Qd (.d (.int xs.length)) := propext Iff.rfl
theorem fLen_scr {ns : List Int} : fLen [.scr ns] Qd = Qd (.d (.int ns.length)) := by
  show Qd (.d (.int ((ns.map PyData.int).length : Nat))) = _
  rw [List.length_map]
theorem fIsi_c {T : String} : fIsi [.d d, .raw (.ty T)] Qd = (okTy T ∧ Qd (.d (.bool (isiD (tyD d) T)))) := propext Iff.rfl
theorem fEqD_c : fEqD neg (.d d) (.d e) Qd = (SeqAt.shaped d = true ∧ SeqAt.shaped e = true ∧ Qd (.d (.bool (if neg then !PyData.eqv d e else PyData.eqv d e)))) := propext Iff.rfl
theorem fEqD_mm : fEqD neg (.ml xs) (.ml ys) Qd = (SeqAt.shaped (.list xs) = true ∧ SeqAt.shaped (.list ys) = true ∧ Qd (.d (.bool (if neg then !PyData.eqv (.list xs) (.list ys) else PyData.eqv (.list xs) (.list ys))))) := propext Iff.rfl
theorem fEqD_bm : fEqD neg (.bl xs) (.ml ys) Qd = (SeqAt.shaped (.list xs) = true ∧ SeqAt.shaped (.list ys) = true ∧ Qd (.d (.bool (if neg then !PyData.eqv (.list xs) (.list ys) else PyData.eqv (.list xs) (.list ys))))) := propext Iff.rfl
theorem fEqD_bb : fEqD neg (.bl xs) (.bl ys) Qd = (SeqAt.shaped (.list xs) = true ∧ SeqAt.shaped (.list ys) = true ∧ Qd (.d (.bool (if neg then !PyData.eqv (.list xs) (.list ys) else PyData.eqv (.list xs) (.list ys))))) := propext Iff.rfl
theorem fEqD_dm : fEqD neg (.d d) (.ml ys) Qd = (SeqAt.shaped d = true ∧ SeqAt.shaped (.list ys) = true ∧ Qd (.d (.bool (if neg then !PyData.eqv d (.list ys) else PyData.eqv d (.list ys))))) := propext Iff.rfl
theorem fEq_ss : fEq neg (.d (.str x)) (.d (.str y)) Qd = (True ∧ Qd (.d (.bool (if neg then !decide (V.str x = V.str y) else decide (V.str x = V.str y))))) := by
  show (scal (.str x) (.str y) = true ∧ _) = _
  rw [show scal (.str x) (.str y) = true from rfl]
  simp
theorem fInt_i : fInt [.d (.int i)] Qd = Qd (.d (.int i)) := propext Iff.rfl
theorem fInt_b : fInt [.d (.bool a)] Qd = Qd (.d (.int (if a then 1 else 0))) := propext Iff.rfl
theorem fTuple_m : fTuple [.ml xs] Qd = Qd (.d (.tuple xs)) := propext Iff.rfl
theorem fTuple_b : fTuple [.bl xs] Qd = Qd (.d (.tuple xs)) := propext Iff.rfl
theorem fTuple_t : fTuple [.d (.tuple xs)] Qd = Qd (.d (.tuple xs)) := propext Iff.rfl
theorem fTuple_l : fTuple [.d (.list xs)] Qd = Qd (.d (.tuple xs)) := propext Iff.rfl
theorem fList_m : fList [.ml xs] Qd = Qd (.ml xs) := propext Iff.rfl
theorem fList_b : fList [.bl xs] Qd = Qd (.ml xs) := propext Iff.rfl
theorem fList_t : fList [.d (.tuple xs)] Qd = Qd (.ml xs) := propext Iff.rfl
theorem fList_l : fList [.d (.list xs)] Qd = Qd (.ml xs) := propext Iff.rfl
theorem f2I_c {g : Int → Int → Int} : f2I g [.d (.int i), .d (.int j)] Qd = Qd (.d (.int (g i j))) := propext Iff.rfl
theorem fRepr_c : fRepr [.d d] Qd = (Sh d 10000000 50 ∧ okR d = true ∧ Qd (.d (.str d.shown))) := propext Iff.rfl
theorem fRepr_b : fRepr [.bl xs] Qd = (Sh (.list xs) 10000000 50 ∧ okR (.list xs) = true ∧ Qd (.d (.str (PyData.list xs).shown))) := propext Iff.rfl
theorem fRepr_m : fRepr [.ml xs] Qd = (Sh (.list xs) 10000000 50 ∧ okR (.list xs) = true ∧ Qd (.d (.str (PyData.list xs).shown))) := propext Iff.rfl
theorem fStr_c : fStr [.d (.int i)] Qd = (i.natAbs.log2 < 1920 ∧ Qd (.d (.str (toString i)))) := propext Iff.rfl
theorem fAll_m {bs : List Bool} : fBools gAll [.ml (bs.map PyData.bool)] Qd = Qd (.d (.bool (bs.all id))) := by
  show (match (oAll dbool (bs.map PyData.bool)) with | some ns => gAll ns Qd | none => False) = _
  rw [bools_of]
  rfl
theorem fAny_m {bs : List Bool} : fBools gAny [.ml (bs.map PyData.bool)] Qd = Qd (.d (.bool (bs.any id))) := by
  show (match (oAll dbool (bs.map PyData.bool)) with | some ns => gAny ns Qd | none => False) = _
  rw [bools_of]
  rfl
theorem fSum_m {ns : List Int} : fInts gSum [.ml (ns.map PyData.int)] Qd = Qd (.d (.int ns.sum)) := by
  show (match (oAll dint (ns.map PyData.int)) with | some ns => gSum ns Qd | none => False) = _
  rw [ints_of]
  rfl
end
end Dl

namespace Dl
open PySem PySem.Spec PyProof.Rows L2
theorem pe_no {X : Cx} {e : Expr} : PE X e (fun _ _ _ => False) := ⟨fun _ _ _ _ _ _ h => h.elim⟩
/-- xs.count(x) of flat things -/
def rCountV (K : PySem.W.Frag) : V → List V → Hp → VK → Prop := fun x xs H Q => ∃ (a : Addr) (ys : List V) (y : V), x = V.ref a ∧ xs = [y] ∧ SqL K H a ys ∧ flatV y = true ∧ ys.all flatV = true ∧ Q (.int ((ys.countP fun u => eqV u y) : Nat)) H
theorem count_eqU {x : V} : ∀ {xs : List V} {us : List Value}, Vals xs us → xs.all flatV = true → us.countP (eqU x) = xs.countP fun y => eqV y x
  | _, _, .nil, _ => rfl
  | y :: r, _, .cons h t, f => by
    rw [List.all_cons, Bool.and_eq_true] at f
    rw [List.countP_cons, List.countP_cons, count_eqU t f.2, eqU_of h f.1]
theorem mt_countV {X : Cx} : MtR X "list.count" (rCountV X.K) := by
  intro pins s σ H x xs v us Q I rx rxs h
  obtain ⟨a, ys, y, rfl, rfl, sq, fy, fys, q⟩ := h
  cases rx
  cases rxs with
  | cons ry rt =>
    rename_i uy ut
    cases rt
    obtain ⟨its, rv, ⟨⟨cls, dd, data, sl⟩, n, ho, hc, hn, hd⟩, _⟩ := I.list sq
    simp only at hc hd
    subst hc hd
    refine call_meets PySem.F.slot_list_count ⟨_, ho, rfl⟩ PySem.F.entry_list_count (PySem.F.args_list_count_2 _ _) (SeqAt.list_countAt a its.toArray n dd sl uy (eqU y)) ⟨ho, fun u hu => mem_eqAt ry fy rv fys u (by simpa using hu), ?_⟩
    refine ⟨.int _, H, I.tok _, ⟨s.toks, ?_⟩, q⟩
    show Value.int ((its.toArray.toList.countP (eqU y) : Nat) : Int) s.toks = _
    rw [show its.toArray.toList = its from rfl, count_eqU rv fys]
/-! ### an error that is handled, and defs that are handed it -/
def ErrOf (D : Addr) (o : Obj) : Prop := Zc (.ref D) none o ∧ ∃ vs, o.data = .fields vs
theorem call_isP {X : Cx} {p : Addr × Obj} {D : Addr} (C : ExcC X.K D) (hp : p ∈ X.pn) (hz : ErrOf D p.2) : CallR X (.builtin "isinstance") (rIsE X.K D p.1) := by
  intro pins s σ H xs us Q I r h
  obtain ⟨c, cv, b, rfl, hc, e, q⟩ := h
  cases r with
  | cons rx rr =>
    cases rr with
    | cons rt rn =>
      cases rn
      cases rx
      have ec := hc _ rt
      subst ec
      obtain ⟨got, _⟩ := I.pin p (List.mem_append.mpr (.inl hp))
      obtain ⟨pa, oe⟩ := p
      obtain ⟨⟨h1, h2⟩, vs, hv⟩ := hz
      have J : PySem.W.InstAt s.heap pa oe D none := by
        obtain ⟨oc, od, oda, osl⟩ := oe
        dsimp only at h1 h2 hv
        subst h1 h2 hv
        exact ⟨got, rfl, rfl, trivial⟩
      exact PySem.W.kia_one (PySem.W.handS_kitx_exc C.hg C.hk C.hs C.hd C.ha C.hn C.ht C.hm) I.kIn J e (fun z => nomatch z) fun tk => ⟨.bl b, H, I.kept (t' := tk) fun _ _ z => z, rfl, q⟩
/-- what a def promises that is called with the error of class D while it is handled -/
structure FnE (P : Program) (w : World) (K : PySem.W.Frag) (mg : Str → Option Value) (base : Heap) (k : Nat) (f : Addr) (fd : FuncData) (ps : List Str) (D : Addr) (sp : Addr → List V → Hp → VK → Prop) : Prop where
  len : ∀ a vs H Q, sp a vs H Q → vs.length = ps.length
  run : ∀ (A : Around) (outer : List Env) (s : Shared) (H : Hp) (args : Args) (us : List Value) (vs : List V) (Q : VK) (p : Addr × Obj), L2H.RoomH k A → L2H.PinOk outer H s p → ErrOf D p.2 → Env0 P w K mg base A outer s H → BindsTo s fd args (ps.zip us) → Vals vs us → sp p.1 vs H Q →
    codeAny (model P w) A (.call (.ref f) args) (CR CX0 outer P w H s Q E0) s
theorem fnE_of {P : Program} {w : World} {K : PySem.W.Frag} {mg : Str → Option Value} {base : Heap} {x : Str} {st : Stmt} {f D : Addr} {fd : FuncData} {N ps : List Str} {k : Nat} {sp : Addr → List V → Hp → VK → Prop} (F : Fun K x x st f fd) (S : FnScope N ps (defScope st)) (len : ∀ a vs H Q, sp a vs H Q → vs.length = ps.length)
    (body : ∀ (cdv : Value) (A : Around) (outer : List Env) (s : Shared) (H : Hp) (vs : List V) (Q : VK) (p : Addr × Obj), L2H.RoomH k (A.deeper (envOfC x (defScope st) s.heap.objs.size f cdv)) → ErrOf D p.2 → sp p.1 vs H Q →
      ∃ t, PSs (L2H.cxH CX0 P w K mg base N x (defScope st) f cdv A outer s H E0 p).nox (defBody st) t ∧ t { nx := fun _ G => Q .non G, rt := Q } (L2.start N vs) H) : FnE P w K mg base (k + 1) f fd ps D sp := by
  obtain ⟨oc, od, kV, doc, pm, an, cdv, ct, osl, rfl, lk, hcd⟩ := F.ex
  refine ⟨len, fun A outer s H args us vs Q p hr pin err e0 bnd rv hsp => ?_⟩
  have inK : K.In s.heap := e0.mod.kin.keeps fun b o e => (e0.bs b o e).1
  refine codeAny_call_function hr.depth (inK _ _ lk) rfl S.co S.gen rfl (PySem.W.codeRec_of inK hcd) (bnd _ _ _ _ ?_)
  refine wpAny_newFunctionEnv_cells S.kind (fun y hy => ?_) fun env he s1 inC => ?_
  · rcases S.par y.1 (List.of_mem_zip (show (y.1, y.2) ∈ ps.zip us from hy)).1 with z | z
    · exact .inl z
    · exact .inr ⟨z, PySem.W.cellsFrom_some _ _ _ (.inl z)⟩
  · subst he
    refine ⟨(e0.mod.nolimit.keeps fun b o e => (e0.bs b o e).1).keeps inC.toInCall.keep, codeAny_func ?_⟩
    obtain ⟨t, ht, hq⟩ := body cdv A outer s H vs Q p (hr.deeper _) err hsp
    have J : L2.Inv (L2H.cxH CX0 P w K mg base N x (defScope st) f cdv A outer s H E0 p) [] (L2.start N vs) H s1 := L2H.inv_startH S pin e0 (len _ _ _ _ hsp) rv inC
    refine wpAny_mono (ht.nox.run [] s1 (L2.start N vs) H _ J hq) (fun fl s' hs => ?_) fun e s' hs => hs
    cases fl with
    | ret u =>
      obtain ⟨v, σ', H', J', rv', q⟩ := hs
      exact ⟨v, H', J'.os, J'.bare, J'.base, J'.hok, rv', q⟩
    | next =>
      obtain ⟨σ', H', J', q⟩ := hs
      exact ⟨.non, H', J'.os, J'.bare, J'.base, J'.hok, rfl, q⟩
    | brk =>
      obtain ⟨_, _, _, q⟩ := hs
      exact q.elim
    | cont =>
      obtain ⟨_, _, _, q⟩ := hs
      exact q.elim
theorem pe_callE {X : Cx} {k : Nat} {f D : Addr} {fd : FuncData} {ps : List Str} {sp : Addr → List V → Hp → VK → Prop} {x : Str} {u1 u2 : Pos} {e : Expr} {es : List Expr} {t : TA} {p : Addr × Obj} (F : FnE X.prog X.w X.K X.mg X.base k f fd ps D sp) (hr : L2H.RoomH k X.A) (hp : p ∈ X.pn) (hz : ErrOf D p.2) (hg : Gl X x) (hm : X.mg x = some (.ref f))
    (hk : PySem.W.keepIn X.K (.ref f) = true) (hb : L2.Binds X.K fd ps []) (ha : PA X (e :: es) t) (hdb : (x == ("__debug__" : Str)) = false := by decide) (he : starEach (e :: es) X.env = (false, eval e X.env) :: starEach es X.env := by rfl) (hpl : (backTo u2 (starEach es X.env)).any (·.1) = false := by rfl) :
    PE X (.Call (.Name x u1) (e :: es) [] u2) (fun σ H Q => t σ H fun vs G => sp p.1 vs G Q) := by
  refine ⟨fun pins s σ H Q I h => wpAny_Call_Name_kw (ld_glob I hg hm ?_ hdb)⟩
  refine PySem.W.callWith_K (h₀ := X.base) I.ok.mod.kin hk (thn (ha.run u2 pins s σ H _ I h) fun us t1 ⟨vs, G, J, rv, q⟩ => ⟨J.kIn, ?_⟩) he hpl
  have hl : us.length = ps.length := by
    rw [← rv.length]
    exact F.len _ _ _ _ q
  have bnd := hb t1 us J.kIn (by rw [List.append_nil]; exact hl)
  rw [List.append_nil] at bnd
  have pp := J.pin p (List.mem_append_left _ hp)
  have pin : L2H.PinOk X.stack G t1 p := ⟨pp.1, pp.2.1, fun hm => (List.mem_cons.mp (J.stkSub p.1 hm)).elim pp.2.2.1 pp.2.2.2.1, pp.2.2.2.2⟩
  refine wpAny_call (codeAny_mono (F.run X.A X.stack t1 G ⟨us, []⟩ us vs Q p hr pin hz J.env0 bnd rv q) fun r s' hq => ?_)
  cases r with
  | error e => exact (show False from hq).elim
  | ok fl =>
    cases fl with
    | ret u => exact J.after hq
    | next => exact (show False from hq).elim
    | brk => exact (show False from hq).elim
    | cont => exact (show False from hq).elim
theorem pass00 {X : Cx} {P : Program} {w : World} : Passes (L2.CX P w) X E0 := fun _ _ _ _ _ _ _ h => by
  obtain ⟨a, B, H', cls, d, _, _, _, _, _, _, _, h⟩ := h
  exact h.elim
end Dl

namespace Dl
open PySem PySem.Spec PyProof.Rows L2
/-! ### a reading step by step: nothing is opened ahead of its value -/
def setK (i : Nat) (ρ : List Sl) (nx : List Sl → Prop) : Sl → Prop := fun s => match s with
  | .un => False
  | .bl _ => False
  | .bo _ => False
  | s => nx (ρ.set i s)
def retK (rt : Sl → Prop) : Sl → Prop := fun s => match s with
  | .bl _ => False
  | .st => False
  | .scr _ => False
  | .bo _ => False
  | s => rt s
def tstK (Qd : Bool → Prop) : Sl → Prop := fun s => match s with
  | .d (.bool b) => Qd b
  | _ => False
def truK (Qd : Bool → Prop) : Sl → Prop := fun s => match truD s with
  | some b => Qd b
  | none => False
def iteS (g h : TDS) (dd : DEnds) (R : Er → Prop) (ρ : List Sl) : Bool → Prop := fun b => match b with
  | true => g dd R ρ
  | false => h dd R ρ
def iteE (fa fb : TD) (ρ : List Sl) (Qd : Sl → Prop) (R : Er → Prop) : Bool → Prop := fun b => match b with
  | true => fa ρ Qd R
  | false => fb ρ Qd R
def andK (e : TDT) (ρ : List Sl) (Qd : Bool → Prop) (R : Er → Prop) : Bool → Prop := fun b => match b with
  | true => e ρ Qd R
  | false => Qd false
def orK (e : TDT) (ρ : List Sl) (Qd : Bool → Prop) (R : Er → Prop) : Bool → Prop := fun b => match b with
  | true => Qd true
  | false => e ρ Qd R
def andV (fb : TD) (ρ : List Sl) (Qd : Sl → Prop) (R : Er → Prop) : Bool → Prop := fun b => match b with
  | true => fb ρ Qd R
  | false => Qd (.d (.bool false))
def orV (fb : TD) (ρ : List Sl) (Qd : Sl → Prop) (R : Er → Prop) : Bool → Prop := fun b => match b with
  | true => Qd (.d (.bool true))
  | false => fb ρ Qd R
def asgK (fg : FG) (ρ : List Sl) (nx : List Sl → Prop) : Sl → Prop := fun s => match s.dat with
  | some x => fg x ρ nx
  | none => False
def chK (g : Sl → Sl → (Sl → Prop) → Prop) (fc : TD) (ρ : List Sl) (Qd : Sl → Prop) (R : Er → Prop) (u : Sl) : Sl → Prop := fun z => match z with
  | .d (.bool b) => (match b with
    | true => fc ρ (fun y => g u y Qd) R
    | false => Qd (.d (.bool false)))
  | _ => False
def tpK (Qd : List PyData → Prop) : Sl → Prop := fun s => match s.dat with
  | some (.tuple xs) => Qd xs
  | _ => False
def lsK (Qd : List PyData → Prop) : Sl → Prop := fun s => match s.dat with
  | some (.list xs) => Qd xs
  | _ => False
def sqK (Qd : List PyData → Prop) : Sl → Prop := fun s => match s.seq with
  | some xs => Qd xs
  | none => False
section
variable {dd : DEnds} {R : Er → Prop} {ρ : List Sl} {Qd : Sl → Prop} {Qb : Bool → Prop} {Ql : List PyData → Prop} {Qs : List Sl → Prop} {i j : Nat} {fe fa fb fc : TD} {g h : TDS} {c e : TDT} {x : PyData} {xs ys : List PyData} {v : V} {f f' : Sl → Sl → (Sl → Prop) → Prop} {nx : List Sl → Prop} {rt : Sl → Prop} {b : Bool} {fg : FG} {n : Int} {y : Str} {fi : TDI} {fA : TDA} {u : Sl}
theorem dNext_c : dNext dd R ρ = dd.nx ρ := propext Iff.rfl
theorem dBreak_c : dBreak dd R ρ = dd.bk ρ := propext Iff.rfl
theorem dCont_c : dCont dd R ρ = dd.ct ρ := propext Iff.rfl
theorem dSeq_c : dSeq g h dd R ρ = g { dd with nx := h dd R } R ρ := propext Iff.rfl
theorem dDrop_c : dDrop fe dd R ρ = fe ρ (fun _ => dd.nx ρ) R := propext Iff.rfl
theorem dRet_c : dRet fe dd R ρ = fe ρ (retK dd.rt) R := propext Iff.rfl
theorem retK_d : retK rt (.d x) = rt (.d x) := propext Iff.rfl
theorem retK_m : retK rt (.ml xs) = rt (.ml xs) := propext Iff.rfl
theorem retK_r : retK rt (.raw v) = rt (.raw v) := propext Iff.rfl
theorem dRetN_c : dRetN dd R ρ = dd.rt (.d .none) := propext Iff.rfl
theorem dIfS_c : dIfS c g h dd R ρ = c ρ (iteS g h dd R ρ) R := propext Iff.rfl
theorem iteS_t : iteS g h dd R ρ true = g dd R ρ := propext Iff.rfl
theorem iteS_f : iteS g h dd R ρ false = h dd R ρ := propext Iff.rfl
theorem dSet_c : dSet i fe dd R ρ = fe ρ (setK i ρ dd.nx) R := propext Iff.rfl
theorem setK_d : setK i ρ nx (.d x) = nx (ρ.set i (.d x)) := propext Iff.rfl
theorem setK_m : setK i ρ nx (.ml xs) = nx (ρ.set i (.ml xs)) := propext Iff.rfl
theorem setK_s : setK i ρ nx .st = nx (ρ.set i .st) := propext Iff.rfl
theorem setK_r : setK i ρ nx (.raw v) = nx (ρ.set i (.raw v)) := propext Iff.rfl
theorem dAsg_c : dAsg fe fg dd R ρ = fe ρ (asgK fg ρ dd.nx) R := propext Iff.rfl
theorem asgK_d : asgK fg ρ nx (.d x) = fg x ρ nx := propext Iff.rfl
theorem asgK_m : asgK fg ρ nx (.ml xs) = fg (.list xs) ρ nx := propext Iff.rfl
theorem dFz_c : dFz i g dd R ρ = g dd R (ρ.set i ((ρ[i]?).getD .un).fz) := propext Iff.rfl
theorem dNever_c : dNever dd R ρ = False := propext Iff.rfl
theorem dRaise_c {C : Addr} : dRaise C dd R ρ = R (C, []) := propext Iff.rfl
theorem dC_c : dC v ρ Qd R = Qd (vS v) := propext Iff.rfl
theorem dOp_c : dOp f fa fb ρ Qd R = fa ρ (fun s => fb ρ (fun u => f s u Qd) R) R := propext Iff.rfl
theorem dUn_c {f1 : Sl → (Sl → Prop) → Prop} : dUn f1 fa ρ Qd R = fa ρ (fun s => f1 s Qd) R := propext Iff.rfl
theorem dTst_c : dTst fe ρ Qb R = fe ρ (tstK Qb) R := propext Iff.rfl
theorem tstK_c : tstK Qb (.d (.bool b)) = Qb b := propext Iff.rfl
theorem dTru_c : dTru fe ρ Qb R = fe ρ (truK Qb) R := propext Iff.rfl
theorem truK_n : truK Qb (.d .none) = Qb false := propext Iff.rfl
theorem truK_b : truK Qb (.d (.bool b)) = Qb b := propext Iff.rfl
theorem truK_i : truK Qb (.d (.int n)) = Qb (n != 0) := propext Iff.rfl
theorem truK_t : truK Qb (.d (.tuple xs)) = Qb (!xs.isEmpty) := propext Iff.rfl
theorem truK_l : truK Qb (.d (.list xs)) = Qb (!xs.isEmpty) := propext Iff.rfl
theorem truK_m : truK Qb (.ml xs) = Qb (!xs.isEmpty) := propext Iff.rfl
theorem truK_bl : truK Qb (.bl xs) = Qb (!xs.isEmpty) := propext Iff.rfl
theorem dNot_c : dNot c ρ Qb R = c ρ (fun b => Qb (!b)) R := propext Iff.rfl
theorem dAnd_c : dAnd c e ρ Qb R = c ρ (andK e ρ Qb R) R := propext Iff.rfl
theorem andK_t : andK e ρ Qb R true = e ρ Qb R := propext Iff.rfl
theorem andK_f : andK e ρ Qb R false = Qb false := propext Iff.rfl
theorem dOr_c : dOr c e ρ Qb R = c ρ (orK e ρ Qb R) R := propext Iff.rfl
theorem orK_t : orK e ρ Qb R true = Qb true := propext Iff.rfl
theorem orK_f : orK e ρ Qb R false = e ρ Qb R := propext Iff.rfl
theorem dAndV_c : dAndV fa fb ρ Qd R = fa ρ (tstK (andV fb ρ Qd R)) R := propext Iff.rfl
theorem andV_t : andV fb ρ Qd R true = fb ρ Qd R := propext Iff.rfl
theorem andV_f : andV fb ρ Qd R false = Qd (.d (.bool false)) := propext Iff.rfl
theorem dOrV_c : dOrV fa fb ρ Qd R = fa ρ (tstK (orV fb ρ Qd R)) R := propext Iff.rfl
theorem orV_t : orV fb ρ Qd R true = Qd (.d (.bool true)) := propext Iff.rfl
theorem orV_f : orV fb ρ Qd R false = fb ρ Qd R := propext Iff.rfl
theorem dNotV_c : dNotV fa ρ Qd R = fa ρ (tstK fun b => Qd (.d (.bool !b))) R := propext Iff.rfl
theorem dIf_c : dIf c fa fb ρ Qd R = c ρ (iteE fa fb ρ Qd R) R := propext Iff.rfl
theorem iteE_t : iteE fa fb ρ Qd R true = fa ρ Qd R := propext Iff.rfl
theorem iteE_f : iteE fa fb ρ Qd R false = fb ρ Qd R := propext Iff.rfl
theorem dChain_c : dChain f f' fa fb fc ρ Qd R = fa ρ (fun s => fb ρ (fun u => f s u (chK f' fc ρ Qd R u)) R) R := propext Iff.rfl
theorem chK_t : chK f' fc ρ Qd R u (.d (.bool true)) = fc ρ (fun y => f' u y Qd) R := propext Iff.rfl
theorem chK_f : chK f' fc ρ Qd R u (.d (.bool false)) = Qd (.d (.bool false)) := propext Iff.rfl
theorem dNil_c : dNil ρ Qs R = Qs [] := propext Iff.rfl
theorem dCons_c {fr : TDA} : dCons fa fr ρ Qs R = fa ρ (fun s => fr ρ (fun ss => Qs (s :: ss)) R) R := propext Iff.rfl
theorem dCB_c {r : List Sl → (Sl → Prop) → Prop} : dCB r fA ρ Qd R = fA ρ (fun ss => r ss Qd) R := propext Iff.rfl
theorem dCall_c {ms : List Bool} {sp : SpD} : dCall ms sp fA ρ Qd R = fA ρ (fun ss => sp (cvs ms ss) Qd R) R := propext Iff.rfl
theorem dCall0_c {ms : List Bool} {sp : SpD} : dCall0 ms sp fA ρ Qd R = fA ρ (fun ss => sp (cvs ms ss) Qd fun _ => False) R := propext Iff.rfl
def tupK (Qd : Sl → Prop) (ss : List Sl) : Prop := ss.length ≤ sizeLine ∧ match dats ss with
  | some ds => Qd (.d (.tuple ds))
  | none => False
def lstK (Qd : Sl → Prop) (ss : List Sl) : Prop := ss.length ≤ sizeLine ∧ match dats ss with
  | some ds => Qd (.ml ds)
  | none => False
theorem dTup_c : dTup fA ρ Qd R = fA ρ (tupK Qd) R := propext Iff.rfl
theorem dLst_c : dLst fA ρ Qd R = fA ρ (lstK Qd) R := propext Iff.rfl
theorem dFor_c : dFor fi fg g dd R ρ = fi ρ (fun ds => forD fg g dd R ds ρ) R := propext Iff.rfl
theorem dLc_c {vs : List Nat} : dLc fi fg c fe vs ρ Qd R = fi ρ (fun ds => lcD fg c fe (wipeD ρ vs) R (fun ys => Qd (.ml ys)) ds []) R := propext Iff.rfl
theorem iTp_c : iTp fe ρ Ql R = fe ρ (tpK Ql) R := propext Iff.rfl
theorem tpK_c : tpK Ql (.d (.tuple xs)) = Ql xs := propext Iff.rfl
theorem iLst_c : iLst fe ρ Ql R = fe ρ (lsK Ql) R := propext Iff.rfl
theorem lsK_d : lsK Ql (.d (.list xs)) = Ql xs := propext Iff.rfl
theorem lsK_m : lsK Ql (.ml xs) = Ql xs := propext Iff.rfl
theorem iSeq_c : iSeq fe ρ Ql R = fe ρ (sqK Ql) R := propext Iff.rfl
theorem sqK_d : sqK Ql (.d (.list xs)) = Ql xs := propext Iff.rfl
theorem sqK_m : sqK Ql (.ml xs) = Ql xs := propext Iff.rfl
theorem sqK_b : sqK Ql (.bl xs) = Ql xs := propext Iff.rfl
theorem dSl_c {r : Sl → Option Int → Option Int → (Sl → Prop) → Prop} {fl fh : TDO} : dSl r fe fl fh ρ Qd R = fe ρ (fun s => fl ρ (fun l => fh ρ (fun h => r s l h Qd) R) R) R := propext Iff.rfl
theorem dNo_c {Qo : Option Int → Prop} : dNo ρ Qo R = Qo none := propext Iff.rfl
def ptK (Qo : Option Int → Prop) : Sl → Prop := fun s => match s with
  | .d (.int i) => Qo (some i)
  | _ => False
theorem dPt_c {Qo : Option Int → Prop} : dPt fe ρ Qo R = fe ρ (ptK Qo) R := propext Iff.rfl
theorem ptK_c {Qo : Option Int → Prop} : ptK Qo (.d (.int n)) = Qo (some n) := propext Iff.rfl
theorem dYes_c : dYes ρ Qb R = Qb true := propext Iff.rfl
theorem dBack_c : dBack fe ρ Qd R = fe ρ (fun s => match s with
  | .d (.tuple xs) => Qd (.d (.tuple xs.reverse))
  | _ => False) R := propext Iff.rfl
theorem dDict0_c : dDict0 ρ Qd R = Qd (.d (.dict [])) := propext Iff.rfl
theorem dDict1_c {k n : Int} : dDict1 k n ρ Qd R = Qd (.d (.dict [(.int k, .int n)])) := propext Iff.rfl
theorem gdName_c {Qρ : List Sl → Prop} : gdName i x ρ Qρ = Qρ (ρ.set i (.d x)) := propext Iff.rfl
theorem gdTup_c {m : Nat} {fs : FGs} {Qρ : List Sl → Prop} : gdTup m fs (.tuple xs) ρ Qρ = (xs.length = m ∧ fs xs ρ Qρ) := propext Iff.rfl
theorem gdCons_c {fs : FGs} {Qρ : List Sl → Prop} : gdCons fg fs (x :: xs) ρ Qρ = fg x ρ (fun ρ' => fs xs ρ' Qρ) := propext Iff.rfl
theorem gdNil_c {Qρ : List Sl → Prop} : gdNil [] ρ Qρ = Qρ ρ := propext Iff.rfl
def apK (xs : List PyData) (i : Nat) (ρ : List Sl) (nx : List Sl → Prop) : Sl → Prop := fun s => xs.length < sizeLine ∧ match s.dat with
    | some y => nx (ρ.set i (.ml (xs ++ [y])))
    | none => False
def appK (i : Nat) (fe : TD) (ρ : List Sl) (nx : List Sl → Prop) (R : Er → Prop) : Sl → Prop := fun s => match s with
  | .ml xs => fe ρ (apK xs i ρ nx) R
  | _ => False
theorem dApp_c : dApp i fe dd R ρ = appK i fe ρ dd.nx R ((ρ[i]?).getD .un) := propext Iff.rfl
theorem appK_c : appK i fe ρ nx R (.ml xs) = fe ρ (apK xs i ρ nx) R := propext Iff.rfl
theorem apK_d : apK xs i ρ nx (.d x) = (xs.length < sizeLine ∧ nx (ρ.set i (.ml (xs ++ [x])))) := propext Iff.rfl
theorem apK_m : apK xs i ρ nx (.ml ys) = (xs.length < sizeLine ∧ nx (ρ.set i (.ml (xs ++ [.list ys])))) := propext Iff.rfl
def varK (Qd : Sl → Prop) : Sl → Prop := fun s => match s with
  | .un => False
  | .d x => Qd (.d x)
  | .ml xs => Qd (.bl xs)
  | .bl xs => Qd (.bl xs)
  | .st => Qd .st
  | .scr ns => Qd (.scr ns)
  | .raw v => Qd (.raw v)
  | .mo o => Qd (.bo o)
  | .bo o => Qd (.bo o)
theorem dVar_c : dVar i ρ Qd R = varK Qd ((ρ[i]?).getD .un) := propext Iff.rfl
theorem varK_d : varK Qd (.d x) = Qd (.d x) := propext Iff.rfl
theorem varK_m : varK Qd (.ml xs) = Qd (.bl xs) := propext Iff.rfl
theorem varK_b : varK Qd (.bl xs) = Qd (.bl xs) := propext Iff.rfl
theorem varK_s : varK Qd .st = Qd .st := propext Iff.rfl
theorem varK_sc {ns : List Int} : varK Qd (.scr ns) = Qd (.scr ns) := propext Iff.rfl
theorem varK_r : varK Qd (.raw v) = Qd (.raw v) := propext Iff.rfl
theorem varK_mo {o : OD} : varK Qd (.mo o) = Qd (.bo o) := propext Iff.rfl
theorem varK_bo {o : OD} : varK Qd (.bo o) = Qd (.bo o) := propext Iff.rfl
theorem setK_mo {o : OD} : setK i ρ nx (.mo o) = nx (ρ.set i (.mo o)) := propext Iff.rfl
theorem retK_mo {o : OD} : retK rt (.mo o) = rt (.mo o) := propext Iff.rfl
theorem dNew_c : dNew i fA dd R ρ = fA ρ (fun ss => (∃ ns, ∃ k : Nat, ss = [.scr ns, .d (.int (k : Int))]) ∧ dd.nx (ρ.set i .st)) R := propext Iff.rfl
def toldK (Qd : Sl → Prop) : Sl → Prop := fun s => match s.dat with
  | some x => Qd (.d (.tuple [.str "told", x]))
  | none => False
def wordK (C : Nat → Addr) (ms : List Nat) (wd : Nat → Str) (Qd : Sl → Prop) : Er → Prop := fun er => ∃ m, m ∈ ms ∧ er = (C m, []) ∧ Qd (.d (.tuple [.str (wd m)]))
theorem dSaid_c {C : Nat → Addr} {ms : List Nat} {wd : Nat → Str} : dSaid C ms wd fe ρ Qd R = fe ρ (toldK Qd) (wordK C ms wd Qd) := propext Iff.rfl
theorem toldK_d : toldK Qd (.d x) = Qd (.d (.tuple [.str "told", x])) := propext Iff.rfl
theorem toldK_m : toldK Qd (.ml xs) = Qd (.d (.tuple [.str "told", .list xs])) := propext Iff.rfl
def rgK (Ql : List PyData → Prop) : List Sl → Prop := fun ss => match ss with
  | [.d (.int j)] => -(2 ^ 62) ≤ j ∧ j < 2 ^ 62 ∧ Ql (rangeD 0 j.toNat)
  | _ => False
def rgK2 (Ql : List PyData → Prop) : List Sl → Prop := fun ss => match ss with
  | [.d (.int i), .d (.int j)] => (-(2 ^ 62) ≤ i ∧ i < 2 ^ 62 ∧ -(2 ^ 62) ≤ j ∧ j < 2 ^ 62) ∧ Ql (rangeD i (j - i).toNat)
  | _ => False
theorem iRg1_c : iRg1 fA ρ Ql R = fA ρ (rgK Ql) R := propext Iff.rfl
theorem rgK_c : rgK Ql [.d (.int n)] = (-(2 ^ 62) ≤ n ∧ n < 2 ^ 62 ∧ Ql (rangeD 0 n.toNat)) := propext Iff.rfl
theorem iRg2_c : iRg2 fA ρ Ql R = fA ρ (rgK2 Ql) R := propext Iff.rfl
theorem rgK2_c {m : Int} : rgK2 Ql [.d (.int m), .d (.int n)] = ((-(2 ^ 62) ≤ m ∧ m < 2 ^ 62 ∧ -(2 ^ 62) ≤ n ∧ n < 2 ^ 62) ∧ Ql (rangeD m (n - m).toNat)) := propext Iff.rfl
def enK (Ql : List PyData → Prop) : List Sl → Prop := fun ss => match ss with
  | [.d (.tuple xs)] => Ql (enumD xs)
  | _ => False
theorem iEnT_c : iEnT fA ρ Ql R = fA ρ (enK Ql) R := propext Iff.rfl
theorem enK_c : enK Ql [.d (.tuple xs)] = Ql (enumD xs) := propext Iff.rfl
def zpK (Ql : List PyData → Prop) : List Sl → Prop := fun ss => match ss with
  | [s, u] => (match s.dat, u.dat with
    | some (.list xs), some (.list ys) => Ql (zipD xs ys)
    | some (.tuple xs), some (.tuple ys) => Ql (zipD xs ys)
    | _, _ => False)
  | _ => False
theorem iZp_c : iZp fA ρ Ql R = fA ρ (zpK Ql) R := propext Iff.rfl
theorem zpK_tt : zpK Ql [.d (.tuple xs), .d (.tuple ys)] = Ql (zipD xs ys) := propext Iff.rfl
theorem zpK_mm : zpK Ql [.ml xs, .ml ys] = Ql (zipD xs ys) := propext Iff.rfl
theorem zpK_ll : zpK Ql [.d (.list xs), .d (.list ys)] = Ql (zipD xs ys) := propext Iff.rfl
theorem zpK_lm : zpK Ql [.d (.list xs), .ml ys] = Ql (zipD xs ys) := propext Iff.rfl
theorem zpK_ml : zpK Ql [.ml xs, .d (.list ys)] = Ql (zipD xs ys) := propext Iff.rfl
def parK (i j : Nat) (ρ : List Sl) (nx : List Sl → Prop) : List Sl → Prop := fun ss => match ss with
  | [s, .ml ys] => (match s.flat with
    | some x => nx ((ρ.set i (vS x)).set j (.ml ys))
    | none => False)
  | [s, .d y] => (match s.dat with
    | some x => nx ((ρ.set i (.d x)).set j (.d y))
    | none => False)
  | _ => False
theorem dPar_c : dPar i j fA dd R ρ = fA ρ (parK i j ρ dd.nx) R := propext Iff.rfl
theorem parK_im : parK i j ρ nx [.d (.int n), .ml ys] = nx ((ρ.set i (.d (.int n))).set j (.ml ys)) := propext Iff.rfl
theorem parK_nm : parK i j ρ nx [.d .none, .ml ys] = nx ((ρ.set i (.d .none)).set j (.ml ys)) := propext Iff.rfl
theorem parK_sm : parK i j ρ nx [.d (.str y), .ml ys] = nx ((ρ.set i (.d (.str y))).set j (.ml ys)) := propext Iff.rfl
theorem parK_dd {x' : PyData} : parK i j ρ nx [.d x, .d x'] = nx ((ρ.set i (.d x)).set j (.d x')) := propext Iff.rfl
theorem parK_md : parK i j ρ nx [.ml xs, .d x] = nx ((ρ.set i (.d (.list xs))).set j (.d x)) := propext Iff.rfl
/-- all of them data, by one -/
theorem dats_nil : dats [] = some [] := rfl
theorem dats_d {ss : List Sl} {ds : List PyData} (h : dats ss = some ds) : dats (.d x :: ss) = some (x :: ds) := by
  unfold dats
  rw [h]
  rfl
theorem dats_m {ss : List Sl} {ds : List PyData} (h : dats ss = some ds) : dats (.ml xs :: ss) = some (.list xs :: ds) := by
  unfold dats
  rw [h]
  rfl
end
end Dl

namespace Dl
open PySem PySem.Spec PyProof.Rows L2
section
variable {K : PySem.W.Frag} {τ : List (Addr × Str)} {E : XK}
/-! ### tuple(range(..)), list(range(..)) -/
abbrev TRg := L2.St → Hp → (Int → Int → Hp → Prop) → Prop
abbrev TDR := List Sl → (Int → Int → Prop) → (Er → Prop) → Prop
class RefRg (K : PySem.W.Frag) (τ : List (Addr × Str)) (E : XK) (t : TRg) (f : outParam TDR) : Prop where
  go : ∀ (W : Wld τ) (A : Addr → Prop) (H : Hp) (σ : L2.St) (ρ : List Sl) (Qd : Int → Int → Prop) (R : Er → Prop) (Q : Int → Int → Hp → Prop), At K W A E H σ ρ R → f ρ Qd R → (∀ a b H', Fr W.B H H' → W.I H' → Qd a b → Q a b H') → t σ H Q
def rg1K (Qd : Int → Int → Prop) : Sl → Prop := fun s => match s with
  | .d (.int n) => Qd 0 n
  | _ => False
def rg2K (Qd : Int → Int → Prop) : Sl → Sl → Prop := fun s u => match s, u with
  | .d (.int m), .d (.int n) => Qd m n
  | _, _ => False
def dRg1 (f : TD) : TDR := fun ρ Qd R => f ρ (rg1K Qd) R
def dRg2 (f g : TD) : TDR := fun ρ Qd R => f ρ (fun s => g ρ (rg2K Qd s) R) R
instance {t : TE} {f : TD} [ht : RefE K τ E t f] : RefRg K τ E (tRg1 t) (dRg1 f) := ⟨fun W A H σ ρ Qd R Q a h w => by
  refine ht.go W A H σ ρ _ R _ a h fun v H1 s f1 i1 r1 q => ?_
  unfold rg1K at q
  split at q
  · rename_i n
    exact ⟨n, r1.flat (u := .int n) rfl, w _ _ H1 f1 i1 q⟩
  · exact q.elim⟩
instance {t u : TE} {f g : TD} [ht : RefE K τ E t f] [hu : RefE K τ E u g] : RefRg K τ E (tRg2 t u) (dRg2 f g) := ⟨fun W A H σ ρ Qd R Q a h w => by
  refine ht.go W A H σ ρ _ R _ a h fun v H1 s f1 i1 r1 q1 => ?_
  refine hu.go W A H1 σ ρ _ R _ (a.fr f1 i1) q1 fun v2 H2 s2 f2 i2 r2 q => ?_
  unfold rg2K at q
  split at q
  · rename_i m n
    exact ⟨m, n, r1.flat (u := .int m) rfl, r2.flat (u := .int n) rfl, w _ _ H2 (f1.trans f2) i2 q⟩
  · exact q.elim⟩
theorem rps_rg {A : Addr → Prop} {H : Hp} (a b : Int) : RpAll K A H (rgV a b) (rangeD a (b - a).toNat) := by
  unfold rgV rangeD
  generalize (List.range (b - a).toNat) = l
  induction l with
  | nil => exact .nil
  | cons x r ih => exact .cons (.int _) ih
def tupRg (Qd : Sl → Prop) : Int → Int → Prop := fun a b => RgOk a b ∧ Qd (.d (.tuple (rangeD a (b - a).toNat)))
def lstRg (Qd : Sl → Prop) : Int → Int → Prop := fun a b => RgOk a b ∧ Qd (.ml (rangeD a (b - a).toNat))
def dTupRg (f : TDR) : TD := fun ρ Qd R => f ρ (tupRg Qd) R
def dLstRg (f : TDR) : TD := fun ρ Qd R => f ρ (lstRg Qd) R
instance {t : TRg} {f : TDR} [ht : RefRg K τ E t f] : RefE K τ E (tTupRg t) (dTupRg f) := ⟨fun W A H σ ρ Qd R Q a h w => by
  refine ht.go W A H σ ρ _ R _ a h fun x y H1 f1 i1 q => ?_
  exact ⟨q.1, Want.tup (a.bs.fr f1 i1) (w.back f1) (rps_rg x y) q.2⟩⟩
instance {t : TRg} {f : TDR} [ht : RefRg K τ E t f] : RefE K τ E (tLstRg t) (dLstRg f) := ⟨fun W A H σ ρ Qd R Q a h w => by
  refine ht.go W A H σ ρ _ R _ a h fun x y H1 f1 i1 q => ?_
  exact ⟨q.1, Want.lst (a.bs.fr f1 i1) (w.back f1) (rps_rg x y) q.2⟩⟩
variable {ρ : List Sl} {R : Er → Prop} {Qd : Sl → Prop} {fr : TDR} {f g : TD} {Qr : Int → Int → Prop} {m n : Int}
theorem dTupRg_c : dTupRg fr ρ Qd R = fr ρ (tupRg Qd) R := propext Iff.rfl
theorem dLstRg_c : dLstRg fr ρ Qd R = fr ρ (lstRg Qd) R := propext Iff.rfl
theorem dRg1_c : dRg1 f ρ Qr R = f ρ (rg1K Qr) R := propext Iff.rfl
theorem dRg2_c : dRg2 f g ρ Qr R = f ρ (fun s => g ρ (rg2K Qr s) R) R := propext Iff.rfl
theorem rg1K_c : rg1K Qr (.d (.int n)) = Qr 0 n := propext Iff.rfl
theorem rg2K_c : rg2K Qr (.d (.int m)) (.d (.int n)) = Qr m n := propext Iff.rfl
theorem tupRg_c : tupRg Qd m n = (RgOk m n ∧ Qd (.d (.tuple (rangeD m (n - m).toNat)))) := propext Iff.rfl
theorem lstRg_c : lstRg Qd m n = (RgOk m n ∧ Qd (.ml (rangeD m (n - m).toNat))) := propext Iff.rfl
/-! ### a number among numbers; xs[::-1] -/
theorem dflats_ints : ∀ ns : List Int, dflats (ns.map PyData.int) = some (ns.map V.int)
  | [] => rfl
  | n :: r => by
    show (match dflat (.int n), dflats (r.map PyData.int) with
      | some v, some vs => some (v :: vs)
      | _, _ => none) = _
    rw [dflats_ints r]
    rfl
theorem inV_ints (x : Int) : ∀ ns : List Int, inV (.int x) (ns.map V.int) = ns.contains x
  | [] => rfl
  | n :: r => by
    show (eqV (.int n) (.int x) || inV (.int x) (r.map V.int)) = _
    rw [inV_ints x r, List.contains_cons]
    congr 1
    show decide (n = x) = _
    by_cases h : n = x
    · subst h
      simp
    · rw [decide_eq_false h]
      exact (beq_false_of_ne (fun z => h z.symm)).symm
theorem fIn_nums {x : Int} {ns : List Int} {neg : Bool} (h : Qd (.d (.bool (if neg then !(ns.contains x) else ns.contains x)))) : fIn neg (.d (.int x)) (.d (.tuple (ns.map PyData.int))) Qd := by
  unfold fIn
  show (match some (V.int x), dflats (ns.map PyData.int) with
    | some x, some ys => Qd (.d (.bool (if neg then !inV x ys else inV x ys)))
    | _, _ => False)
  rw [dflats_ints]
  show Qd (.d (.bool (if neg then !inV (.int x) (ns.map V.int) else inV (.int x) (ns.map V.int))))
  rw [inV_ints]
  exact h
def backK (Qd : Sl → Prop) : Sl → Prop := fun s => match s with
  | .d (.tuple xs) => Qd (.d (.tuple xs.reverse))
  | _ => False
theorem dBack_k : dBack f ρ Qd R = f ρ (backK Qd) R := propext Iff.rfl
theorem backK_c {xs : List PyData} : backK Qd (.d (.tuple xs)) = Qd (.d (.tuple xs.reverse)) := propext Iff.rfl
theorem rangeD_nums (lo : Int) (n : Nat) : rangeD lo n = ((List.range n).map fun (k : Nat) => lo + (k : Int)).map PyData.int := by
  unfold rangeD
  rw [List.map_map]
  rfl
theorem lay_nums (ns : List Int) : Lay (.tuple (ns.map PyData.int)) 1 := lay_tup (n := 0) fun x hx => by
  obtain ⟨q, _, rfl⟩ := List.mem_map.mp hx
  exact lay_int q _
/-- all([p(x) for x in ..]) -/
theorem lcD_allB {fg : FG} {ft : TDT} {fe : TD} (p : PyData → Bool) (ds : List PyData) (step : ∀ d ∈ ds, ∀ acc N, acc.length < sizeLine → N (acc ++ [.bool (p d)]) → lcStep fg ft fe ρ R d acc N) (hl : ds.length ≤ 100000) (q : Qd (.d (.bool (ds.all p)))) : lcD fg ft fe ρ R (fun ys => fBools gAll [.ml ys] Qd) ds [] := by
  refine lcD_map (fun d => .bool (p d)) ds [] step (by rw [List.length_nil]; omega) ?_
  have eb : (Sl.ml (ds.map fun d => PyData.bool (p d))).seq.bind (oAll dbool) = some (ds.map p) := by
    show oAll dbool (ds.map fun d => .bool (p d)) = _
    rw [show (ds.map fun d => PyData.bool (p d)) = (ds.map p).map PyData.bool by rw [List.map_map]; rfl]
    exact bools_of _
  show fBools gAll [.ml (ds.map fun d => .bool (p d))] _
  unfold fBools
  dsimp only
  rw [eb]
  show Qd (.d (.bool ((ds.map p).all id)))
  rw [List.all_map]
  exact q
theorem lcD_anyB {fg : FG} {ft : TDT} {fe : TD} (p : PyData → Bool) (ds : List PyData) (step : ∀ d ∈ ds, ∀ acc N, acc.length < sizeLine → N (acc ++ [.bool (p d)]) → lcStep fg ft fe ρ R d acc N) (hl : ds.length ≤ 100000) (q : Qd (.d (.bool (ds.any p)))) : lcD fg ft fe ρ R (fun ys => fBools gAny [.ml ys] Qd) ds [] := by
  refine lcD_map (fun d => .bool (p d)) ds [] step (by rw [List.length_nil]; omega) ?_
  have eb : (Sl.ml (ds.map fun d => PyData.bool (p d))).seq.bind (oAll dbool) = some (ds.map p) := by
    show oAll dbool (ds.map fun d => .bool (p d)) = _
    rw [show (ds.map fun d => PyData.bool (p d)) = (ds.map p).map PyData.bool by rw [List.map_map]; rfl]
    exact bools_of _
  show fBools gAny [.ml (ds.map fun d => .bool (p d))] _
  unfold fBools
  dsimp only
  rw [eb]
  show Qd (.d (.bool ((ds.map p).any id)))
  rw [List.any_map]
  exact q
theorem fIx_last {xs init : List PyData} {d : PyData} (e : xs = init ++ [d]) (h : Qd (.d d)) : fIx (.ml xs) (.d (.int (-1))) Qd := by
  show (match L2.atI xs (-1) with | some d => Qd (.d d) | none => False)
  rw [e, L2.atI_last]
  exact h
theorem fIxB_last {xs init : List PyData} {d : PyData} (e : xs = init ++ [d]) (h : Qd (.d d)) : fIx (.bl xs) (.d (.int (-1))) Qd := by
  show (match L2.atI xs (-1) with | some d => Qd (.d d) | none => False)
  rw [e, L2.atI_last]
  exact h
theorem fIxT_last {xs init : List PyData} {d : PyData} (e : xs = init ++ [d]) (h : Qd (.d d)) : fIx (.d (.tuple xs)) (.d (.int (-1))) Qd := by
  show (match L2.atI xs (-1) with | some d => Qd (.d d) | none => False)
  rw [e, L2.atI_last]
  exact h
end
end Dl

namespace Dl
open PySem PySem.Spec PyProof.Rows L2
/-! ### dicts of one's own -/
def keyOf : Sl → Option Key
  | .d (.int i) => some (.inl i)
  | .d (.str x) => some (.inr x)
  | _ => none
def valD (kvs : List (Key × PyData)) (k : Key) : Option PyData := (kvs.find? fun kv => decide (kv.1 = k)).map (·.2)
def putD (kvs : List (Key × PyData)) (k : Key) (v : PyData) : List (Key × PyData) :=
  if (kvs.any fun kv => decide (kv.1 = k)) = true then kvs.map (fun kv => if kv.1 = k then (kv.1, v) else kv) else kvs ++ [(k, v)]
section
variable {K : PySem.W.Frag} {τ : List (Addr × Str)} {E : XK}
theorem key_flat {W : Wld τ} {A : Addr → Prop} {H0 H : Hp} {v : V} {s : Sl} {k : Key} (h : VlR K W A H0 H v s) (e : keyOf s = some k) : v = kV k := by
  cases s with
  | d x => cases x <;> first | (cases e; exact h.flat rfl) | cases e
  | _ => cases e
theorem od_val {A : Addr → Prop} {H : Hp} (k : Key) : ∀ {ks : List (Key × V)} {kvs : List (Key × PyData)}, ks.map (·.1) = kvs.map (·.1) → RpAll K A H (ks.map (·.2)) (kvs.map (·.2)) → (valD kvs k = none → valV ks k = none) ∧ ∀ d, valD kvs k = some d → ∃ v, valV ks k = some v ∧ Rp K A H v d
  | [], [], _, _ => ⟨fun _ => rfl, fun d e => by cases e⟩
  | [], _ :: _, e, _ => by cases e
  | _ :: _, [], e, _ => by cases e
  | (k1, v) :: ks, (k2, d) :: kvs, e, r => by
    obtain ⟨e1, e2⟩ := List.cons.inj e
    cases r with
    | cons r1 r2 =>
      have e1 : k1 = k2 := e1
      subst e1
      by_cases h : k1 = k
      · have z1 : valD ((k1, d) :: kvs) k = some d := by unfold valD; rw [List.find?_cons_of_pos (by simpa using h)]; rfl
        rw [z1, valV_pos h]
        exact ⟨(fun q => nomatch q), fun d' q => ⟨v, rfl, by cases q; exact r1⟩⟩
      · have z1 : valD ((k1, d) :: kvs) k = valD kvs k := by unfold valD; rw [List.find?_cons_of_neg (by simpa using h)]
        rw [z1, valV_neg h]
        exact od_val k e2 r2
theorem od_any (k : Key) : ∀ {ks : List (Key × V)} {kvs : List (Key × PyData)}, ks.map (·.1) = kvs.map (·.1) → (ks.any fun kv => decide (kv.1 = k)) = kvs.any fun kv => decide (kv.1 = k)
  | [], [], _ => rfl
  | [], _ :: _, e => by cases e
  | _ :: _, [], e => by cases e
  | p :: ks, q :: kvs, e => by
    obtain ⟨e1, e2⟩ := List.cons.inj e
    rw [List.any_cons, List.any_cons, od_any k e2, show p.1 = q.1 from e1]
theorem od_map {A : Addr → Prop} {H : Hp} (k : Key) {v : V} {d : PyData} (h : Rp K A H v d) : ∀ {ks : List (Key × V)} {kvs : List (Key × PyData)}, ks.map (·.1) = kvs.map (·.1) → RpAll K A H (ks.map (·.2)) (kvs.map (·.2)) →
    (ks.map (fun kv => if kv.1 = k then (kv.1, v) else kv)).map (·.1) = (kvs.map (fun kv => if kv.1 = k then (kv.1, d) else kv)).map (·.1) ∧ RpAll K A H ((ks.map (fun kv => if kv.1 = k then (kv.1, v) else kv)).map (·.2)) ((kvs.map (fun kv => if kv.1 = k then (kv.1, d) else kv)).map (·.2))
  | [], [], _, _ => ⟨rfl, .nil⟩
  | [], _ :: _, e, _ => by cases e
  | _ :: _, [], e, _ => by cases e
  | (k1, v1) :: ks, (k2, d2) :: kvs, e, r => by
    obtain ⟨e1, e2⟩ := List.cons.inj e
    have e1 : k1 = k2 := e1
    subst e1
    cases r with
    | cons r1 r2 =>
      obtain ⟨a, b⟩ := od_map k h e2 r2
      by_cases hk : k1 = k
      · refine ⟨?_, ?_⟩
        · rw [List.map_cons, List.map_cons, List.map_cons, List.map_cons, a, if_pos hk, if_pos hk]
        · rw [List.map_cons, List.map_cons, List.map_cons, List.map_cons, if_pos hk, if_pos hk]
          exact .cons h b
      · refine ⟨?_, ?_⟩
        · rw [List.map_cons, List.map_cons, List.map_cons, List.map_cons, a, if_neg hk, if_neg hk]
        · rw [List.map_cons, List.map_cons, List.map_cons, List.map_cons, if_neg hk, if_neg hk]
          exact .cons r1 b
theorem od_put {A : Addr → Prop} {H : Hp} (k : Key) {v : V} {d : PyData} (h : Rp K A H v d) {ks : List (Key × V)} {kvs : List (Key × PyData)} (e : ks.map (·.1) = kvs.map (·.1)) (r : RpAll K A H (ks.map (·.2)) (kvs.map (·.2))) :
    (putK ks k v).map (·.1) = (putD kvs k d).map (·.1) ∧ RpAll K A H ((putK ks k v).map (·.2)) ((putD kvs k d).map (·.2)) := by
  unfold putK putD
  rw [od_any k e]
  by_cases hk : (kvs.any fun kv => decide (kv.1 = k)) = true
  · rw [if_pos hk, if_pos hk]
    exact od_map k h e r
  · rw [if_neg hk, if_neg hk]
    refine ⟨?_, ?_⟩
    · rw [List.map_append, List.map_append, e]
      rfl
    · rw [List.map_append, List.map_append]
      exact r.append (.one h)
theorem od_len {ks : List (Key × V)} {kvs : List (Key × PyData)} (e : ks.map (·.1) = kvs.map (·.1)) : ks.length = kvs.length := by
  have := congrArg List.length e
  rwa [List.length_map, List.length_map] at this
theorem bo_dk {W : Wld τ} {A : Addr → Prop} {H0 H : Hp} {v : V} {kvs : List (Key × PyData)} (h : VlR K W A H0 H v (.bo (.dk kvs))) : ∃ p ks, v = .ref p ∧ H p = some (.dK ks) ∧ ks.map (·.1) = kvs.map (·.1) ∧ RpAll K A H (ks.map (·.2)) (kvs.map (·.2)) := by
  obtain ⟨p, ho, rfl, e, n, r⟩ := h
  cases ho <;> first | exact ⟨p, _, rfl, e, r.1, r.2⟩ | exact r.elim
/-- k in d, k not in d -/
def dinK (neg : Bool) (Qd : Sl → Prop) : Sl → Sl → Prop := fun s u => match keyOf s, u with
  | some k, .bo (.dk kvs) => Qd (.d (.bool (if neg then !(valD kvs k).isSome else (valD kvs k).isSome)))
  | _, _ => False
def dDIn (neg : Bool) (fy fd : TD) : TD := fun ρ Qd R => fy ρ (fun s => fd ρ (dinK neg Qd s) R) R
theorem din_go {W : Wld τ} {A : Addr → Prop} {H0 H : Hp} {x y : V} {s u : Sl} {neg : Bool} {Qd : Sl → Prop} (b : Bs W A H0) (ry : VlR K W A H0 H y s) (rx : VlR K W A H0 H x u) (q : dinK neg Qd s u) : ∃ a o, x = .ref a ∧ DGet H a y o ∧ Qd (.d (.bool (if neg then !o.isSome else o.isSome))) := by
  unfold dinK at q
  split at q
  · rename_i k kvs ek
    obtain ⟨p, ks, rfl, e, e1, r⟩ := bo_dk rx
    obtain rfl := key_flat ry ek
    obtain ⟨z1, z2⟩ := od_val k e1 r
    refine ⟨p, valV ks k, rfl, .k e, ?_⟩
    cases h : valD kvs k with
    | none =>
      rw [z1 h]
      rw [h] at q
      exact q
    | some d =>
      obtain ⟨v, ev, _⟩ := z2 d h
      rw [ev]
      rw [h] at q
      exact q
  · exact q.elim
instance {ty td : TE} {fy fd : TD} [hy : RefE K τ E ty fy] [hd : RefE K τ E td fd] : RefE K τ E (tDIn ty td) (dDIn false fy fd) := ⟨fun W A H σ ρ Qd R Q a h w => by
  refine hy.go W A H σ ρ _ R _ a h fun y H1 s f1 i1 r1 q1 => ?_
  refine hd.go W A H1 σ ρ _ R _ (a.fr f1 i1) q1 fun x H2 u f2 i2 r2 q2 => ?_
  obtain ⟨p, o, e1, g, q⟩ := din_go a.bs (r1.fr a.bs f2) (r2.early f1) q2
  exact ⟨p, o, e1, g, (w.back (f1.trans f2)).here i2 _ q⟩⟩
instance {ty td : TE} {fy fd : TD} [hy : RefE K τ E ty fy] [hd : RefE K τ E td fd] : RefE K τ E (tDNotIn ty td) (dDIn true fy fd) := ⟨fun W A H σ ρ Qd R Q a h w => by
  refine hy.go W A H σ ρ _ R _ a h fun y H1 s f1 i1 r1 q1 => ?_
  refine hd.go W A H1 σ ρ _ R _ (a.fr f1 i1) q1 fun x H2 u f2 i2 r2 q2 => ?_
  obtain ⟨p, o, e1, g, q⟩ := din_go a.bs (r1.fr a.bs f2) (r2.early f1) q2
  exact ⟨p, o, e1, g, (w.back (f1.trans f2)).here i2 _ q⟩⟩
/-- d[k] -/
def dgetK (Qd : Sl → Prop) : Sl → Sl → Prop := fun u s => match keyOf s, u with
  | some k, .bo (.dk kvs) => (match valD kvs k with
    | some x => Qd (.d x)
    | none => False)
  | _, _ => False
def dDGet (fd fy : TD) : TD := fun ρ Qd R => fd ρ (fun u => fy ρ (dgetK Qd u) R) R
instance {ty td : TE} {fy fd : TD} [hy : RefE K τ E ty fy] [hd : RefE K τ E td fd] : RefE K τ E (tDGet td ty) (dDGet fd fy) := ⟨fun W A H σ ρ Qd R Q a h w => by
  refine hd.go W A H σ ρ _ R _ a h fun x H1 u f1 i1 r1 q1 => ?_
  refine hy.go W A H1 σ ρ _ R _ (a.fr f1 i1) q1 fun y H2 s f2 i2 r2 q2 => ?_
  unfold dgetK at q2
  split at q2
  · rename_i k kvs ek
    obtain ⟨p, ks, rfl, e, e1, r⟩ := bo_dk (r1.fr a.bs f2)
    obtain rfl := key_flat r2 ek
    split at q2
    · rename_i d ed
      obtain ⟨v, ev, rv⟩ := (od_val k e1 r).2 d ed
      exact ⟨p, v, rfl, ev ▸ DGet.k e, (w.back (f1.trans f2)) v H2 (.d d) (Fr.refl H2) i2 rv q2⟩
    · exact q2.elim
  · exact q2.elim⟩
/-- d.get(k) -/
def dget1K (Qd : Sl → Prop) : Sl → Sl → Prop := fun u s => match keyOf s, u with
  | some k, .bo (.dk kvs) => Qd (.d ((valD kvs k).getD .none))
  | _, _ => False
def isBo : Sl → Prop
  | .bo (.dk _) => True
  | _ => False
def dDGet1 (fd fy : TD) : TD := fun ρ Qd R => fd ρ (fun u => isBo u ∧ fy ρ (dget1K Qd u) R) R
instance {ty td : TE} {fy fd : TD} [hy : RefE K τ E ty fy] [hd : RefE K τ E td fd] : RefE K τ E (tDGet1 td ty) (dDGet1 fd fy) := ⟨fun W A H σ ρ Qd R Q a h w => by
  refine hd.go W A H σ ρ _ R _ a h fun x H1 u f1 i1 r1 q1 => ?_
  obtain ⟨bu, q1⟩ := q1
  unfold isBo at bu
  split at bu
  · rename_i kvs
    obtain ⟨p, ks, rfl, e, _⟩ := bo_dk r1
    refine ⟨p, rfl, .inl ⟨ks, .inl e⟩, ?_⟩
    refine hy.go W A H1 σ ρ _ R _ (a.fr f1 i1) q1 fun y H2 s f2 i2 r2 q2 => ?_
    unfold dget1K at q2
    split at q2
    · rename_i k kvs2 ek ez
      cases ez
      obtain ⟨p', ks', e0, e, e1, r⟩ := bo_dk (r1.fr a.bs f2)
      cases e0
      obtain rfl := key_flat r2 ek
      refine ⟨valV ks' k, DGet.k e, ?_⟩
      obtain ⟨z1, z2⟩ := od_val k e1 r
      cases h : valD kvs k with
      | none =>
        rw [z1 h]
        rw [h] at q2
        exact (w.back (f1.trans f2)).here i2 .non q2
      | some d =>
        obtain ⟨v, ev, rv⟩ := z2 d h
        rw [ev]
        rw [h] at q2
        exact (w.back (f1.trans f2)) v H2 (.d d) (Fr.refl H2) i2 rv q2
    · exact q2.elim
  · exact bu.elim⟩
/-- d[k] = v -/
def dputK (i : Nat) (ρ : List Sl) (nx : List Sl → Prop) (y : PyData) (o : Sl) : Sl → Prop := fun s => match keyOf s, o with
  | some k, .mo (.dk kvs) => kvs.length < sizeLine ∧ nx (ρ.set i (.mo (.dk (putD kvs k y))))
  | _, _ => False
def dputV (i : Nat) (fy : TD) (ρ : List Sl) (nx : List Sl → Prop) (R : Er → Prop) : Sl → Prop := fun s => match s.dat with
  | some y => isBo ((ρ[i]?).getD .un).val ∧ fy ρ (dputK i ρ nx y ((ρ[i]?).getD .un)) R
  | none => False
def dDPut (i : Nat) (fy fv : TD) : TDS := fun dd R ρ => fv ρ (dputV i fy ρ dd.nx R) R
instance {i : Nat} {ty tv : TE} {fy fv : TD} [hy : RefE K τ E ty fy] [hv : RefE K τ E tv fv] : RefS K τ E (sDPut (tVar i) ty tv) (dDPut i fy fv) := ⟨fun W A0 H0 D dd R H σ ρ gσ gρ b sr er ek h => by
  obtain ⟨W', A, c⟩ := sr
  refine hv.go W' A H σ ρ _ R _ (c.at_ ek) h fun v H1 s f1 i1 r1 q1 => ?_
  unfold dputV at q1
  split at q1
  · rename_i y ey
    obtain ⟨bo, q1⟩ := q1
    have c1 := c.step f1 i1
    cases e : ρ[i]? with
    | none =>
      rw [e] at bo
      exact bo.elim
    | some s0 =>
      rw [e] at bo q1
      cases s0 with
      | mo o =>
        cases o with
        | dt kvs => exact bo.elim
        | dk kvs =>
          obtain ⟨w0, ew, p, ho, rfl, ep, nB, aP, od⟩ := (c1.env.pre c1.lg).at_ _ _ e
          refine ⟨.ref p, ew, ?_⟩
          refine hy.go W' A H1 σ ρ _ R _ (c1.at_ ek) q1 fun u H2 s2 f2 i2 r2 q2 => ?_
          have c2 := c1.step f2 i2
          unfold dputK at q2
          split at q2
          · rename_i k kvs' ek2 ez
            cases ez
            obtain rfl := key_flat r2 ek2
            cases ho with
            | dK ks =>
              have rv := (r1.fr c.bs f2).dat c.bs ey
              have ep2 := f2.1 _ _ ep nt_dK nB
              have od2 : OdR K A H2 (.dK ks) (.dk kvs) := od.go (goes_fr c1.bs.ba f2)
              refine ⟨p, _, rfl, DPut.k ep2 (by rw [od_len od.1]; exact q2.1), er.nx _ _ _ ⟨W', A, c2.mutO (s1 := .mo (.dk (putD kvs k y))) e trivial ew (.dK _) fun g nB aP => ⟨p, _, rfl, upd_same, nB, aP, ?_⟩⟩ q2.2⟩
              exact OdR.go g (show OdR K A H2 (.dK (putK ks k v)) (.dk (putD kvs k y)) from od_put k rv od2.1 od2.2)
            | _ => exact od.elim
          · exact q2.elim
      | bo o => 
        cases o with
        | dt kvs => exact bo.elim
        | dk kvs =>
          obtain ⟨w0, ew, p, ho, rfl, ep, nB, od⟩ := (c1.env.pre c1.lg).at_ _ _ e
          refine ⟨.ref p, ew, ?_⟩
          refine hy.go W' A H1 σ ρ _ R _ (c1.at_ ek) q1 fun u H2 s2 f2 i2 r2 q2 => ?_
          unfold dputK at q2
          split at q2
          · rename_i ez
            cases ez
          · exact q2.elim
      | _ => exact bo.elim
  · exact q1.elim⟩
/-- x = {}, x = {y: n} -/
theorem Want.odk {W : Wld τ} {A : Addr → Prop} {H : Hp} {Qd : Sl → Prop} {Q : VK} {ks : List (Key × V)} {kvs : List (Key × PyData)} (b : Bs W A H) (h : Want K W A H Qd Q) (e : ks.map (·.1) = kvs.map (·.1)) (r : RpAll K A H (ks.map (·.2)) (kvs.map (·.2))) (q : Qd (.mo (.dk kvs))) : ∀ p, H p = none → Q (.ref p) (upd H p (.dK ks)) := fun p n =>
  h _ _ (.mo (.dk kvs)) (Fr.new n) (W.stay _ _ (same_new n) b.inv) ⟨p, _, rfl, nob n, upd_same, e, r.go fun c o ec _ nc => ⟨same_new n _ _ ec, fun z => z.elim nc (ne_of_none ec n)⟩⟩ q
def dOwn0 (i : Nat) : TDS := fun dd _ ρ => dd.nx (ρ.set i (.mo (.dk [])))
instance {i : Nat} : RefS K τ E (tAsg tDNewK (gName i)) (dOwn0 i) := ⟨fun W A0 H0 D dd R H σ ρ gσ gρ b sr er ek h => by
  obtain ⟨W', A, c⟩ := sr
  intro p n
  have f1 : Fr W'.B H (upd H p (.dK [])) := Fr.new n
  exact er.nx _ _ _ ⟨W', _, c.own (s := .mo (.dk [])) f1 (W'.stay _ _ (same_new n) c.bs.inv) (nob n) ⟨p, _, rfl, upd_same, c.bs.nB (nob n), .inr rfl, rfl, .nil⟩ trivial⟩ h⟩
def dispK (Qd : Sl → Prop) (n : Int) : Sl → Prop := fun s => match keyOf s with
  | some k => Qd (.mo (.dk [(k, .int n)]))
  | none => False
def dDispV (j : Nat) (n : Int) : TD := fun ρ Qd _ => dispK Qd n ((ρ[j]?).getD .un)
instance {j : Nat} {n : Int} : RefE K τ E (tDisp [(tVar j, tC (.int n))]) (dDispV j n) := ⟨fun W A H σ ρ Qd R Q a h w => by
  intro p np
  unfold dDispV dispK at h
  split at h
  · rename_i k ek
    cases e : ρ[j]? with
    | none =>
      rw [e] at ek
      cases ek
    | some s =>
      rw [e] at ek
      obtain ⟨v, e1, r⟩ := a.env.at_ _ _ e
      have es : s ≠ .un := fun z => by
        subst z
        cases ek
      have ek' : keyOf s.val = some k := by
        cases s <;> first | exact ek | cases ek
      obtain ⟨u, rfl, r2⟩ := r.val (H0 := H) es
      obtain rfl := key_flat r2 ek'
      refine ⟨_, e1, upd_same, [(k, .int n)], rfl, by show 1 ≤ 15; decide, ?_⟩
      rw [upd_upd]
      exact Want.odk (ks := [(k, .int n)]) (kvs := [(k, .int n)]) a.bs w rfl (.cons (.int n) .nil) h p np
  · exact h.elim⟩
/-! ### the least of some data -/
def rMinX (K : PySem.W.Frag) : List V → Hp → VK → Prop := fun xs H Q => ∃ (a : Addr) (vs : List V) (x : PyData) (ds : List PyData), xs = [.ref a] ∧ SqL K H a vs ∧ DpAll K H vs (x :: ds) ∧ PySem.W.AlikeAll (x :: ds) ∧ PyData.depthAll (x :: ds) ≤ 60 ∧ ∀ (i : Nat) (v : V), vs[i]? = some v → (x :: ds)[i]? = some (PySem.W.minD x ds) → Q v H
open PySem.W in
theorem min_idx {prog : Program} {w : World} {A : Around} {E : Value → Shared → Prop} {s : Shared} {l : Addr} {vs : Array Value} {x : PyData} {xs : List PyData} {as : List Addr} {Q : Value → Shared → Prop} (hh : A.handled = none) (hl : s.heap.IsList l vs) (hr : ReadsAll s.heap vs.toList (x :: xs) as) (ha : AlikeAll (x :: xs)) (hu : A.units + 1 + PyData.depthAll (x :: xs) < cLine)
    (h : ∀ (i : Nat) v h' tk, vs[i]? = some v → (x :: xs).getD i .none = minD x xs → (∀ b o, s.heap.get? b = some o → h'.get? b = some o) → Q v { s with heap := h', toks := tk }) :
    wpAny (model prog w) A (call (.builtin "min") [.ref l]) Q E s := by
  have hn : vs.size = xs.length + 1 := readsAll_len hr
  refine call_min_walkH (iter_listW (A := A.in1) hh hl fun s₂ e W st hfp hw hk => ?_)
  refine ⟨_, _, _, _, _, _, _, s.heap, _, rfl, W, st, hfp, by omega, hw, hk, cmpIn_lt (A := A.in1) hr ha (by show A.units + 1 + _ < _; exact hu), fun v s' hP m => ?_⟩
  obtain ⟨h', tk, rfl, hk'⟩ := moved_old e rfl m
  have e1 : vs.size - 1 = xs.length := by omega
  have e2 := (argBest_fold dataLt PyData.none x xs xs.length (Nat.le_refl _)).2
  rw [List.take_length] at e2
  exact h _ v h' tk hP (by rw [e1]; unfold minD; exact e2) hk'
theorem cr_minX {X : Cx} (hc : X.calm = true) (hu : X.A.units + 64 < cLine) : CallR X (.builtin "min") (rMinX X.K) := by
  intro pins s σ H vs us Q I r h
  obtain ⟨a, ws, x, ds, rfl, hs, hp, al, dd, q⟩ := h
  rw [Vals.ref1 r]
  obtain ⟨its, rv, hl, _⟩ := I.list hs
  obtain ⟨as, ra⟩ := Dp.readsAll I _ _ _ hp rv
  refine min_idx (I.ok.hd hc) hl.isList (by simpa using ra) al (by omega) fun i v h' tk hv hm hk => ?_
  have hv' : its[i]? = some v := by simpa using hv
  have hi : i < ws.length := by
    rw [rv.length]
    exact (List.getElem?_eq_some_iff.mp hv').1
  obtain ⟨u, e1, rel⟩ := rv.get (List.getElem?_eq_getElem hi)
  rw [e1] at hv'
  cases hv'
  have hl2 : i < (x :: ds).length := by
    have h2 := PySem.W.readsAll_len (vs := its.toArray) (by simpa using ra)
    have h3 := rv.length
    rw [List.size_toArray] at h2
    omega
  refine ⟨ws[i], H, I.kept (t' := tk) hk, rel, q i _ (List.getElem?_eq_getElem hi) ?_⟩
  rw [List.getElem?_eq_getElem hl2]
  unfold List.getD at hm
  rw [List.getElem?_eq_getElem hl2] at hm
  exact congrArg some hm
theorem cr_minXK {X : Cx} {K : PySem.W.Frag} (hK : X.K = K) (hc : X.calm = true) (hu : X.A.units + 64 < cLine) : CallR X (.builtin "min") (rMinX K) := by
  subst hK
  exact cr_minX hc hu
/-- of which a least one can be found -/
def minOk (x : PyData) (ds : List PyData) : Prop := PyData.canLayAll0 (x :: ds) = true ∧ PySem.W.AlikeAll (x :: ds) ∧ PyData.depthAll (x :: ds) ≤ 60
def minK (Qd : Sl → Prop) : List PyData → Prop := fun xs => match xs with
  | x :: ds => minOk x ds ∧ Qd (.d (PySem.W.minD x ds))
  | [] => False
def fMinX : List Sl → (Sl → Prop) → Prop := fun ss Qd => match ss with
  | [s] => (match s.seq with
    | some xs => minK Qd xs
    | none => False)
  | _ => False
instance : RefC K (rMinX K) fMinX := ⟨fun W A H0 H xs ss Qd Q b f i rx h w => by
  unfold fMinX at h
  split at h
  · obtain ⟨v, rfl, r⟩ := vlsr1 rx
    split at h
    · rename_i xs ex
      obtain ⟨p, vs, rfl, sq, r⟩ := r.seq b ex
      unfold minK at h
      split at h
      · rename_i x ds
        obtain ⟨ok, q⟩ := h
        refine ⟨p, vs, x, ds, rfl, sqLA_sq sq, r.dp ok.1, ok.2.1, ok.2.2, fun i' v ev ed => ?_⟩
        obtain ⟨d, e1, rd⟩ := r.getV ev
        rw [ed] at e1
        cases e1
        exact w v H (.d _) (Fr.refl H) i rd q
      · exact h.elim
    · exact h.elim
  · exact h.elim⟩
/-! ### the least of pairs of numbers -/
def dPair (p : Int × Int) : PyData := .tuple [.int p.1, .int p.2]
def LeT (p q : Int × Int) : Prop := p.1 < q.1 ∨ (p.1 = q.1 ∧ p.2 ≤ q.2)
end
section
variable {dd : DEnds} {R : Er → Prop} {ρ : List Sl} {Qd : Sl → Prop} {i j : Nat} {fy fd fv : TD} {kvs : List (Key × PyData)} {neg : Bool} {n : Int} {x : Str} {y : PyData} {nx : List Sl → Prop} {xs ds : List PyData} {u s : Sl}
theorem dDIn_c : dDIn neg fy fd ρ Qd R = fy ρ (fun s => fd ρ (dinK neg Qd s) R) R := propext Iff.rfl
theorem dinK_i : dinK neg Qd (.d (.int n)) (.bo (.dk kvs)) = Qd (.d (.bool (if neg then !(valD kvs (.inl n)).isSome else (valD kvs (.inl n)).isSome))) := propext Iff.rfl
theorem dinK_s : dinK neg Qd (.d (.str x)) (.bo (.dk kvs)) = Qd (.d (.bool (if neg then !(valD kvs (.inr x)).isSome else (valD kvs (.inr x)).isSome))) := propext Iff.rfl
theorem dDGet_c : dDGet fd fy ρ Qd R = fd ρ (fun u => fy ρ (dgetK Qd u) R) R := propext Iff.rfl
theorem dgetK_i (e : valD kvs (.inl n) = some y) (h : Qd (.d y)) : dgetK Qd (.bo (.dk kvs)) (.d (.int n)) := by
  show (match valD kvs (.inl n) with
    | some x => Qd (.d x)
    | none => False)
  rw [e]
  exact h
theorem dDGet1_c : dDGet1 fd fy ρ Qd R = fd ρ (fun u => isBo u ∧ fy ρ (dget1K Qd u) R) R := propext Iff.rfl
theorem isBo_c : isBo (.bo (.dk kvs)) = True := propext Iff.rfl
theorem dget1K_i : dget1K Qd (.bo (.dk kvs)) (.d (.int n)) = Qd (.d ((valD kvs (.inl n)).getD .none)) := propext Iff.rfl
theorem dDPut_c : dDPut i fy fv dd R ρ = fv ρ (dputV i fy ρ dd.nx R) R := propext Iff.rfl
theorem dputV_d : dputV i fy ρ nx R (.d y) = (isBo ((ρ[i]?).getD .un).val ∧ fy ρ (dputK i ρ nx y ((ρ[i]?).getD .un)) R) := propext Iff.rfl
theorem dputK_i : dputK i ρ nx y (.mo (.dk kvs)) (.d (.int n)) = (kvs.length < sizeLine ∧ nx (ρ.set i (.mo (.dk (putD kvs (.inl n) y))))) := propext Iff.rfl
theorem val_mo {o : OD} : Sl.val (.mo o) = .bo o := rfl
theorem dOwn0_c : dOwn0 i dd R ρ = dd.nx (ρ.set i (.mo (.dk []))) := propext Iff.rfl
theorem dDispV_c : dDispV j n ρ Qd R = dispK Qd n ((ρ[j]?).getD .un) := propext Iff.rfl
theorem dispK_i {m : Int} : dispK Qd n (.d (.int m)) = Qd (.mo (.dk [(.inl m, .int n)])) := propext Iff.rfl
theorem fMinX_b : fMinX [.bl xs] Qd = minK Qd xs := propext Iff.rfl
theorem fMinX_m : fMinX [.ml xs] Qd = minK Qd xs := propext Iff.rfl
theorem minK_c : minK Qd (y :: ds) = (minOk y ds ∧ Qd (.d (PySem.W.minD y ds))) := propext Iff.rfl
theorem valD_put (kvs : List (Key × PyData)) (k j : Key) (y : PyData) : valD (putD kvs k y) j = if j = k then some y else valD kvs j := by
  have e0 : ∀ kvs : List (Key × PyData), valD kvs k = none → (kvs.any fun kv => decide (kv.1 = k)) = false := by
    intro kvs
    induction kvs with
    | nil => intro _; rfl
    | cons p r ih =>
      intro h
      unfold valD at h
      by_cases e : p.1 = k
      · rw [List.find?_cons_of_pos (by simpa using e)] at h
        cases h
      · rw [List.find?_cons_of_neg (by simpa using e)] at h
        rw [List.any_cons, ih h]
        simp [e]
  have e1 : ∀ kvs : List (Key × PyData), valD (kvs.map fun kv => if kv.1 = k then (kv.1, y) else kv) j = (valD kvs j).map fun x => if j = k then y else x := by
    intro kvs
    induction kvs with
    | nil => rfl
    | cons p r ih =>
      unfold valD at ih ⊢
      rw [List.map_cons]
      by_cases e : p.1 = j
      · by_cases e2 : p.1 = k
        · rw [if_pos e2, List.find?_cons_of_pos (by simpa using e), List.find?_cons_of_pos (by simpa using e)]
          show some y = some (if j = k then y else p.2)
          rw [if_pos (e.symm.trans e2)]
        · rw [if_neg e2, List.find?_cons_of_pos (by simpa using e), List.find?_cons_of_pos (by simpa using e)]
          show some p.2 = some (if j = k then y else p.2)
          rw [if_neg (fun z => e2 (e.trans z))]
      · have e3 : (if p.1 = k then (p.1, y) else p).1 = p.1 := by by_cases e2 : p.1 = k <;> simp [e2]
        rw [List.find?_cons_of_neg (by rw [e3]; simpa using e), List.find?_cons_of_neg (by simpa using e)]
        exact ih
  have e2 : ∀ kvs : List (Key × PyData), (kvs.any fun kv => decide (kv.1 = k)) = false → valD (kvs ++ [(k, y)]) j = if j = k then some y else valD kvs j := by
    intro kvs
    induction kvs with
    | nil =>
      intro _
      unfold valD
      by_cases e : k = j
      · subst e
        simp
      · rw [if_neg (fun z => e z.symm)]
        simp [e]
    | cons p r ih =>
      intro h
      rw [List.any_cons, Bool.or_eq_false_iff] at h
      have e3 : ¬ p.1 = k := by simpa using h.1
      unfold valD at ih ⊢
      rw [List.cons_append]
      by_cases e : p.1 = j
      · rw [List.find?_cons_of_pos (by simpa using e), List.find?_cons_of_pos (by simpa using e), if_neg (fun z => e3 (e.trans z))]
      · rw [List.find?_cons_of_neg (by simpa using e), List.find?_cons_of_neg (by simpa using e)]
        exact ih h.2
  unfold putD
  by_cases h : (kvs.any fun kv => decide (kv.1 = k)) = true
  · rw [if_pos h, e1]
    by_cases e : j = k
    · subst e
      rw [if_pos rfl]
      cases z : valD kvs j with
      | none =>
        rw [e0 kvs z] at h
        cases h
      | some d => simp
    · rw [if_neg e]
      cases valD kvs j <;> simp [e]
  · rw [if_neg h]
    exact e2 kvs (Bool.eq_false_iff.mpr h)
theorem length_putD (kvs : List (Key × PyData)) (k : Key) (v : PyData) : (putD kvs k v).length ≤ kvs.length + 1 := by
  unfold putD
  split
  · rw [List.length_map]
    omega
  · rw [List.length_append]
    exact Nat.le_refl _
end
end Dl

namespace Dl
open PySem PySem.Spec PyProof.Rows L2
/-! ### calls by keywords, defaults -/
def pickL {α : Type} (n m : Nat) (src : List (Nat ⊕ Nat)) (d : α) (us ws : List α) : List α :=
  if us.length = n ∧ ws.length = m then src.map (fun z => match z with
    | .inl i => us.getD i d
    | .inr j => ws.getD j d) else []
theorem vals_getD {vs : List V} {us : List Value} (r : Vals vs us) (i : Nat) : RelV (vs.getD i .non) (us.getD i .none) := by
  unfold List.getD
  cases e : vs[i]? with
  | none =>
    have := List.getElem?_eq_none_iff.mp e
    rw [List.getElem?_eq_none (by rw [← r.length]; exact this)]
    exact rfl
  | some v =>
    obtain ⟨u, e1, h⟩ := r.get e
    rw [e1]
    exact h
theorem pick_vals {n m : Nat} {src : List (Nat ⊕ Nat)} {vs zs : List V} {us ws : List Value} (r : Vals vs us) (rz : Vals zs ws) : Vals (pickL n m src .non vs zs) (pickL n m src .none us ws) := by
  unfold pickL
  rw [r.length, rz.length]
  split
  · induction src with
    | nil => exact .nil
    | cons z src ih =>
      refine .cons ?_ ih
      cases z with
      | inl i => exact vals_getD r i
      | inr j => exact vals_getD rz j
  · exact .nil
def pickS (ss zs : List Sl) : List (Nat ⊕ Nat) → Option (List Sl)
  | [] => some []
  | .inl i :: r => match ss[i]?, pickS ss zs r with
    | some s, some t => some (s :: t)
    | _, _ => none
  | .inr i :: r => match zs[i]?, pickS ss zs r with
    | some s, some t => some (s :: t)
    | _, _ => none
section
variable {K : PySem.W.Frag} {τ : List (Addr × Str)} {E : XK}
theorem VlsR.get {W : Wld τ} {A : Addr → Prop} {H0 H : Hp} {vs : List V} {ss : List Sl} (r : VlsR K W A H0 H vs ss) : ∀ {i : Nat} {s : Sl}, ss[i]? = some s → ∃ v, vs[i]? = some v ∧ VlR K W A H0 H v s := by
  induction r with
  | nil => intro i s e; simp at e
  | cons a _ ih =>
    intro i s e
    cases i with
    | zero => simp at e; subst e; exact ⟨_, rfl, a⟩
    | succ i => simp at e; obtain ⟨v, h1, h2⟩ := ih e; exact ⟨v, by simpa using h1, h2⟩
theorem pick_vlsr {W : Wld τ} {A : Addr → Prop} {H0 H : Hp} {vs us : List V} {ss zs : List Sl} (r : VlsR K W A H0 H vs ss) (rz : VlsR K W A H0 H us zs) {n m : Nat} (hn : ss.length = n) (hm : zs.length = m) : ∀ {src : List (Nat ⊕ Nat)} {ps : List Sl}, pickS ss zs src = some ps → VlsR K W A H0 H (pickL n m src .non vs us) ps := by
  intro src ps
  have hl : vs.length = n ∧ us.length = m := ⟨by rw [r.length, hn], by rw [rz.length, hm]⟩
  have key : ∀ {src : List (Nat ⊕ Nat)} {ps : List Sl}, pickS ss zs src = some ps → VlsR K W A H0 H (src.map (fun z => match z with
    | .inl i => vs.getD i .non
    | .inr j => us.getD j .non)) ps := by
    intro src
    induction src with
    | nil =>
      intro ps e
      cases e
      exact .nil
    | cons z src ih =>
      intro ps e
      cases z with
      | inl i =>
        unfold pickS at e
        split at e
        · rename_i s t e1 e2
          cases e
          obtain ⟨v, ev, rv⟩ := r.get e1
          refine .cons ?_ (ih e2)
          show VlR K W A H0 H (vs.getD i .non) s
          unfold List.getD
          rw [ev]
          exact rv
        · cases e
      | inr i =>
        unfold pickS at e
        split at e
        · rename_i s t e1 e2
          cases e
          obtain ⟨v, ev, rv⟩ := rz.get e1
          refine .cons ?_ (ih e2)
          show VlR K W A H0 H (us.getD i .non) s
          unfold List.getD
          rw [ev]
          exact rv
        · cases e
  intro e
  unfold pickL
  rw [if_pos hl]
  exact key e
def kwK (ms : List Bool) (sp : SpD) (n m : Nat) (src : List (Nat ⊕ Nat)) (Qd : Sl → Prop) (R : Er → Prop) (ss zs : List Sl) : Prop := ss.length = n ∧ zs.length = m ∧ match pickS ss zs src with
  | some ps => sp (cvs ms ps) Qd R
  | none => False
def dCallK (ms : List Bool) (sp : SpD) (n m : Nat) (src : List (Nat ⊕ Nat)) (fa fk : TDA) : TD := fun ρ Qd R => fa ρ (fun ss => fk ρ (kwK ms sp n m src Qd R ss) R) R
def dCallK0 (ms : List Bool) (sp : SpD) (n m : Nat) (src : List (Nat ⊕ Nat)) (fa fk : TDA) : TD := fun ρ Qd R => fa ρ (fun ss => fk ρ (kwK ms sp n m src Qd (fun _ => False) ss) R) R
instance {ms : List Bool} {sp : SpD} {n m : Nat} {src : List (Nat ⊕ Nat)} {t tk : TA} {fa fk : TDA} [ha : RefA K τ E t fa] [hk : RefA K τ E tk fk] : RefE K τ E (L2.tCallK (spD K ms sp) (pickL n m src .non) E0 t tk) (dCallK0 ms sp n m src fa fk) := ⟨fun W A H σ ρ Qd R Q a h w => by
  refine ha.go W A H σ ρ _ R _ a h fun vs H1 ss f1 i1 r1 q => ?_
  refine hk.go W A H1 σ ρ _ R _ (a.fr f1 i1) q fun us H2 zs f2 i2 r2 q2 => ?_
  obtain ⟨hn, hm, q2⟩ := q2
  split at q2
  · rename_i ps ep
    obtain ⟨r3, ar⟩ := (pick_vlsr (r1.fr a.bs f2) (r2.early f1) hn hm ep).cvs a.bs ms
    exact ⟨τ, W, A, _, Qd, _, a.bs.fr (f1.trans f2) i2, r3, ar, q2, w.back (f1.trans f2), fun er x H' f i z r => r.elim⟩
  · exact q2.elim⟩
instance (priority := low) {ms : List Bool} {sp : SpD} {n m : Nat} {src : List (Nat ⊕ Nat)} {t tk : TA} {fa fk : TDA} [ha : RefA K τ E t fa] [hk : RefA K τ E tk fk] : RefE K τ E (L2.tCallK (spD K ms sp) (pickL n m src .non) E t tk) (dCallK ms sp n m src fa fk) := ⟨fun W A H σ ρ Qd R Q a h w => by
  refine ha.go W A H σ ρ _ R _ a h fun vs H1 ss f1 i1 r1 q => ?_
  refine hk.go W A H1 σ ρ _ R _ (a.fr f1 i1) q fun us H2 zs f2 i2 r2 q2 => ?_
  obtain ⟨hn, hm, q2⟩ := q2
  split at q2
  · rename_i ps ep
    obtain ⟨r3, ar⟩ := (pick_vlsr (r1.fr a.bs f2) (r2.early f1) hn hm ep).cvs a.bs ms
    exact ⟨τ, W, A, _, Qd, R, a.bs.fr (f1.trans f2) i2, r3, ar, q2, w.back (f1.trans f2), (a.fr (f1.trans f2) i2).er⟩
  · exact q2.elim⟩
/-- a tuple that is written in the text -/
class CTup (K : PySem.W.Frag) (T : Addr) (xs : outParam (List PyData)) : Prop where
  sq : ∃ vs, SqT K (fun _ => none) T vs ∧ ∀ A H, RpAll K A H vs xs
theorem CTup.nil {T : Addr} (h : SqT K (fun _ => none) T []) : CTup K T [] := ⟨[], h, fun _ _ => .nil⟩
class RefV (K : PySem.W.Frag) (v : V) (s : outParam Sl) : Prop where
  go : ∀ {τ : List (Addr × Str)} (W : Wld τ) (A : Addr → Prop) (H0 H : Hp), VlR K W A H0 H v s
instance {i : Int} : RefV K (.int i) (.d (.int i)) := ⟨fun _ _ _ _ => Rp.int i⟩
instance {x : Str} : RefV K (.str x) (.d (.str x)) := ⟨fun _ _ _ _ => Rp.str x⟩
instance {b : Bool} : RefV K (.bl b) (.d (.bool b)) := ⟨fun _ _ _ _ => Rp.bl b⟩
instance : RefV K .non (.d .none) := ⟨fun _ _ _ _ => Rp.non⟩
instance {T : Addr} {xs : List PyData} [h : CTup K T xs] : RefV K (.ref T) (.d (.tuple xs)) := ⟨fun W A H0 H => by
  obtain ⟨vs, sq, r⟩ := h.sq
  exact Rp.tup (.inr sq) (r A H)⟩
class RefVs (K : PySem.W.Frag) (vs : List V) (ss : outParam (List Sl)) : Prop where
  go : ∀ {τ : List (Addr × Str)} (W : Wld τ) (A : Addr → Prop) (H0 H : Hp), VlsR K W A H0 H vs ss
instance : RefVs K [] [] := ⟨fun _ _ _ _ => .nil⟩
instance {v : V} {vs : List V} {s : Sl} {ss : List Sl} [h : RefV K v s] [hs : RefVs K vs ss] : RefVs K (v :: vs) (s :: ss) := ⟨fun W A H0 H => .cons (h.go W A H0 H) (hs.go W A H0 H)⟩
theorem VlsR.app {W : Wld τ} {A : Addr → Prop} {H0 H : Hp} {vs us : List V} {ss zs : List Sl} (r : VlsR K W A H0 H vs ss) (rz : VlsR K W A H0 H us zs) : VlsR K W A H0 H (vs ++ us) (ss ++ zs) := by
  induction r with
  | nil => exact rz
  | cons a _ ih => exact .cons a ih
def dCallD (ms : List Bool) (sp : SpD) (ds : List Sl) (fa : TDA) : TD := fun ρ Qd R => fa ρ (fun ss => sp (cvs ms (ss ++ ds)) Qd R) R
def dCallD0 (ms : List Bool) (sp : SpD) (ds : List Sl) (fa : TDA) : TD := fun ρ Qd R => fa ρ (fun ss => sp (cvs ms (ss ++ ds)) Qd (fun _ => False)) R
instance {ms : List Bool} {sp : SpD} {v : V} {dvs : List V} {ds : List Sl} {t : TA} {fa : TDA} [hd : RefVs K (v :: dvs) ds] [ha : RefA K τ E t fa] : RefE K τ E (tCall (spD K ms sp) (v :: dvs) E0 t) (dCallD0 ms sp ds fa) := ⟨fun W A H σ ρ Qd R Q a h w => by
  refine ha.go W A H σ ρ _ R _ a h fun vs H1 ss f1 i1 r1 q => ?_
  obtain ⟨r2, ar⟩ := (r1.app (hd.go W A H H1)).cvs a.bs ms
  exact ⟨τ, W, A, _, Qd, _, a.bs.fr f1 i1, r2, ar, q, w.back f1, fun er x H' f i z r => r.elim⟩⟩
instance (priority := low) {ms : List Bool} {sp : SpD} {v : V} {dvs : List V} {ds : List Sl} {t : TA} {fa : TDA} [hd : RefVs K (v :: dvs) ds] [ha : RefA K τ E t fa] : RefE K τ E (tCall (spD K ms sp) (v :: dvs) E t) (dCallD ms sp ds fa) := ⟨fun W A H σ ρ Qd R Q a h w => by
  refine ha.go W A H σ ρ _ R _ a h fun vs H1 ss f1 i1 r1 q => ?_
  obtain ⟨r2, ar⟩ := (r1.app (hd.go W A H H1)).cvs a.bs ms
  exact ⟨τ, W, A, _, Qd, R, a.bs.fr f1 i1, r2, ar, q, w.back f1, (a.fr f1 i1).er⟩⟩
variable {ρ : List Sl} {R : Er → Prop} {Qd : Sl → Prop} {ms : List Bool} {sp : SpD} {n m : Nat} {src : List (Nat ⊕ Nat)} {fa fk : TDA} {ds : List Sl}
theorem dCallK_c : dCallK ms sp n m src fa fk ρ Qd R = fa ρ (fun ss => fk ρ (kwK ms sp n m src Qd R ss) R) R := propext Iff.rfl
theorem dCallK0_c : dCallK0 ms sp n m src fa fk ρ Qd R = fa ρ (fun ss => fk ρ (kwK ms sp n m src Qd (fun _ => False) ss) R) R := propext Iff.rfl
theorem dCallD_c : dCallD ms sp ds fa ρ Qd R = fa ρ (fun ss => sp (cvs ms (ss ++ ds)) Qd R) R := propext Iff.rfl
theorem dCallD0_c : dCallD0 ms sp ds fa ρ Qd R = fa ρ (fun ss => sp (cvs ms (ss ++ ds)) Qd (fun _ => False)) R := propext Iff.rfl
theorem kwK_i {ss zs ps : List Sl} (h1 : ss.length = n) (h2 : zs.length = m) (h3 : pickS ss zs src = some ps) (h : sp (cvs ms ps) Qd R) : kwK ms sp n m src Qd R ss zs := ⟨h1, h2, by rw [h3]; exact h⟩
/-! ### comprehensions over things of a kind -/
theorem lcD_fmap {α : Type} {fg : FG} {ft : TDT} {fe : TD} {Qd : List PyData → Prop} (enc : α → PyData) (F : α → Option PyData) : ∀ (xs : List α) (acc : List PyData),
    (∀ x ∈ xs, ∀ acc N, acc.length < sizeLine → (∀ y, F x = some y → N (acc ++ [y])) → (F x = none → N acc) → lcStep fg ft fe ρ R (enc x) acc N) → acc.length + xs.length ≤ 100000 → Qd (acc ++ xs.filterMap F) → lcD fg ft fe ρ R Qd (xs.map enc) acc
  | [], acc, _, _, h => by
    rw [List.filterMap_nil, List.append_nil] at h
    exact h
  | x :: r, acc, step, hl, h => by
    rw [List.length_cons] at hl
    rw [List.map_cons]
    refine lcD_cons (step x List.mem_cons_self acc _ (line_1000 (by omega)) (fun y e => ?_) fun e => ?_)
    · refine lcD_fmap enc F r (acc ++ [y]) (fun e he => step e (List.mem_cons_of_mem _ he)) (by rw [List.length_append, List.length_singleton]; omega) ?_
      rw [List.filterMap_cons_some e] at h
      rw [List.append_assoc]
      exact h
    · refine lcD_fmap enc F r acc (fun e he => step e (List.mem_cons_of_mem _ he)) (by omega) ?_
      rw [List.filterMap_cons_none e] at h
      exact h
/-- each tells just one -/
theorem lcD_each {α : Type} {fg : FG} {ft : TDT} {fe : TD} {Qd : List PyData → Prop} (enc : α → PyData) (F : α → PyData) (xs : List α)
    (step : ∀ x ∈ xs, ∀ acc N, acc.length < sizeLine → N (acc ++ [F x]) → lcStep fg ft fe ρ R (enc x) acc N) (hl : xs.length ≤ 100000) (q : Qd (xs.map F)) : lcD fg ft fe ρ R Qd (xs.map enc) [] := by
  refine lcD_fmap enc (fun x => some (F x)) xs [] (fun x hx acc N ha hT _ => step x hx acc N ha (hT _ rfl)) (by rw [List.length_nil]; omega) ?_
  rw [List.nil_append, show (xs.filterMap fun x => some (F x)) = xs.map F from by rw [List.filterMap_eq_map']]
  exact q
theorem fm_those {α : Type} (F : α → PyData) (p : α → Bool) : ∀ xs : List α, (xs.filterMap fun x => if p x = true then some (F x) else none) = (xs.filter p).map F
  | [] => rfl
  | x :: r => by
    by_cases h : p x = true
    · rw [List.filterMap_cons_some (by exact if_pos h), List.filter_cons_of_pos h, List.map_cons, fm_those F p r]
    · rw [List.filterMap_cons_none (by exact if_neg h), List.filter_cons_of_neg h, fm_those F p r]
/-- those of which p is true -/
theorem lcD_those {α : Type} {fg : FG} {ft : TDT} {fe : TD} {Qd : List PyData → Prop} (enc F : α → PyData) (p : α → Bool) (xs : List α)
    (step : ∀ x ∈ xs, ∀ acc N, acc.length < sizeLine → (p x = true → N (acc ++ [F x])) → (p x = false → N acc) → lcStep fg ft fe ρ R (enc x) acc N) (hl : xs.length ≤ 100000) (q : Qd ((xs.filter p).map F)) : lcD fg ft fe ρ R Qd (xs.map enc) [] := by
  refine lcD_fmap enc (fun x => if p x = true then some (F x) else none) xs [] (fun x hx acc N ha hT hF => step x hx acc N ha (fun e => hT _ (if_pos e)) fun e => hF (if_neg (by rw [e]; decide))) (by rw [List.length_nil]; omega) ?_
  rw [List.nil_append, fm_those]
  exact q
theorem eqv_nil (xs : List PyData) : PyData.eqv (.list xs) (.list []) = xs.isEmpty := by cases xs <;> simp [PyData.eqv, PyData.eqvAll]
/-! ### the least of pairs -/
theorem LeT.refl (p : Int × Int) : LeT p p := .inr ⟨rfl, Int.le_refl _⟩
theorem LeT.trans {p q r : Int × Int} (h : LeT p q) (k : LeT q r) : LeT p r := by
  unfold LeT at *
  omega
theorem LeT.eq {p q : Int × Int} (h : LeT p q) (k : LeT q p) : p = q := by
  unfold LeT at *
  exact Prod.ext (by omega) (by omega)
theorem min_pairs : ∀ (ps : List (Int × Int)) (p : Int × Int), ∃ m, (m = p ∨ m ∈ ps) ∧ PySem.W.minD (dPair p) (ps.map dPair) = dPair m ∧ LeT m p ∧ ∀ r ∈ ps, LeT m r
  | [], p => ⟨p, .inl rfl, rfl, .refl p, fun _ h => nomatch h⟩
  | r :: ps, p => by
    have e : (if PySem.W.dataLt (dPair r) (dPair p) = true then dPair r else dPair p) = dPair (if r.1 < p.1 ∨ (r.1 = p.1 ∧ r.2 < p.2) then r else p) := by
      unfold dPair
      rw [PySem.W.dataLt_ii]
      by_cases h : r.1 < p.1 ∨ (r.1 = p.1 ∧ r.2 < p.2)
      · rw [if_pos (decide_eq_true h), if_pos h]
      · rw [if_neg (by rw [decide_eq_true_eq]; exact h), if_neg h]
    obtain ⟨m, h1, h2, h3, h4⟩ := min_pairs ps (if r.1 < p.1 ∨ (r.1 = p.1 ∧ r.2 < p.2) then r else p)
    have hd : PySem.W.minD (dPair p) ((r :: ps).map dPair) = PySem.W.minD (dPair (if r.1 < p.1 ∨ (r.1 = p.1 ∧ r.2 < p.2) then r else p)) (ps.map dPair) := by
      unfold PySem.W.minD
      rw [List.map_cons, List.foldl_cons, ← e]
    by_cases h : r.1 < p.1 ∨ (r.1 = p.1 ∧ r.2 < p.2)
    · rw [if_pos h] at h1 h2 h3 hd
      refine ⟨m, ?_, hd.trans h2, ?_, fun x hx => ?_⟩
      · rcases h1 with rfl | h1
        · exact .inr (List.mem_cons_self ..)
        · exact .inr (List.mem_cons_of_mem _ h1)
      · refine h3.trans ?_
        unfold LeT
        omega
      · rcases List.mem_cons.mp hx with rfl | hx
        · exact h3
        · exact h4 x hx
    · rw [if_neg h] at h1 h2 h3 hd
      refine ⟨m, ?_, hd.trans h2, h3, fun x hx => ?_⟩
      · rcases h1 with rfl | h1
        · exact .inl rfl
        · exact .inr (List.mem_cons_of_mem _ h1)
      · rcases List.mem_cons.mp hx with rfl | hx
        · refine h3.trans ?_
          unfold LeT
          omega
        · exact h4 x hx
theorem dPair_inj {p q : Int × Int} (h : dPair p = dPair q) : p = q := by
  unfold dPair at h
  simp at h
  exact Prod.ext h.1 h.2
theorem lay_pair (p : Int × Int) : Lay (dPair p) 1 := lay_tup (n := 0) fun x hx => by
  simp only [List.mem_cons, List.not_mem_nil, or_false] at hx
  rcases hx with rfl | rfl <;> exact lay_int _ _
theorem pairs_ok (p : Int × Int) (ps : List (Int × Int)) : minOk (dPair p) (ps.map dPair) := by
  have each : ∀ x ∈ dPair p :: ps.map dPair, ∃ r, x = dPair r := fun x hx => by
    rw [← List.map_cons] at hx
    obtain ⟨r, _, rfl⟩ := List.mem_map.mp hx
    exact ⟨r, rfl⟩
  obtain ⟨z1, z2⟩ := lay_all (xs := dPair p :: ps.map dPair) (n := 1) fun x hx => by
    obtain ⟨r, rfl⟩ := each x hx
    exact lay_pair r
  refine ⟨z1, ⟨fun x hx y hy => ?_, fun x hx => ?_⟩, Nat.le_trans z2 (by decide)⟩
  · obtain ⟨r, rfl⟩ := each x hx
    obtain ⟨r', rfl⟩ := each y hy
    simp [dPair, PySem.W.alike, PySem.W.alikeAll]
  · obtain ⟨r, rfl⟩ := each x hx
    exact fun z => nomatch z
/-- the least of some pairs -/
theorem fMin_pairs {ps : List (Int × Int)} (ne : ps ≠ []) (h : ∀ m, m ∈ ps → (∀ r ∈ ps, LeT m r) → Qd (.d (dPair m))) : fMinX [.bl (ps.map dPair)] Qd := by
  cases ps with
  | nil => exact absurd rfl ne
  | cons p ps =>
    obtain ⟨m, h1, h2, h3, h4⟩ := min_pairs ps p
    refine ⟨pairs_ok p ps, ?_⟩
    show Qd (.d (PySem.W.minD (dPair p) (ps.map dPair)))
    rw [h2]
    refine h m ?_ fun r hr => ?_
    · rcases h1 with rfl | h1
      · exact List.mem_cons_self
      · exact List.mem_cons_of_mem _ h1
    · rcases List.mem_cons.mp hr with rfl | hr
      · exact h3
      · exact h4 r hr
end
end Dl
namespace Wy
open PySem PySem.Spec PyProof.Rows L2 Dl
/-- a def with parameters that have defaults and are told by name -/
structure Dk (K : PySem.W.Frag) (mg : Str → Option Value) (x : Str) (st : Stmt) (kws : List (Str × V)) (f : Addr) (fd : FuncData) : Prop where
  F : Fun K x x st f fd
  D : FunD K x x (defArgs st) (defBody st) (defScope st) [] kws f fd
  g : mg x = some (.ref f)
structure Ck (P : Program) (w : World) (K : PySem.W.Frag) (mg : Str → Option Value) (base : Heap) (CX : CXT) (k : Nat) (x : Str) (st : Stmt) (ps : List Str) (kws : List (Str × V)) (sp : Sp) : Prop where
  ex : ∃ f fd, FnOk P w K mg base CX k f fd ps sp ∧ Dk K mg x st kws f fd
theorem pe_ck {X : Cx} {CX : CXT} {E : XK} {k : Nat} {st : Stmt} {ps ks : List Str} {kwd : List (Str × V)} {sp : Sp} {x : Str} {p pos : Pos} {e : Expr} {es : List Expr} {kws : List Keyword} {t tk : TA} {g : List Value → List Value → List Value} {gV : List V → List V → List V} (h : Ck X.prog X.w X.K X.mg X.base CX k x st ps kwd sp) (hb : ∀ f fd, Fun X.K x x st f fd → KBinds X.K fd ps ks g gV) (hr : Room k X.A) (hg : Gl X x) (hx : Passes CX X E) (ha : PA X (e :: es) t) (hkw : PK X kws tk)
    (hall : (backToKw pos (keywordEach kws X.env)).all (·.1.isSome) = true := by rfl) (hks : (backToKw pos (keywordEach kws X.env)).filterMap (·.1) = ks := by rfl)
    (hdb : (x == ("__debug__" : Str)) = false := by decide) (he : starEach (e :: es) X.env = (false, eval e X.env) :: starEach es X.env := by rfl)
    (hpl : ((backTo pos (starEach (e :: es) X.env)).any (·.1) || (backToKw pos (keywordEach kws X.env)).any (·.1.isNone)) = false := by rfl) : PE X (.Call (.Name x p) (e :: es) kws pos) (L2.tCallK sp gV E t tk) := by
  obtain ⟨f, fd, F, D⟩ := h.ex
  exact pe_callK F hr hg D.g D.F.kp (hb f fd D.F) hx ha hkw hall hks hdb he hpl
theorem pe_ck0 {X : Cx} {CX : CXT} {E : XK} {k : Nat} {st : Stmt} {ps ks : List Str} {kwd : List (Str × V)} {sp : Sp} {x : Str} {p pos : Pos} {kws : List Keyword} {tk : TA} {g : List Value → List Value → List Value} {gV : List V → List V → List V} (h : Ck X.prog X.w X.K X.mg X.base CX k x st ps kwd sp) (hb : ∀ f fd, Fun X.K x x st f fd → KBinds X.K fd ps ks g gV) (hr : Room k X.A) (hg : Gl X x) (hx : Passes CX X E) (hkw : PK X kws tk)
    (hall : (backToKw pos (keywordEach kws X.env)).all (·.1.isSome) = true := by rfl) (hks : (backToKw pos (keywordEach kws X.env)).filterMap (·.1) = ks := by rfl) (hdb : (x == ("__debug__" : Str)) = false := by decide)
    (hpl : ((backTo pos (starEach [] X.env)).any (·.1) || (backToKw pos (keywordEach kws X.env)).any (·.1.isNone)) = false := by rfl) : PE X (.Call (.Name x p) [] kws pos) (L2.tCallK sp gV E tNil tk) := by
  obtain ⟨f, fd, F, D⟩ := h.ex
  refine ⟨fun pins s σ H Q I h => wpAny_Call_Name_kw (ld_glob I hg D.g ?_ hdb)⟩
  refine PySem.W.callWith_KW0 (h₀ := X.base) I.ok.mod.kin D.F.kp hall (thn (hkw.run pos pins s σ H _ I h) fun ws t1 ⟨zs, G, J, rz, q⟩ => ⟨J.kIn, ?_⟩) hpl
  rw [hks]
  exact run_fnk (us := []) (vs := []) F hr (hb f fd D.F) hx J .nil rz q
theorem pe_cd {X : Cx} {CX : CXT} {E : XK} {k : Nat} {st : Stmt} {ps : List Str} {kwd : List (Str × V)} {dvs : List V} {sp : Sp} {x : Str} {p pos : Pos} {e : Expr} {es : List Expr} {t : TA} (h : Ck X.prog X.w X.K X.mg X.base CX k x st ps kwd sp) (hb : ∀ f fd, FunD X.K x x (defArgs st) (defBody st) (defScope st) [] kwd f fd → ∃ ds, Vals dvs ds ∧ Binds X.K fd ps ds) (hr : Room k X.A) (hg : Gl X x) (hx : Passes CX X E) (ha : PA X (e :: es) t)
    (hdb : (x == ("__debug__" : Str)) = false := by decide) (he : starEach (e :: es) X.env = (false, eval e X.env) :: starEach es X.env := by rfl) (hpl : (backTo pos (starEach es X.env)).any (·.1) = false := by rfl) : PE X (.Call (.Name x p) (e :: es) [] pos) (tCall sp dvs E t) := by
  obtain ⟨f, fd, F, D⟩ := h.ex
  obtain ⟨ds, hv, hb⟩ := hb f fd D.D
  exact pe_call F hr hg D.g D.F.kp hb hv hx ha hdb he hpl
end Wy

namespace Dl
open PySem PySem.Spec PyProof.Rows L2
/-! ### tuple * n -/
theorem tuple_mul1 (l : Addr) (items : Array Value) (n : Nat) (dd : Option Addr) (sl : Array (Option Value)) (u : Tok) :
    Meets (Builtin.«tuple.__mul__» ⟨[.ref l, .int 1 u], []⟩) (fun _ R s => s.heap.get? l = some { cls := .type "tuple", dict := dd, data := .seq items n, slots := sl } ∧ R (.ok (.ret (Value.ref l))) s) :=
  .of_wp fun prog w A R s h => by
    obtain ⟨hp, g, d, tk, os⟩ := s
    obtain ⟨hl, h⟩ := h
    have f1 := AutoSeq1.idx_int
    wp_walk using wpAny_loadPart' hl
    repeat (first
      | (refine wpAny_ite_false (decide_eq_false (by decide)) ?_; wp_walk using wpAny_loadPart' hl)
      | (refine wpAny_ite_true (decide_eq_true (by simp)) ?_; wp_walk using wpAny_loadPart' hl))
    exact ⟨_, rfl, h⟩
def rRepT1 (K : PySem.W.Frag) : R2 := fun x y H Q => ∃ l xs, x = .ref l ∧ y = .int 1 ∧ SqT K H l xs ∧ Q (.ref l) H
theorem op_repT1 {X : Cx} : OpR X (binaryOp .Mult) (rRepT1 X.K) := by
  intro pins s σ H x y v u Q I rx ry h
  obtain ⟨l, xs, rfl, rfl, hT, q⟩ := h
  cases rx
  obtain ⟨t, rfl⟩ := ry
  obtain ⟨its, r, ⟨⟨cls, dd, data, sl⟩, ho, hc, n, hd⟩, hs⟩ := I.tuple hT
  simp only at hc hd
  subst hc hd
  refine wpAny_binaryOp_repeat_ref (T := "tuple") (U := "int") (by decide) ⟨_, ho, rfl⟩ (fun s' => typeIs_int s' 1 t) noFill_tuple_mul F.fills_int_mul F.slot_int_rmul repeat_tuple F.slot_int_index.lookup
    (call_meets F.slot_int_rmul (typeIs_int s 1 t) F.entry_int_rmul (F.args_int_rmul_2 _ _) (int_rmul_tuple 1 t l its.toArray n dd sl)
      ⟨ho, rfl, ⟨_, ho, rfl⟩, call_meets F.slot_tuple_mul ⟨_, ho, rfl⟩ F.entry_tuple_mul (F.args_tuple_mul_2 _ _) (tuple_mul1 l its.toArray n dd sl t) ⟨ho, ?_⟩⟩)
  exact ⟨.ref l, H, I, rfl, q⟩
def rRepTX (K : PySem.W.Frag) : R2 := fun x y H Q => rRepT1 K x y H Q ∨ rRepT K x y H Q
theorem op_repTX {X : Cx} {K : PySem.W.Frag} (h : X.K = K) : OpR X (binaryOp .Mult) (rRepTX K) := by
  subst h
  exact op_repT1.or op_repT
def fRepT : Sl → Sl → (Sl → Prop) → Prop := fun s u Qd => match s, u with
  | .d (.tuple xs), .d (.int k) => xs ≠ [] ∧ 1 ≤ k ∧ k ≤ 1000 ∧ xs.length ≤ 1000 ∧ Qd (.d (.tuple (List.replicate k.toNat xs).flatten))
  | _, _ => False
section
variable {K : PySem.W.Frag} {τ : List (Addr × Str)} {E : XK}
instance : Ref2 K (rRepTX K) fRepT := ⟨fun W A H0 H x y s u Qd Q b f i rx ry h w => by
  unfold fRepT at h
  split at h
  · rename_i xs k
    obtain ⟨ne, h1, h2, h3, q⟩ := h
    have rx' : Rp K A H x (.tuple xs) := rx
    obtain ⟨p, vs, rfl, sq, r⟩ := Rp.tup_ rx'
    obtain rfl := ry.flat (u := .int k) rfl
    by_cases e : k = 1
    · subst e
      refine .inl ⟨p, vs, rfl, rfl, sq, w _ H (.d _) (Fr.refl H) i rx' ?_⟩
      have e : (List.replicate (1 : Int).toNat xs).flatten = xs := by
        show (List.replicate 1 xs).flatten = xs
        simp
      rw [e] at q
      exact q
    · refine .inr ⟨p, k, vs, rfl, rfl, sq, fun z => ne ?_, by omega, h2, by rw [r.length]; exact h3, Want.tup (b.fr f i) w (r.rep _) q⟩
      rw [z] at r
      cases r
      rfl
  · exact h.elim⟩
theorem fRepT_c {xs : List PyData} {k : Int} {Qd : Sl → Prop} : fRepT (.d (.tuple xs)) (.d (.int k)) Qd = (xs ≠ [] ∧ 1 ≤ k ∧ k ≤ 1000 ∧ xs.length ≤ 1000 ∧ Qd (.d (.tuple (List.replicate k.toNat xs).flatten))) := propext Iff.rfl
theorem rep_one (x : PyData) : ∀ n : Nat, (List.replicate n [x]).flatten = List.replicate n x
  | 0 => rfl
  | n + 1 => by
    rw [List.replicate_succ, List.flatten_cons, rep_one x n]
    rfl
/-! ### is, is not of truths -/
def fIsB (neg : Bool) : Sl → Sl → (Sl → Prop) → Prop := fun s u Qd => match s, u with
  | .d (.bool a), .d (.bool b) => Qd (.d (.bool (if neg then !decide (a = b) else decide (a = b))))
  | _, _ => False
instance : Ref2 K rIsB (fIsB false) := ⟨fun W A H0 H x y s u Qd Q b f i rx ry h w => by
  unfold fIsB at h
  split at h
  · rename_i a c
    exact ⟨a, c, rx.flat (u := .bl a) rfl, ry.flat (u := .bl c) rfl, w.here i _ h⟩
  · exact h.elim⟩
instance : Ref2 K rNotB (fIsB true) := ⟨fun W A H0 H x y s u Qd Q b f i rx ry h w => by
  unfold fIsB at h
  split at h
  · rename_i a c
    exact ⟨a, c, rx.flat (u := .bl a) rfl, ry.flat (u := .bl c) rfl, w.here i _ h⟩
  · exact h.elim⟩
theorem fIsB_c {neg a b : Bool} {Qd : Sl → Prop} : fIsB neg (.d (.bool a)) (.d (.bool b)) Qd = Qd (.d (.bool (if neg then !decide (a = b) else decide (a = b)))) := propext Iff.rfl
/-! ### x or y, x and y as values -/
theorem tru_go {W : Wld τ} {A : Addr → Prop} {H0 H : Hp} {v : V} {s : Sl} {b : Bool} (bs : Bs W A H0) (r1 : VlR K W A H0 H v s) (eb : truD s = some b) : TruV K v H b := by
  have sq : ∀ xs : List PyData, s.seq = some xs → b = (!xs.isEmpty) → TruV K v H b := fun xs e1 e2 => by
    obtain ⟨p, vs, rfl, sq, r⟩ := r1.seq bs e1
    exact .inl ⟨vs, sqLA_sq sq, by rw [e2, r.empty]⟩
  cases s with
  | d x =>
    cases x with
    | none =>
      obtain rfl := r1.flat (u := .non) rfl
      exact (Option.some.inj eb).symm
    | bool c =>
      obtain rfl := r1.flat (u := .bl c) rfl
      exact (Option.some.inj eb).symm
    | int c =>
      obtain rfl := r1.flat (u := .int c) rfl
      exact (Option.some.inj eb).symm
    | list xs => exact sq xs rfl (Option.some.inj eb).symm
    | tuple xs =>
      obtain ⟨p, vs, rfl, s2, r⟩ := Rp.tup_ r1
      exact .inr (.inl ⟨vs, s2, by rw [← Option.some.inj eb, r.empty]⟩)
    | str x => cases eb
    | dict x => cases eb
  | ml xs => exact sq xs rfl (Option.some.inj eb).symm
  | bl xs => exact sq xs rfl (Option.some.inj eb).symm
  | _ => cases eb
def orTK (fb : TD) (ρ : List Sl) (Qd : Sl → Prop) (R : Er → Prop) : Sl → Prop := fun s => match truD s with
  | some true => Qd s
  | some false => fb ρ Qd R
  | none => False
def andTK (fb : TD) (ρ : List Sl) (Qd : Sl → Prop) (R : Er → Prop) : Sl → Prop := fun s => match truD s with
  | some true => fb ρ Qd R
  | some false => Qd s
  | none => False
def dOrT (fa fb : TD) : TD := fun ρ Qd R => fa ρ (orTK fb ρ Qd R) R
def dAndT (fa fb : TD) : TD := fun ρ Qd R => fa ρ (andTK fb ρ Qd R) R
instance {ta tb : TE} {fa fb : TD} [ha : RefE K τ E ta fa] [hb : RefE K τ E tb fb] : RefE K τ E (tOrT K ta tb) (dOrT fa fb) := ⟨fun W A H σ ρ Qd R Q a h w => by
  refine ha.go W A H σ ρ _ R _ a h fun v H1 s f1 i1 r1 q1 => ?_
  unfold orTK at q1
  split at q1
  · rename_i e
    exact ⟨true, tru_go a.bs r1 e, iteT (w v H1 s f1 i1 r1 q1)⟩
  · rename_i e
    exact ⟨false, tru_go a.bs r1 e, iteF (hb.go W A H1 σ ρ Qd R Q (a.fr f1 i1) q1 (w.back f1))⟩
  · exact q1.elim⟩
instance {ta tb : TE} {fa fb : TD} [ha : RefE K τ E ta fa] [hb : RefE K τ E tb fb] : RefE K τ E (tAndT K ta tb) (dAndT fa fb) := ⟨fun W A H σ ρ Qd R Q a h w => by
  refine ha.go W A H σ ρ _ R _ a h fun v H1 s f1 i1 r1 q1 => ?_
  unfold andTK at q1
  split at q1
  · rename_i e
    exact ⟨true, tru_go a.bs r1 e, iteT (hb.go W A H1 σ ρ Qd R Q (a.fr f1 i1) q1 (w.back f1))⟩
  · rename_i e
    exact ⟨false, tru_go a.bs r1 e, iteF (w v H1 s f1 i1 r1 q1)⟩
  · exact q1.elim⟩
theorem pe_orTK {X : Cx} {a b : Expr} {ta tb : TE} {rest : List Expr} {pos : Pos} {K : PySem.W.Frag} (h : X.K = K) (ha : PE X a ta) (hb : PE X (.BoolOp .Or (b :: rest) pos) tb) : PE X (.BoolOp .Or (a :: b :: rest) pos) (tOrT K ta tb) := by
  subst h
  exact pe_orT ha hb
theorem pe_andTK {X : Cx} {a b : Expr} {ta tb : TE} {rest : List Expr} {pos : Pos} {K : PySem.W.Frag} (h : X.K = K) (ha : PE X a ta) (hb : PE X (.BoolOp .And (b :: rest) pos) tb) : PE X (.BoolOp .And (a :: b :: rest) pos) (tAndT K ta tb) := by
  subst h
  exact pe_andT ha hb
variable {ρ : List Sl} {R : Er → Prop} {Qd : Sl → Prop} {fa fb : TD}
theorem dOrT_c : dOrT fa fb ρ Qd R = fa ρ (orTK fb ρ Qd R) R := propext Iff.rfl
theorem dAndT_c : dAndT fa fb ρ Qd R = fa ρ (andTK fb ρ Qd R) R := propext Iff.rfl
theorem orTK_n : orTK fb ρ Qd R (.d .none) = fb ρ Qd R := propext Iff.rfl
theorem orTK_i {i : Int} (h1 : i ≠ 0 → Qd (.d (.int i))) (h2 : i = 0 → fb ρ Qd R) : orTK fb ρ Qd R (.d (.int i)) := by
  unfold orTK
  show (match some (i != 0) with
    | some true => Qd (.d (.int i))
    | some false => fb ρ Qd R
    | none => False)
  by_cases h : i = 0
  · subst h
    exact h2 rfl
  · rw [bne_iff_ne.mpr h]
    exact h1 h
end
end Dl

namespace Dl
open PySem PySem.Spec PyProof.Rows L2
/-! ### texts -/
abbrev TMr := V → List V → Hp → VK → Prop
abbrev FMr := Sl → List Sl → (Sl → Prop) → Prop
class RefM (K : PySem.W.Frag) (r : TMr) (f : outParam FMr) : Prop where
  go : ∀ {τ : List (Addr × Str)} (W : Wld τ) (A : Addr → Prop) (H0 H : Hp) (x : V) (xs : List V) (s : Sl) (ss : List Sl) (Qd : Sl → Prop) (Q : VK), Bs W A H0 → Fr W.B H0 H → W.I H → VlR K W A H0 H x s → VlsR K W A H0 H xs ss → f s ss Qd → Want K W A H Qd Q → r x xs H Q
def isStr : Sl → Prop
  | .d (.str _) => True
  | _ => False
theorem isStr_v {K : PySem.W.Frag} {W : Wld τ} {A : Addr → Prop} {H0 H : Hp} {v : V} {s : Sl} (h : isStr s) (r : VlR K W A H0 H v s) : ∃ a, v = .str a := by
  unfold isStr at h
  split at h
  · rename_i x
    exact ⟨x, r.flat (u := .str x) rfl⟩
  · exact h.elim
section
variable {K : PySem.W.Frag} {τ : List (Addr × Str)} {E : XK}
def dM0 (f : FMr) (fo : TD) : TD := fun ρ Qd R => fo ρ (fun s => isStr s ∧ f s [] Qd) R
def dM1 (f : FMr) (fo fe : TD) : TD := fun ρ Qd R => fo ρ (fun s => isStr s ∧ fe ρ (fun u => f s [u] Qd) R) R
instance {r : TMr} {f : FMr} {to : TE} {fo : TD} [ho : RefE K τ E to fo] [hr : RefM K r f] : RefE K τ E (tM0 r to) (dM0 f fo) := ⟨fun W A H σ ρ Qd R Q a h w => by
  refine ho.go W A H σ ρ _ R _ a h fun v H1 s f1 i1 r1 q1 => ?_
  exact ⟨isStr_v q1.1 r1, hr.go W A H H1 v [] s [] Qd Q a.bs f1 i1 r1 .nil q1.2 (w.back f1)⟩⟩
instance {r : TMr} {f : FMr} {to te : TE} {fo fe : TD} [ho : RefE K τ E to fo] [he : RefE K τ E te fe] [hr : RefM K r f] : RefE K τ E (tM1 r to te) (dM1 f fo fe) := ⟨fun W A H σ ρ Qd R Q a h w => by
  refine ho.go W A H σ ρ _ R _ a h fun v H1 s f1 i1 r1 q1 => ?_
  refine ⟨isStr_v q1.1 r1, ?_⟩
  refine he.go W A H1 σ ρ _ R _ (a.fr f1 i1) q1.2 fun u H2 s2 f2 i2 r2 q2 => ?_
  exact hr.go W A H H2 v [u] s [s2] Qd Q a.bs (f1.trans f2) i2 (r1.fr a.bs f2) (.cons (r2.early f1) .nil) q2 (w.back (f1.trans f2))⟩
/-- sep.join(list of texts) -/
def rJoin (K : PySem.W.Frag) : TMr := fun x xs H Q => ∃ a p, ∃ ys : List Str, x = .str a ∧ xs = [.ref p] ∧ (SqL K H p (ys.map V.str) ∨ SqT K H p (ys.map V.str)) ∧ (ys.map (·.length)).sum + ys.length * a.length ≤ 16777216 ∧ Q (.str (Txt.join a ys)) H
theorem pe_joinK {X : Cx} {K : PySem.W.Frag} {o e : Expr} {to te : TE} {apos pos : Pos} (h : X.K = K) (ho : PE X o to) (he : PE X e te) (hs : starEach [e] X.env = [(false, eval e X.env)] := by rfl) (hbase : attributeBase o "join" X.env (eval o X.env) = eval o X.env := by rfl) (hline : (apos.endLine == pos.line) = true := by rfl) : PE X (.Call (.Attribute o "join" apos) [e] [] pos) (tM1 (rJoin K) to te) := by
  subst h
  exact pe_join ho he hs hbase hline
def joinK (Qd : Sl → Prop) (a : Str) : Option (List Str) → Prop := fun o => match o with
  | some ys => (ys.map (·.length)).sum + ys.length * a.length ≤ 16777216 ∧ Qd (.d (.str (Txt.join a ys)))
  | none => False
def fJoin : FMr := fun s ss Qd => match s, ss with
  | .d (.str a), [u] => joinK Qd a (u.sq.bind (oAll dstr))
  | _, _ => False
instance : RefM K (rJoin K) fJoin := ⟨fun W A H0 H x xs s ss Qd Q b f i rx rs h w => by
  unfold fJoin at h
  split at h
  · rename_i a u
    obtain rfl := rx.flat (u := .str a) rfl
    obtain ⟨v, rfl, r⟩ := vlsr1 rs
    unfold joinK at h
    split at h
    · rename_i ys ey
      obtain ⟨ds, e1, e2⟩ := Option.bind_eq_some_iff.mp ey
      obtain ⟨p, vs, rfl, sq, r⟩ := r.sq b i e1
      rw [oAll_map dstr_eq e2] at r
      have z := r.strs
      subst z
      exact ⟨a, p, ys, rfl, rfl, sq, h.1, w.here i _ h.2⟩
    · exact h.elim
  · exact h.elim⟩
theorem fJoin_m {a : Str} {ys : List Str} {Qd : Sl → Prop} (hz : (ys.map (·.length)).sum + ys.length * a.length ≤ 16777216) (h : Qd (.d (.str (Txt.join a ys)))) : fJoin (.d (.str a)) [.ml (ys.map PyData.str)] Qd := by
  show joinK Qd a (oAll dstr (ys.map PyData.str))
  rw [strs_of]
  exact ⟨hz, h⟩
theorem fJoin_b {a : Str} {ys : List Str} {Qd : Sl → Prop} (hz : (ys.map (·.length)).sum + ys.length * a.length ≤ 16777216) (h : Qd (.d (.str (Txt.join a ys)))) : fJoin (.d (.str a)) [.bl (ys.map PyData.str)] Qd := by
  show joinK Qd a (oAll dstr (ys.map PyData.str))
  rw [strs_of]
  exact ⟨hz, h⟩
/-- x.split(sep) -/
def rSplit : TMr := fun x xs H Q => ∃ a b, x = .str a ∧ xs = [.str b] ∧ (b.length == 0) = false ∧ a.length + 2 ≤ sizeLine ∧ rNewStrs (Txt.split a b) H Q
theorem pe_splitK {X : Cx} {o e : Expr} {to te : TE} {apos pos : Pos} (ho : PE X o to) (he : PE X e te) (hs : starEach [e] X.env = [(false, eval e X.env)] := by rfl) (hbase : attributeBase o "split" X.env (eval o X.env) = eval o X.env := by rfl) (hline : (apos.endLine == pos.line) = true := by rfl) : PE X (.Call (.Attribute o "split" apos) [e] [] pos) (tM1 rSplit to te) := pe_split ho he hs hbase hline
def fSplit : FMr := fun s ss Qd => match s, ss with
  | .d (.str a), [.d (.str b)] => (b.length == 0) = false ∧ a.length + 2 ≤ sizeLine ∧ Qd (.ml ((Txt.split a b).map PyData.str))
  | _, _ => False
instance : RefM K rSplit fSplit := ⟨fun W A H0 H x xs s ss Qd Q b f i rx rs h w => by
  unfold fSplit at h
  split at h
  · rename_i a c
    obtain rfl := rx.flat (u := .str a) rfl
    obtain ⟨v, rfl, r⟩ := vlsr1 rs
    obtain rfl := r.flat (u := .str c) rfl
    exact ⟨a, c, rfl, rfl, h.1, h.2.1, fun p n => Want.lst (b.fr f i) w (.of_strs _) h.2.2 p n⟩
  · exact h.elim⟩
/-- questions -/
def rDigit : TMr := fun x xs H Q => ∃ a, x = .str a ∧ xs = [] ∧ True ∧ Q (.bl (Txt.isdigit a)) H
def rAscii : TMr := fun x xs H Q => ∃ a, x = .str a ∧ xs = [] ∧ True ∧ Q (.bl (Txt.isascii a)) H
def rStarts : TMr := fun x xs H Q => ∃ a b, x = .str a ∧ xs = [.str b] ∧ Q (.bl (Txt.startswith a b)) H
theorem pe_isdigit {X : Cx} {o : Expr} {to : TE} {apos pos : Pos} (ho : PE X o to) (hbase : attributeBase o "isdigit" X.env (eval o X.env) = eval o X.env := by rfl) (hline : (apos.endLine == pos.line) = true := by rfl) : PE X (.Call (.Attribute o "isdigit" apos) [] [] pos) (tM0 rDigit to) := pe_m0 F.slot_str_isdigit F.type_str_isdigit mt_isdigit ho hbase hline
theorem pe_isascii {X : Cx} {o : Expr} {to : TE} {apos pos : Pos} (ho : PE X o to) (hbase : attributeBase o "isascii" X.env (eval o X.env) = eval o X.env := by rfl) (hline : (apos.endLine == pos.line) = true := by rfl) : PE X (.Call (.Attribute o "isascii" apos) [] [] pos) (tM0 rAscii to) := pe_m0 F.slot_str_isascii F.type_str_isascii mt_isascii ho hbase hline
theorem pe_startswith {X : Cx} {o e : Expr} {to te : TE} {apos pos : Pos} (ho : PE X o to) (he : PE X e te) (hs : starEach [e] X.env = [(false, eval e X.env)] := by rfl) (hbase : attributeBase o "startswith" X.env (eval o X.env) = eval o X.env := by rfl) (hline : (apos.endLine == pos.line) = true := by rfl) : PE X (.Call (.Attribute o "startswith" apos) [e] [] pos) (tM1 rStarts to te) := pe_m1 F.slot_str_startswith F.type_str_startswith mt_startswith ho he hs hbase hline
def fQ0 (g : Str → Bool) : FMr := fun s ss Qd => match s, ss with
  | .d (.str a), [] => Qd (.d (.bool (g a)))
  | _, _ => False
def fQ1 (g : Str → Str → Bool) : FMr := fun s ss Qd => match s, ss with
  | .d (.str a), [.d (.str b)] => Qd (.d (.bool (g a b)))
  | _, _ => False
instance : RefM K rDigit (fQ0 Txt.isdigit) := ⟨fun W A H0 H x xs s ss Qd Q b f i rx rs h w => by
  unfold fQ0 at h
  split at h
  · rename_i a
    obtain rfl := rx.flat (u := .str a) rfl
    cases rs
    exact ⟨a, rfl, rfl, trivial, w.here i _ h⟩
  · exact h.elim⟩
instance : RefM K rAscii (fQ0 Txt.isascii) := ⟨fun W A H0 H x xs s ss Qd Q b f i rx rs h w => by
  unfold fQ0 at h
  split at h
  · rename_i a
    obtain rfl := rx.flat (u := .str a) rfl
    cases rs
    exact ⟨a, rfl, rfl, trivial, w.here i _ h⟩
  · exact h.elim⟩
instance : RefM K rStarts (fQ1 Txt.startswith) := ⟨fun W A H0 H x xs s ss Qd Q b f i rx rs h w => by
  unfold fQ1 at h
  split at h
  · rename_i a c
    obtain rfl := rx.flat (u := .str a) rfl
    obtain ⟨v, rfl, r⟩ := vlsr1 rs
    obtain rfl := r.flat (u := .str c) rfl
    exact ⟨a, c, rfl, rfl, w.here i _ h⟩
  · exact h.elim⟩
/-- int(text) -/
def fIntS : List Sl → (Sl → Prop) → Prop := fun ss Qd => match ss with
  | [.d (.str a)] => (match PySem.intText? a with
    | some n => a.length ≤ 640 ∧ Qd (.d (.int n))
    | none => False)
  | _ => False
instance : RefC K (fun xs H Q => ∃ a n, xs = [.str a] ∧ PySem.intText? a = some n ∧ a.length ≤ 640 ∧ Q (.int n) H) fIntS := ⟨fun W A H0 H xs ss Qd Q b f i rx h w => by
  unfold fIntS at h
  split at h
  · rename_i a
    obtain ⟨v, rfl, r⟩ := vlsr1 rx
    obtain rfl := r.flat (u := .str a) rfl
    split at h
    · rename_i n en
      exact ⟨a, n, rfl, en, h.1, w.here i _ h.2⟩
    · exact h.elim
  · exact h.elim⟩
variable {ρ : List Sl} {R : Er → Prop} {Qd : Sl → Prop} {fo fe : TD} {f : FMr} {a b : Str} {g : Str → Bool} {g2 : Str → Str → Bool} {n : Int}
theorem fIntS_i (e : PySem.intText? a = some n) (hl : a.length ≤ 640) (h : Qd (.d (.int n))) : fIntS [.d (.str a)] Qd := by
  show (match PySem.intText? a with
    | some n => a.length ≤ 640 ∧ Qd (.d (.int n))
    | none => False)
  rw [e]
  exact ⟨hl, h⟩
theorem dM0_c : dM0 f fo ρ Qd R = fo ρ (fun s => isStr s ∧ f s [] Qd) R := propext Iff.rfl
theorem dM1_c : dM1 f fo fe ρ Qd R = fo ρ (fun s => isStr s ∧ fe ρ (fun u => f s [u] Qd) R) R := propext Iff.rfl
theorem isStr_c : isStr (.d (.str a)) = True := propext Iff.rfl
theorem fQ0_c : fQ0 g (.d (.str a)) [] Qd = Qd (.d (.bool (g a))) := propext Iff.rfl
theorem fQ1_c : fQ1 g2 (.d (.str a)) [.d (.str b)] Qd = Qd (.d (.bool (g2 a b))) := propext Iff.rfl
theorem fSplit_c : fSplit (.d (.str a)) [.d (.str b)] Qd = ((b.length == 0) = false ∧ a.length + 2 ≤ sizeLine ∧ Qd (.ml ((Txt.split a b).map PyData.str))) := propext Iff.rfl
theorem fLenS_c : fLenS [.d (.str a)] Qd = (a.length ≤ sizeLine ∧ Qd (.d (.int a.length))) := propext Iff.rfl
/-- what cannot be come to -/
theorem ps_no {X : Cx} {st : Stmt} : PS X st (fun _ _ _ => False) := ⟨fun _ _ _ _ _ _ h => h.elim⟩

/-! ### numbers that words write -/
def figD (most : Int) (a : Str) : PyData := if decide (most < (a.length : Int)) || !(Txt.isascii a) || !(Txt.isdigit a) then .none else if Txt.startswith a "0" && !(a == ("0" : Str)) then .none else match PySem.intText? a with
  | some n => .int n
  | none => .none
theorem digit_ascii : ∀ c : Nat, c < 128 → Unicode.isDigit c = true → 48 ≤ c ∧ c ≤ 57 := by decide +kernel
theorem fig_int {a : Str} (h1 : Txt.isascii a = true) (h2 : Txt.isdigit a = true) (hl : a.length ≤ 4300) : ∃ n : Nat, PySem.intText? a = some (n : Int) := by
  unfold Txt.isascii at h1
  unfold Txt.isdigit at h2
  rw [Bool.and_eq_true] at h2
  refine ⟨_, PySem.intText_digits (x := a) (fun c hc => ?_) (fun e => ?_) hl⟩
  · have hm : c ∈ a.cps := by simpa using hc
    exact digit_ascii c (by simpa using Array.all_eq_true'.mp h1 c hm) (by simpa using Array.all_eq_true'.mp h2.2 c hm)
  · have hz : a.length = 0 := by
      show a.cps.size = 0
      rw [← Array.length_toList, e]
      rfl
    rw [hz] at h2
    simp at h2
end
end Dl

namespace Dl
open PySem PySem.Spec PyProof.Rows L2
/-! ### ways that come together again -/
theorem seqIf {c : TDT} {g rest : TDS} {dd : DEnds} {R : Er → Prop} {ρ : List Sl} (h1 : rest dd R ρ) (h2 : ∀ N : List Sl → Prop, N ρ → dIfS c g dNext { dd with nx := N } R ρ) : dSeq (dIfS c g dNext) rest dd R ρ := h2 (rest dd R) h1
/-- behind a statement only I is known -/
theorem seqBy {s rest : TDS} {dd : DEnds} {R : Er → Prop} {ρ : List Sl} (I : List Sl → Prop) (h1 : ∀ ρ', I ρ' → rest dd R ρ') (h2 : ∀ N : List Sl → Prop, (∀ ρ', I ρ' → N ρ') → s { dd with nx := N } R ρ) : dSeq s rest dd R ρ := h2 (rest dd R) h1
theorem cut_sub {xs : List PyData} {lo hi : Option Int} {y : PyData} (h : y ∈ Dl.cutD xs lo hi) : y ∈ xs := by
  unfold Dl.cutD at h
  exact List.mem_of_mem_drop (List.mem_of_mem_take h)
theorem cut_len (xs : List PyData) (lo hi : Option Int) : (Dl.cutD xs lo hi).length ≤ xs.length := by
  unfold Dl.cutD
  rw [List.length_take, List.length_drop]
  omega
/-! ### things that are spoilt -/
/-- things that stand among others where something is spoilt -/
def oddS : List PyData := [.int (-1), .int 0, .int 1, .int 9, .int 10, .int 99, .int 100, .bool true, .bool false, .none, .str "1", .tuple [], .int (10 ^ 29), .int 5]
/-- what becomes of a tuple that is spoilt, nothing within it -/
def Sp0 (xs : List PyData) (d : PyData) : Prop := d = .list xs ∨ ∃ ys, d = .tuple ys ∧ ys.length ≤ 2 * xs.length + 1 ∧ ∀ y ∈ ys, y ∈ xs ∨ y ∈ oddS ∨ ∃ i : Int, .int i ∈ xs ∧ (y = .int (i + 1) ∨ y = .int (i + -1))
def SpR : Nat → List PyData → PyData → Prop
  | 0, xs, d => Sp0 xs d
  | n + 1, xs, d => Sp0 xs d ∨ ∃ (i : Nat) (zs : List PyData) (e : PyData), xs[i]? = some (.tuple zs) ∧ SpR n zs e ∧ d = .tuple (xs.take i ++ [e] ++ xs.drop (i + 1))
def OkE : Nat → List PyData → Prop
  | 0, xs => ∀ d ∈ xs, d = .none ∨ (∃ i : Int, d = .int i) ∨ ∃ zs, d = .tuple zs
  | n + 1, xs => ∀ d ∈ xs, d = .none ∨ (∃ i : Int, d = .int i) ∨ ∃ zs, d = .tuple zs ∧ zs.length ≤ 1000 ∧ OkE n zs
theorem OkE.weak {n : Nat} {xs : List PyData} (h : OkE n xs) : OkE 0 xs := by
  cases n with
  | zero => exact h
  | succ n => exact fun d hd => (h d hd).imp id (Or.imp id fun ⟨zs, e, _⟩ => ⟨zs, e⟩)
theorem SpR.of0 {n : Nat} {xs : List PyData} {d : PyData} (h : Sp0 xs d) : SpR n xs d := by
  cases n with
  | zero => exact h
  | succ n => exact .inl h
end Dl

namespace Dl
open PySem PySem.Spec PyProof.Rows L2
/-! ### enumerate(list, start=k) -/
/-- the list at a as it stands, its items in new pairs with numbers from k on -/
def ItS (K : PySem.W.Frag) (a : Addr) (k : Int) : It :=
  ⟨fun i H => ∃ (xs : List V) (x : V), SqL K H a xs ∧ xs[i]? = some x,
    fun i H v G => ∃ T x, v = .ref T ∧ H T = none ∧ G = upd H T (.tup [.int (k + (i : Int)), x]) ∧ ∀ xs, SqL K H a xs → xs[i]? = some x,
    fun i H => ∃ xs : List V, SqL K H a xs ∧ xs.length ≤ i⟩
theorem turn_enumS {P : Program} {w : World} {K : PySem.W.Frag} {elts : List Expr} {kk : Nat} {tp : Pos} (k : Int) (a e it : Addr) (hae : e ≠ a) (hai : a ≠ it) :
    Turn P w K (.Tuple elts kk tp) (ItS K a k) [e, it] e (fun i h => (∃ old, IsEnum h e it (k + (i : Int)) old) ∧ h.IsListIter it a i ∧ e ≠ it) where
  mem := List.mem_cons_self
  obj := fun i h st b hb => by
    obtain ⟨⟨old, he⟩, ⟨o, ho, hc, hd⟩, _⟩ := st
    rcases List.mem_cons.mp hb with rfl | z
    · exact ⟨_, he, fun v q => nomatch q⟩
    · cases List.mem_singleton.mp z
      exact ⟨o, ho, fun v q => by rw [hd] at q; cases q⟩
  keep := fun i h h' st q => ⟨⟨_, q e List.mem_cons_self _ st.1.choose_spec⟩, st.2.1.at fun o z => q it (by simp) o z, st.2.2⟩
  item := by
    intro X hP hw hK hc i pins s σ H E I hf st hg
    subst hP hw hK
    obtain ⟨⟨old, he⟩, hit, ne⟩ := st
    obtain ⟨xs, x, sq, hx⟩ := hg
    obtain ⟨its, rv, ⟨o, n, ho, hcl, hno, hd⟩, _⟩ := I.list sq
    have hL : s.heap.IsList a its.toArray := ⟨o, ho, hcl, n, hd⟩
    obtain ⟨u, eu, ru⟩ := rv.get hx
    have small : ∀ b ∈ [e, it], b < s.heap.objs.size := fun b hb => by
      rcases List.mem_cons.mp hb with rfl | z
      · exact Heap.lt_size he
      · cases List.mem_singleton.mp z
        obtain ⟨_, q, _⟩ := hit
        exact Heap.lt_size q
    have hi : i < its.toArray.size := by
      rw [List.size_toArray]
      exact (List.getElem?_eq_some_iff.mp eu).1
    refine wpAny_pyNext_enum_itemC (Draws.list (A := X.A.in1) (show X.A.in1.handled = none from I.ok.hd hc) it a hai its.toArray) he ⟨hit, hL⟩ hi ne (fun z => by
      rcases List.mem_cons.mp z with q | q
      · exact ne q
      · exact hae (List.mem_singleton.mp q)) fun y h' tk yP yo yst yT _ keep' => ?_
    have eyu : y = u := by
      have z : its[i]? = some y := by simpa using yP
      exact Option.some.inj (z.symm.trans eu)
    subst eyu
    refine ⟨_, rfl, wpAny_letOwnedTupleGo_enum (s := { s with heap := h', toks := tk + 1 }) yo fun h2 he2 sb => ?_⟩
    have far : ∀ b ∈ [e, it], s.heap.objs.size ≠ b := fun b hb => Nat.ne_of_gt (small b hb)
    have tup : h2.get? s.heap.objs.size = some { cls := .type "tuple", data := .seq #[.int (k + (i : Int)) tk, y] } := (sb.2 _ (far e List.mem_cons_self)).trans yT
    refine ⟨.ref s.heap.objs.size, _, I.turnedNew (t' := tk + 1) (T := s.heap.objs.size) (ob := .tup [.int (k + (i : Int)), x]) (ch := [e, it]) (fun b ob nb q => ?_) hf (Nat.le_refl _) ⟨by show 2 ≤ sizeLine; decide, [.int (k + (i : Int)) tk, y], .cons ⟨_, rfl⟩ (.cons ru .nil), ⟨_, tup, rfl, _, rfl⟩⟩, rfl, ⟨_, x, rfl, I.hok.fresh (Nat.le_refl _), rfl, fun ys hy => by rw [I.list_inj hy sq]; exact hx⟩, ⟨⟨y, ?_⟩, yst.1.at fun o z => (sb.2 it (Ne.symm ne)).trans z, ne⟩, fun b hb => ?_⟩
    · have n1 : b ≠ e := fun z => nb (by simp [z])
      have n2 : b ≠ it := fun z => nb (by simp [z])
      exact (sb.2 b n1).trans (keep' b ob n1 n2 q)
    · rw [show k + ((i + 1 : Nat) : Int) = k + (i : Int) + 1 by omega]
      exact he2
    · rw [upd_ne (Ne.symm (far b hb))]
      exact (hf b hb).1
  done := by
    intro X hP hw hK hc i pins s σ H E I hf st hg
    subst hP hw hK
    obtain ⟨⟨old, he⟩, hit, ne⟩ := st
    obtain ⟨xs, sq, hx⟩ := hg
    obtain ⟨its, rv, ⟨o, n, ho, hcl, hno, hd⟩, _⟩ := I.list sq
    have hL : s.heap.IsList a its.toArray := ⟨o, ho, hcl, n, hd⟩
    obtain ⟨g0, g1, g2, g3, g4, g5⟩ := hf it (by simp)
    have e1 := rv.length
    have T : s.TypeIs (.ref e) "enumerate" := ⟨_, he, rfl⟩
    unfold pyNext
    refine wpAny_bind (wpAny_attempt (wpAny_callSpecial?_slot (name := Str.ofString "__next__") T F.slot_enumerate_next (wpAny_call_entry F.slot_enumerate_next T F.entry_enumerate_next ?_ (F.args_enumerate_next_1 _))))
    show wpAny _ _ (PySem.field (.ref e) 2 >>= _) _ _ _
    refine wpAny_bind (wpAny_field he rfl (x := .ref it) rfl ?_)
    refine wpAny_bind (wpAny_nextOf_list_end (I.ok.hd hc) hit hL (by simp; omega) fun h' x eb ⟨ob, hob, cob⟩ => ?_)
    exact wpAny_bind (wpAny_isInstance (T := "StopIteration") (b := true) ⟨ob, hob, cob⟩ isSubtype_stop (wpAny_pure ⟨rfl, I.turned (t' := s.toks) (fun b o hb q => eb b o hb q) g0 g1 g3 g4 g5⟩))
  self := fun A i s Q E st h => wpAny_pyIter_enum st.1.choose_spec h
def iEnS (K : PySem.W.Frag) (k : Int) (ta : TA) : TI := fun σ H R => ta σ H fun vs G => ∃ a xs, vs = [.ref a] ∧ SqL K G a xs ∧ R (ItS K a k) G
/-- a call of a class with keywords -/
theorem callWith_tkw {M : Model} {A : Around} {E : Value → Shared → Prop} {s : Shared} {env : Env} {pos : Pos} {T : String} {e : Expr} {kws : List Keyword} {Q : Value → Shared → Prop}
    (h : wpAny M A (spliced (backTo pos (starEach [e] env))) (fun vs s₁ => wpAny M A (evalAll ((backToKw pos (keywordEach kws env)).map (·.2))) (fun ks s₂ => wpAny M A (call (.type T) vs (((backToKw pos (keywordEach kws env)).filterMap (·.1)).zip ks)) Q E s₂) E s₁) E s)
    (he : backTo pos (starEach [e] env) = (false, eval e env) :: backTo pos (starEach [] env)) (ha : (backTo pos (starEach [e] env)).any (·.1) = false) (hall : (backToKw pos (keywordEach kws env)).all (·.1.isSome) = true) (hn : (backToKw pos (keywordEach kws env)).any (·.1.isNone) = false) :
    wpAny M A (callWith pos (.type T) [] (backTo pos (starEach [e] env)) (backToKw pos (keywordEach kws env))) Q E s := by
  have h2 : wpAny M A (evalArgs (.type T) true (backTo pos (starEach [e] env)) (backToKw pos (keywordEach kws env))) (fun a s₁ => wpAny M A (call (.type T) a.pos a.kw) Q E s₁) E s := by
    rw [he] at h ⊢
    exact evalArgs_kwB hall h
  unfold callWith
  refine wpAny_bind (wpAny_holding (wpAny_mono h2 (fun x t hx => wpAny_bind (wpAny_standAt ?_)) fun _ _ z => z))
  rw [ha, hn]
  exact wpAny_bind (wpAny_pure (wpAny_bind (wpAny_mono hx (fun r u hr => wpAny_bind (wpAny_holding (wpAny_point (wpAny_pure hr)))) fun _ _ z => z)))
theorem pi_enumS {X : Cx} {K : PySem.W.Frag} {e ek : Expr} {ta : TA} {p pos tp kp : Pos} {elts : List Expr} {kk : Nat} {k : Int} (hK : X.K = K) (h0 : -(2 ^ 63) ≤ k) (h1 : k < 2 ^ 63) (ge : Gl X "enumerate") (me : X.mg "enumerate" = none) (ha : PA X [e] ta) (hk : PE X ek (tC (.int k)))
    (he : backTo pos (starEach [e] X.env) = (false, eval e X.env) :: backTo pos (starEach [] X.env) := by rfl) (hp : (backTo pos (starEach [e] X.env)).any (·.1) = false := by rfl) :
    PI X (.Tuple elts kk tp) (.Call (.Name "enumerate" p) [e] [⟨some "start", ek, kp⟩] pos) (iEnS K k ta) := by
  subst hK
  refine ⟨fun pins s σ H R I h => ?_⟩
  refine wpAny_Call_Name_kw (ld_blt I ge me boot_enumerate (callWith_tkw (thn (ha.run pos pins s σ H _ I h) fun us t ⟨vs, G, J, rr, hx⟩ => ?_) he hp rfl rfl))
  obtain ⟨a, xs, ex, sq, q⟩ := hx
  subst ex
  refine kws_cons (thn (hk.run pins t σ G (fun x H' => x = .int k ∧ H' = G) J ⟨rfl, rfl⟩) fun v t2 ⟨x, G2, J2, rx, ex, eG⟩ => kws_nil ?_)
  subst ex eG
  obtain ⟨tk, rfl⟩ := rx
  cases rr with
  | cons r r2 =>
    cases r2
    cases r
    obtain ⟨its, rv, ⟨o, n, ho, hcl, hno, hd⟩, _⟩ := J2.list sq
    have hL : t2.heap.IsList a its.toArray := ⟨o, ho, hcl, n, hd⟩
    have lt : a < t2.heap.objs.size := Heap.lt_size ho
    refine enum_begins_start (begins_list a its.toArray) hL h0 h1 fun h' hE hI _ keep' => wpAny_pyIter_enum hE ?_
    refine ⟨t2.heap.objs.size + 1, [t2.heap.objs.size + 1, t2.heap.objs.size], _, _, G2, rfl, J2.kept (t' := t2.toks) keep', turn_enumS k a (t2.heap.objs.size + 1) t2.heap.objs.size (Nat.ne_of_gt (Nat.lt_succ_of_lt lt)) (Nat.ne_of_lt lt), ⟨⟨.none, ?_⟩, ⟨_, hI, rfl, rfl⟩, Nat.succ_ne_self _⟩, fun b hb => ?_, q⟩
    · rw [show k + ((0 : Nat) : Int) = k by omega]
      exact hE
    · have hle : t2.heap.objs.size ≤ b := by
        rcases List.mem_cons.mp hb with rfl | z
        · omega
        · rw [List.mem_singleton.mp z]
          exact Nat.le_refl _
      exact J2.fpOk hle (J2.hok.fresh hle)
/-- by data -/
def enumFrom (k : Int) (xs : List PyData) : List PyData := xs.zipIdx.map fun p => .tuple [.int (k + (p.2 : Int)), p.1]
section
variable {K : PySem.W.Frag} {τ : List (Addr × Str)} {E : XK}
def enSK (k : Int) (Ql : List PyData → Prop) : List Sl → Prop := fun ss => match ss with
  | [s] => (match s.dat with
    | some (.list xs) => Ql (enumFrom k xs)
    | _ => False)
  | _ => False
def iEnSD (k : Int) (fa : TDA) : TDI := fun ρ Qd R => fa ρ (enSK k Qd) R
theorem enumFrom_len (k : Int) (xs : List PyData) : (enumFrom k xs).length = xs.length := by unfold enumFrom; rw [List.length_map, List.length_zipIdx]
theorem enumFrom_get {k : Int} {xs : List PyData} {i : Nat} {d : PyData} (h : (enumFrom k xs)[i]? = some d) : ∃ x, xs[i]? = some x ∧ d = .tuple [.int (k + (i : Int)), x] := by
  unfold enumFrom at h
  rw [List.getElem?_map] at h
  obtain ⟨p, e, rfl⟩ := Option.map_eq_some_iff.mp h
  rw [List.getElem?_zipIdx] at e
  obtain ⟨x, ex, rfl⟩ := Option.map_eq_some_iff.mp e
  exact ⟨x, ex, by simp⟩
instance {k : Int} {t : TA} {f : TDA} [ht : RefA K τ E t f] : RefI K τ E (iEnS K k t) (iEnSD k f) := ⟨fun W A H σ ρ Qd R P a h kq => by
  refine ht.go W A H σ ρ _ R _ a h fun vs H1 ss f1 i1 r1 q => ?_
  unfold enSK at q
  split at q
  · obtain ⟨v, rfl, r⟩ := vlsr1 r1
    split at q
    · rename_i xs ex
      have rp := r.dat a.bs ex
      obtain ⟨p, us, rfl, sq, ra⟩ := rp.lst_
      refine ⟨p, us, rfl, sq, kq (ItS K p k) H1 [some (.ref p)] [.d (.list xs)] (enumFrom k xs) f1 i1 ⟨rfl, fun i s e => ?_⟩ ⟨fun W A H i b g hi => ?_, fun W A H i b g hi => ?_, fun W A H i x H' d b g ed y => ?_⟩ q⟩
      · cases i with
        | zero =>
          cases e
          exact ⟨_, _, rfl, rfl, rp⟩
        | succ i => simp at e
      all_goals
        obtain ⟨v, x0, e1, e2, g1⟩ := g.at_ 0 _ rfl
        cases e1
        cases e2
        obtain ⟨a1, us', e, s2, r2⟩ := g1.lst_
        cases e
      · rw [enumFrom_len] at hi
        obtain ⟨u, eu, _⟩ := r2.get (List.getElem?_eq_getElem hi)
        exact ⟨us', u, s2, eu⟩
      · rw [enumFrom_len] at hi
        exact ⟨us', s2, by rw [r2.length]; exact hi⟩
      · obtain ⟨T, u, rfl, nT, rfl, hx⟩ := y
        obtain ⟨x', ex', rfl⟩ := enumFrom_get ed
        obtain ⟨d1, e1, q1⟩ := r2.getV (hx us' s2)
        rw [ex'] at e1
        cases e1
        exact rp_pair b nT (Rp.int _) q1
    · exact q.elim
  · exact q.elim⟩
variable {ρ : List Sl} {R : Er → Prop} {Ql : List PyData → Prop} {fA : TDA} {k : Int} {xs : List PyData}
theorem iEnSD_c : iEnSD k fA ρ Ql R = fA ρ (enSK k Ql) R := propext Iff.rfl
theorem enSK_m : enSK k Ql [.ml xs] = Ql (enumFrom k xs) := propext Iff.rfl
theorem enSK_d : enSK k Ql [.d (.list xs)] = Ql (enumFrom k xs) := propext Iff.rfl
end
end Dl

namespace Dl
open PySem PySem.Spec PyProof.Rows L2
/-! ### d.setdefault(k, v) != v -/
theorem mt_setd {X : Cx} : MtR X "dict.setdefault" rSetd := by
  intro pins s σ H x xs v us Q I rx rv h
  obtain ⟨a, kvs, k, y, rfl, rfl, ea, hl, w1, w2⟩ := h
  cases rx
  cases rv with
  | cons ry rv =>
    cases rv with
    | cons rd rv =>
      cases rv
      obtain ⟨z, hd, vs0, rel, dd⟩ := dk_of I.hok ea
      refine call_meetsIn PySem.F.slot_dict_setdefault dd.typeIs PySem.F.entry_dict_setdefault (PySem.F.args_dict_setdefault_3 _ _ _) (kt_meets_setdefault (mixKind X.prog X.w) a (kV_is ry) hd _) ⟨vs0, dd, by rw [← rel.length]; exact z, fun u hu => ?_, fun hn h' dd' hs => ?_⟩
      · have rr := rel.val k
        rw [hu] at rr
        cases hv : valV kvs k with
        | none =>
          rw [hv] at rr
          exact rr.elim
        | some x =>
          rw [hv] at rr
          exact ⟨x, H, I.tok _, rr, w1 x hv⟩
      · have rr := rel.val k
        rw [hn] at rr
        cases hv : valV kvs k with
        | some x =>
          rw [hv] at rr
          exact rr.elim
        | none =>
          have fit : (putK kvs k y).length ≤ sizeLine := Nat.le_trans (length_putK kvs k y) hl
          have J := d_write (t' := s.toks + 1) I (by rw [ea]; exact True.intro) hs (Exists.imp (fun _ w => w.choose_spec.choose_spec.1) dd') (dk_new fit hd (rel.put k rd) dd')
          exact ⟨y, _, J, rd, w2 hv⟩
def setdK (i j : Nat) (g h : TDS) (dd : DEnds) (R : Er → Prop) (ρ : List Sl) : Sl → Prop := fun s => match keyOf s, ρ[i]?, ρ[j]? with
  | some k, some (.mo (.dk kvs)), some (.d x) => kvs.length < sizeLine ∧ SeqAt.shaped x = true ∧ (match valD kvs k with
    | some y => SeqAt.shaped y = true ∧ (if PyData.eqv y x = true then h dd R ρ else g dd R ρ)
    | none => PyData.eqv x x = true ∧ h dd R (ρ.set i (.mo (.dk (putD kvs k x)))))
  | _, _, _ => False
def setdB (i j : Nat) (fk : TD) (g h : TDS) (dd : DEnds) (R : Er → Prop) (ρ : List Sl) : Bool → Prop := fun b => match b with
  | true => i ≠ j ∧ (∃ kvs, ρ[i]? = some (.mo (.dk kvs))) ∧ fk ρ (setdK i j g h dd R ρ) R
  | false => h dd R ρ
def dSetdIf (i j : Nat) (fc : TDT) (fk : TD) (g h : TDS) : TDS := fun dd R ρ => fc ρ (setdB i j fk g h dd R ρ) R
section
variable {K : PySem.W.Frag} {τ : List (Addr × Str)} {E : XK}
theorem setdK_i {i j : Nat} {g h : TDS} {dd : DEnds} {R : Er → Prop} {ρ : List Sl} {s : Sl} {k : Key} {kvs : List (Key × PyData)} {x : PyData} (ek : keyOf s = some k) (ei : ρ[i]? = some (.mo (.dk kvs))) (ej : ρ[j]? = some (.d x)) (hl : kvs.length < sizeLine) (sx : SeqAt.shaped x = true)
    (h1 : ∀ y, valD kvs k = some y → SeqAt.shaped y = true ∧ (if PyData.eqv y x = true then h dd R ρ else g dd R ρ)) (h2 : valD kvs k = none → PyData.eqv x x = true ∧ h dd R (ρ.set i (.mo (.dk (putD kvs k x))))) : setdK i j g h dd R ρ s := by
  unfold setdK
  rw [ek, ei, ej]
  refine ⟨hl, sx, ?_⟩
  cases e : valD kvs k with
  | some y => exact h1 y e
  | none => exact h2 e
variable {dd : DEnds} {R : Er → Prop} {ρ : List Sl} {i j : Nat} {fc : TDT} {fk : TD} {g h : TDS}
theorem dSetdIf_c : dSetdIf i j fc fk g h dd R ρ = fc ρ (setdB i j fk g h dd R ρ) R := propext Iff.rfl
theorem setdB_f : setdB i j fk g h dd R ρ false = h dd R ρ := propext Iff.rfl
theorem setdB_t : setdB i j fk g h dd R ρ true = (i ≠ j ∧ (∃ kvs, ρ[i]? = some (.mo (.dk kvs))) ∧ fk ρ (setdK i j g h dd R ρ) R) := propext Iff.rfl
instance {i j : Nat} {c : TT} {tk : TE} {t u : TS} {fc : TDT} {fk : TD} {g h : TDS} [hc : RefT K τ E c fc] [hk : RefE K τ E tk fk] [ht : RefS K τ E t g] [hu : RefS K τ E u h] :
    RefS K τ E (tIfS (tAnd c (tTest (tOp (rNeD K) (tBM K "dict" rSetd (tVar i) (tCons tk (tCons (tVar j) tNil))) (tVar j)))) t u) (dSetdIf i j fc fk g h) := ⟨fun W A0 H0 D dd R H σ ρ gσ gρ b sr er ek q => by
  obtain ⟨W', A, co⟩ := sr
  refine hc.go W' A H σ ρ _ R _ (co.at_ ek) q fun bb H1 f1 i1 q1 => ?_
  have c1 := co.step f1 i1
  cases bb with
  | false => exact iteF (iteF (hu.go W A0 H0 D dd R H1 σ ρ gσ gρ b ⟨W', A, c1⟩ er ek q1))
  | true =>
    obtain ⟨nij, ⟨kvs, ei⟩, q1⟩ := q1
    refine iteT ?_
    obtain ⟨w0, ew, p, ho, rfl, ep, nB, aP, od⟩ := (c1.env.pre c1.lg).at_ _ _ ei
    cases ho with
    | dK ks =>
      refine ⟨.ref p, ew, .inr (.inr (.inl ⟨rfl, .inl ⟨ks, ep⟩⟩)), ?_⟩
      refine hk.go W' A H1 σ ρ _ R _ (c1.at_ ek) q1 fun v H2 s f2 i2 r2 q2 => ?_
      have c2 := c1.step f2 i2
      unfold setdK at q2
      split at q2
      · rename_i k kvs2 x ek2 ei2 ej
        rw [ei] at ei2
        cases ei2
        obtain ⟨hl, sx, q2⟩ := q2
        obtain rfl := key_flat r2 ek2
        obtain ⟨v2, ev2, u2, rfl, rx⟩ := (c2.env.pre c2.lg).at_ _ _ ej
        refine ⟨u2, ev2, ?_⟩
        have ep2 := f2.1 _ _ ep nt_dK nB
        have od2 : OdR K A H2 (.dK ks) (.dk kvs) := od.go (goes_fr c1.bs.ba f2)
        obtain ⟨z1, z2⟩ := od_val k od2.1 od2.2
        refine ⟨p, ks, k, u2, rfl, rfl, ep2, by rw [od_len od.1]; exact hl, fun y hy => ?_, fun hn => ?_⟩
        · cases ed : valD kvs k with
          | none =>
            rw [z1 ed] at hy
            cases hy
          | some d =>
            obtain ⟨y', ey', ry⟩ := z2 d ed
            rw [hy] at ey'
            cases ey'
            rw [ed] at q2
            refine ⟨u2, ev2, d, x, ry.dp (shaped_lay q2.1), rx.dp (shaped_lay sx), q2.1, sx, _, rfl, ?_⟩
            by_cases ee : PyData.eqv d x = true
            · rw [ee]
              have q3 := q2.2
              rw [if_pos ee] at q3
              exact iteF (hu.go W A0 H0 D dd R H2 σ ρ gσ gρ b ⟨W', A, c2⟩ er ek q3)
            · have q3 := q2.2
              rw [if_neg ee] at q3
              rw [show PyData.eqv d x = false from Bool.eq_false_iff.mpr ee]
              exact iteT (ht.go W A0 H0 D dd R H2 σ ρ gσ gρ b ⟨W', A, c2⟩ er ek q3)
        · cases ed : valD kvs k with
          | some d =>
            obtain ⟨y', ey', _⟩ := z2 d ed
            rw [hn] at ey'
            cases ey'
          | none =>
            rw [ed] at q2
            have c3 := c2.mutO (s1 := .mo (.dk (putD kvs k x))) (ho := .dK (putK ks k u2)) ei trivial ew (.dK _) fun g nB aP => ⟨p, _, rfl, upd_same, nB, aP, OdR.go g (show OdR K A H2 (.dK (putK ks k u2)) (.dk (putD kvs k x)) from od_put k rx od2.1 od2.2)⟩
            have ej3 : (ρ.set i (.mo (.dk (putD kvs k x))))[j]? = some (.d x) := by
              rw [List.getElem?_set_ne nij]
              exact ej
            obtain ⟨v3, ev3, u3, e3, rx3⟩ := (c3.env.pre c3.lg).at_ _ _ ej3
            subst e3
            rw [ev2] at ev3
            cases ev3
            refine ⟨u2, ev2, x, x, rx3.dp (shaped_lay sx), rx3.dp (shaped_lay sx), sx, sx, _, rfl, ?_⟩
            rw [q2.1]
            exact iteF (hu.go W A0 H0 D dd R _ σ _ gσ gρ b ⟨W', A, c3⟩ er ek q2.2)
      · exact q2.elim
    | _ => exact od.elim⟩
end
end Dl

namespace Dl
open PySem PySem.Spec PyProof.Rows L2
/-! ### a def that makes lambdas: its promise knows the tables -/
def spDT (K : PySem.W.Frag) (τ : List (Addr × Str)) (sp : SpD) : Sp := fun vs H Q E => ∃ (W : Wld τ) (A : Addr → Prop) (ss : List Sl) (Qd : Sl → Prop) (R : Er → Prop), Bs W A H ∧ VlsR K W A H H vs ss ∧ (∀ s ∈ ss, s.arg) ∧ sp ss Qd R ∧ Want K W A H Qd Q ∧ ErK K W A E H R
section
variable {K : PySem.W.Frag} {τ : List (Addr × Str)} {E : XK}
instance {sp : SpD} {t : TA} {fa : TDA} [ha : RefA K τ E t fa] : RefE K τ E (tCall (spDT K τ sp) [] E0 t) (dCall0 [] sp fa) := ⟨fun W A H σ ρ Qd R Q a h w => by
  refine ha.go W A H σ ρ _ R _ a h fun vs H1 ss f1 i1 r1 q => ?_
  obtain ⟨r2, ar⟩ := r1.cvs a.bs []
  rw [List.append_nil]
  exact ⟨W, A, _, Qd, _, a.bs.fr f1 i1, r2, ar, q, w.back f1, fun er x H' f i z r => r.elim⟩⟩
end
/-! ### () * n -/
theorem tuple_mul0 (l : Addr) (n : Nat) (dd : Option Addr) (sl : Array (Option Value)) (u : Tok) :
    Meets (Builtin.«tuple.__mul__» ⟨[.ref l, .int 2 u], []⟩) (fun _ R s => s.heap.get? l = some { cls := .type "tuple", dict := dd, data := .seq #[] n, slots := sl } ∧ R (.ok (.ret (Value.ref l))) s) :=
  .of_wp fun prog w A R s h => by
    obtain ⟨hp, g, d, tk, os⟩ := s
    obtain ⟨hl, h⟩ := h
    have f1 := AutoSeq1.idx_int
    wp_walk using wpAny_loadPart' hl
    repeat (first
      | (refine wpAny_ite_false (decide_eq_false (by decide)) ?_; wp_walk using wpAny_loadPart' hl)
      | (refine wpAny_ite_true (decide_eq_true (by simp)) ?_; wp_walk using wpAny_loadPart' hl))
    exact ⟨_, rfl, h⟩
def rRepT0 (K : PySem.W.Frag) : R2 := fun x y H Q => ∃ l, x = .ref l ∧ y = .int 2 ∧ SqT K H l [] ∧ Q (.ref l) H
theorem op_repT0 {X : Cx} : OpR X (binaryOp .Mult) (rRepT0 X.K) := by
  intro pins s σ H x y v u Q I rx ry h
  obtain ⟨l, rfl, rfl, hT, q⟩ := h
  cases rx
  obtain ⟨t, rfl⟩ := ry
  obtain ⟨its, r, ⟨⟨cls, dd, data, sl⟩, ho, hc, n, hd⟩, hs⟩ := I.tuple hT
  cases r
  simp only at hc hd
  subst hc hd
  refine wpAny_binaryOp_repeat_ref (T := "tuple") (U := "int") (by decide) ⟨_, ho, rfl⟩ (fun s' => typeIs_int s' 2 t) noFill_tuple_mul F.fills_int_mul F.slot_int_rmul repeat_tuple F.slot_int_index.lookup
    (call_meets F.slot_int_rmul (typeIs_int s 2 t) F.entry_int_rmul (F.args_int_rmul_2 _ _) (int_rmul_tuple 2 t l #[] n dd sl)
      ⟨ho, rfl, ⟨_, ho, rfl⟩, call_meets F.slot_tuple_mul ⟨_, ho, rfl⟩ F.entry_tuple_mul (F.args_tuple_mul_2 _ _) (tuple_mul0 l n dd sl t) ⟨ho, ?_⟩⟩)
  exact ⟨.ref l, H, I, rfl, q⟩
def rRepT2 (K : PySem.W.Frag) : R2 := fun x y H Q => rRepT0 K x y H Q ∨ rRepT K x y H Q
theorem op_repT2 {X : Cx} {K : PySem.W.Frag} (h : X.K = K) : OpR X (binaryOp .Mult) (rRepT2 K) := by
  subst h
  exact op_repT0.or op_repT
/-- a tuple twice -/
def fRepT2 : Sl → Sl → (Sl → Prop) → Prop := fun s u Qd => match s, u with
  | .d (.tuple xs), .d (.int k) => k = 2 ∧ xs.length ≤ 1000 ∧ Qd (.d (.tuple (xs ++ xs)))
  | _, _ => False
instance {K : PySem.W.Frag} : Ref2 K (rRepT2 K) fRepT2 := ⟨fun W A H0 H x y s u Qd Q b f i rx ry h w => by
  unfold fRepT2 at h
  split at h
  · rename_i xs k
    obtain ⟨rfl, h3, q⟩ := h
    have rx' : Rp K A H x (.tuple xs) := rx
    obtain ⟨p, vs, rfl, sq, r⟩ := Rp.tup_ rx'
    obtain rfl := ry.flat (u := .int 2) rfl
    cases xs with
    | nil =>
      cases r
      exact .inl ⟨p, rfl, rfl, sq, w _ H (.d _) (Fr.refl H) i rx' q⟩
    | cons x0 xr =>
      refine .inr ⟨p, 2, vs, rfl, rfl, sq, fun z => ?_, by decide, by decide, by rw [r.length]; exact h3, Want.tup (b.fr f i) w (r.rep _) ?_⟩
      · rw [z] at r
        cases r
      · rw [show (List.replicate (2 : Int).toNat (x0 :: xr)).flatten = (x0 :: xr) ++ (x0 :: xr) from by show (List.replicate 2 (x0 :: xr)).flatten = _; simp]
        exact q
  · exact h.elim⟩
theorem fRepT2_c {xs : List PyData} {k : Int} {Qd : Sl → Prop} : fRepT2 (.d (.tuple xs)) (.d (.int k)) Qd = (k = 2 ∧ xs.length ≤ 1000 ∧ Qd (.d (.tuple (xs ++ xs)))) := propext Iff.rfl
end Dl

namespace Dl
open PySem PySem.Spec PyProof.Rows L2
/-! ### signs of a text -/
def sigD (c : Nat) : PyData := .str ⟨#[c]⟩
def fIxS : Sl → Sl → (Sl → Prop) → Prop := fun s u Qd => match s, u with
  | .d (.str z), .d (.int i) => z.length ≤ sizeLine ∧ ∃ c, atI z.cps.toList i = some c ∧ Qd (.d (sigD c))
  | _, _ => False
def fSlS : Sl → Option Int → Option Int → (Sl → Prop) → Prop := fun s lo hi Qd => match s with
  | .d (.str z) => z.length ≤ sizeLine ∧ Qd (.d (.str (cutS z lo hi)))
  | _ => False
def rSign (neg : Bool) : R2 := fun x y H Q => ∃ (c : Nat) (z : Str), x = .str ⟨#[c]⟩ ∧ y = .str z ∧ Q (.bl (if neg then !decide (c ∈ z.cps.toList) else decide (c ∈ z.cps.toList))) H
theorem op_notSign {X : Cx} : OpR X (compareOp .NotIn) (rSign true) := op_notIn_sign
theorem op_inSign {X : Cx} : OpR X (compareOp .In) (rSign false) := op_in_sign
def fSign (neg : Bool) : Sl → Sl → (Sl → Prop) → Prop := fun s u Qd => match s, u with
  | .d (.str x), .d (.str z) => ∃ c, x = ⟨#[c]⟩ ∧ Qd (.d (.bool (if neg then !decide (c ∈ z.cps.toList) else decide (c ∈ z.cps.toList))))
  | _, _ => False
def strK (Ql : List PyData → Prop) : Sl → Prop := fun s => match s with
  | .d (.str x) => Ql (x.cps.toList.map sigD)
  | _ => False
def iStrD (f : TD) : TDI := fun ρ Ql R => f ρ (strK Ql) R
section
variable {K : PySem.W.Frag} {τ : List (Addr × Str)} {E : XK}
instance : Ref2 K rIxS fIxS := ⟨fun W A H0 H x y s u Qd Q b f i rx ry h w => by
  unfold fIxS at h
  split at h
  · rename_i z j
    obtain ⟨hz, c, e, q⟩ := h
    obtain rfl := rx.flat (u := .str z) rfl
    obtain rfl := ry.flat (u := .int j) rfl
    exact ⟨z, j, c, rfl, rfl, hz, e, w.here i (.str ⟨#[c]⟩) q⟩
  · exact h.elim⟩
instance : RefSl K rSlS fSlS := ⟨fun W A H0 H x s lo hi Qd Q b f i rx h w => by
  unfold fSlS at h
  split at h
  · rename_i z
    obtain ⟨hz, q⟩ := h
    obtain rfl := rx.flat (u := .str z) rfl
    exact ⟨z, rfl, hz, w.here i (.str (cutS z lo hi)) q⟩
  · exact h.elim⟩
instance {neg : Bool} : Ref2 K (rSign neg) (fSign neg) := ⟨fun W A H0 H x y s u Qd Q b f i rx ry h w => by
  unfold fSign at h
  split at h
  · rename_i z1 z2
    obtain ⟨c, rfl, q⟩ := h
    obtain rfl := rx.flat (u := .str ⟨#[c]⟩) rfl
    obtain rfl := ry.flat (u := .str z2) rfl
    exact ⟨c, z2, rfl, rfl, w.here i (.bl _) q⟩
  · exact h.elim⟩
instance {te : TE} {f : TD} [ht : RefE K τ E te f] : RefI K τ E (iStr te) (iStrD f) := ⟨fun W A H σ ρ Qd R P a h kq => by
  refine ht.go W A H σ ρ _ R _ a h fun v H1 s f1 i1 r1 q => ?_
  unfold strK at q
  split at q
  · rename_i x
    obtain rfl := r1.flat (u := .str x) rfl
    refine ⟨x, rfl, kq (Its x) H1 [] [] _ f1 i1 ⟨rfl, fun i s e => by simp at e⟩ ⟨fun W A H i b g hi => ?_, fun W A H i b g hi => ?_, fun W A H i y H' d b g ed z => ?_⟩ q⟩
    · rw [List.length_map, Array.length_toList] at hi
      exact hi
    · rw [List.length_map, Array.length_toList] at hi
      exact hi
    · obtain ⟨rfl, c, ec, rfl⟩ := z
      rw [List.getElem?_map, Array.getElem?_toList, ec] at ed
      cases ed
      exact ⟨fun _ _ e => e, Rp.str _⟩
  · exact q.elim⟩
end
section
variable {neg : Bool} {Qd : Sl → Prop} {Ql : List PyData → Prop} {R : Er → Prop} {ρ : List Sl} {f : TD} {x z : Str} {i : Int} {lo hi : Option Int} {c : Nat}
theorem fIxS_c : fIxS (.d (.str z)) (.d (.int i)) Qd = (z.length ≤ sizeLine ∧ ∃ c, atI z.cps.toList i = some c ∧ Qd (.d (sigD c))) := propext Iff.rfl
theorem fSlS_c : fSlS (.d (.str z)) lo hi Qd = (z.length ≤ sizeLine ∧ Qd (.d (.str (cutS z lo hi)))) := propext Iff.rfl
theorem iStrD_c : iStrD f ρ Ql R = f ρ (strK Ql) R := propext Iff.rfl
theorem strK_c : strK Ql (.d (.str x)) = Ql (x.cps.toList.map sigD) := propext Iff.rfl
end
/-! ### text * n -/
def repS (x : Str) (n : Nat) : Str := ⟨(List.replicate n x.cps).foldl (· ++ ·) #[]⟩
def rRepS : R2 := fun x y H Q => ∃ (a : Str) (n : Int), x = .str a ∧ y = .int n ∧ 2 ≤ n ∧ n ≤ 1000 ∧ 1 ≤ a.length ∧ a.length ≤ 1000 ∧ Q (.str (repS a n.toNat)) H
theorem fold_size (x : Array Nat) : ∀ (n : Nat) (acc : Array Nat), ((List.replicate n x).foldl (· ++ ·) acc).size = acc.size + n * x.size
  | 0, acc => by simp
  | n + 1, acc => by
    rw [List.replicate_succ, List.foldl_cons, fold_size x n, Array.size_append, Nat.succ_mul]
    omega
theorem repS_len (x : Str) (n : Nat) : (repS x n).length = n * x.length := by
  show ((List.replicate n x.cps).foldl (· ++ ·) #[]).size = _
  rw [fold_size]
  exact Nat.zero_add _
theorem op_repS {X : Cx} : OpR X (binaryOp .Mult) rRepS := by
  intro pins s σ H x y v u Q I rx ry h
  obtain ⟨a, n, rfl, rfl, h1, h2, h3, h4, q⟩ := h
  obtain ⟨t, rfl⟩ := rx
  obtain ⟨t2, rfl⟩ := ry
  have small : a.length * n.toNat ≤ 1000000 := Nat.le_trans (Nat.mul_le_mul h4 (show n.toNat ≤ 1000 by omega)) (by decide)
  have e0 : ¬ n < 1 := by omega
  have e1 : (n == 1 || a.length == 0) = false := by
    rw [Bool.or_eq_false_iff]
    exact ⟨beq_eq_false_iff_ne.mpr (by omega), beq_eq_false_iff_ne.mpr (by omega)⟩
  refine PySem.P.mul_str (by rw [Bool.or_eq_false_iff]; exact ⟨decide_eq_false (by omega), decide_eq_false (by omega)⟩) (fun _ _ => ?_) (fun _ _ => ?_) ?_
  · have : (1000 : Int) ≤ (2 ^ 63 - 1) / n := by
      rw [Int.le_ediv_iff_mul_le (by omega)]
      omega
    omega
  · have fit : a.length * n.toNat ≤ 16777216 := Nat.le_trans small (by decide)
    exact decide_eq_false (Nat.not_lt.mpr (by first | exact fit | omega))
  · rw [if_neg e0, if_neg (by rw [e1]; exact Bool.false_ne_true)]
    exact ⟨by have := repS_len a n.toNat; unfold repS at this; rw [this, Nat.mul_comm]; exact Nat.le_trans small (by decide), .str (repS a n.toNat), H, I.kept (t' := s.toks + 1) (fun _ _ e => e), ⟨_, rfl⟩, q⟩
def fRepS : Sl → Sl → (Sl → Prop) → Prop := fun s u Qd => match s, u with
  | .d (.str a), .d (.int n) => 2 ≤ n ∧ n ≤ 1000 ∧ 1 ≤ a.length ∧ a.length ≤ 1000 ∧ Qd (.d (.str (repS a n.toNat)))
  | _, _ => False
instance {K : PySem.W.Frag} : Ref2 K rRepS fRepS := ⟨fun W A H0 H x y s u Qd Q b f i rx ry h w => by
  unfold fRepS at h
  split at h
  · rename_i z n
    obtain ⟨h1, h2, h3, h4, q⟩ := h
    obtain rfl := rx.flat (u := .str z) rfl
    obtain rfl := ry.flat (u := .int n) rfl
    exact ⟨z, n, rfl, rfl, h1, h2, h3, h4, w.here i (.str (repS z n.toNat)) q⟩
  · exact h.elim⟩
theorem fRepS_c {a : Str} {n : Int} {Qd : Sl → Prop} : fRepS (.d (.str a)) (.d (.int n)) Qd = (2 ≤ n ∧ n ≤ 1000 ∧ 1 ≤ a.length ∧ a.length ≤ 1000 ∧ Qd (.d (.str (repS a n.toNat)))) := propext Iff.rfl
end Dl

namespace Dl
open PySem PySem.Spec PyProof.Rows L2
/-! ### a, b = (e, []): the first as data, the second a new list -/
def tParE (i j : Nat) (te : TE) : TS := tPar i j (tCons te (tCons (tLst tNil) tNil))
def parEK (i j : Nat) (dd : DEnds) (ρ : List Sl) : Sl → Prop := fun s => match s.dat with
  | some x => dd.nx ((ρ.set i (.d x)).set j (.ml []))
  | none => False
def dParE (i j : Nat) (fe : TD) : TDS := fun dd R ρ => fe ρ (parEK i j dd ρ) R
section
variable {K : PySem.W.Frag} {τ : List (Addr × Str)} {E : XK}
instance {i j : Nat} {te : TE} {fe : TD} [he : RefE K τ E te fe] : RefS K τ E (tParE i j te) (dParE i j fe) := ⟨fun W A0 H0 D dd R H σ ρ gσ gρ b sr er ek h => by
  obtain ⟨W', A, c⟩ := sr
  refine he.go W' A H σ ρ _ R _ (c.at_ ek) h fun v H1 s f1 i1 r1 q => ?_
  unfold parEK at q
  split at q
  · rename_i x ex
    have c1 := c.step f1 i1
    have c2 := c1.set (i := i) (s := .d x) trivial ⟨v, rfl, r1.dat c.bs ex⟩
    refine ⟨by show 0 ≤ sizeLine; exact Nat.zero_le _, fun p n => ?_⟩
    have f2 : Fr W'.B H1 (upd H1 p (.lst [])) := Fr.new n
    have i2 := W'.stay _ _ (same_new (o := .lst []) n) i1
    exact ⟨v, _, rfl, er.nx _ _ _ ⟨W', _, c2.own (i := j) (s := .ml []) f2 i2 (nob n) ⟨p, [], rfl, upd_same, c1.bs.nB (nob n), .inr rfl, .nil⟩ trivial⟩ q⟩
  · exact q.elim⟩
end
section
variable {i j : Nat} {fe : TD} {dd : DEnds} {R : Er → Prop} {ρ : List Sl} {xs : List PyData} {x : PyData}
theorem dParE_c : dParE i j fe dd R ρ = fe ρ (parEK i j dd ρ) R := propext Iff.rfl
theorem parEK_m : parEK i j dd ρ (.ml xs) = dd.nx ((ρ.set i (.d (.list xs))).set j (.ml [])) := propext Iff.rfl
theorem parEK_d : parEK i j dd ρ (.d x) = dd.nx ((ρ.set i (.d x)).set j (.ml [])) := propext Iff.rfl
end
end Dl

namespace Dl
open PySem PySem.Spec PyProof.Rows L2
section
variable {K : PySem.W.Frag} {τ : List (Addr × Str)} {E : XK}
/-! ### xs[k] += e -/
theorem get_listD {X : Cx} : PGet X (rIxL X.K) := by
  intro pins s σ H x y v u Q I rx ry h
  obtain ⟨p, xs, i, z, rfl, rfl, hq, he, q⟩ := h
  cases rx
  obtain ⟨t, rfl⟩ := ry
  obtain ⟨its, r, pl, hz⟩ := I.list hq
  obtain ⟨j, h1, h2, h3, h4, h5⟩ := atI_get he
  obtain ⟨w, ew, rw'⟩ := r.get h2
  have hl := r.length
  have hn := line63
  have fin : EP X pins σ Q w s := ⟨z, H, I, rw', q⟩
  by_cases h0 : 0 ≤ i
  · have hj : i.toNat = j := by
      rw [seqIndex_of h0 h5] at h1
      exact Option.some.inj h1
    exact wpAny_getItem_list pl.isList h0 (by omega) (by rw [hj]; simpa using ew) fin
  · have hj : (i + (its.toArray.size : Int)).toNat = j := by
      rw [seqIndex_neg (by omega) h4] at h1
      rw [List.size_toArray, ← hl]
      exact Option.some.inj h1
    exact wpAny_getItem_list_neg pl.isList (by omega) (by rw [List.size_toArray] <;> omega) (by omega) (by rw [hj]; simpa using ew) fin
def dAugI (i : Nat) (fk fe : TD) (g : Int → Int → Int) : TDS := fun dd R ρ => match (ρ[i]?).getD .un with
  | .ml xs => fk ρ (fun u => ∃ (k : Int) (j : Nat) (m : Int), u = .d (.int k) ∧ ixN xs.length k = some j ∧ xs[j]? = some (.int m) ∧ fe ρ (fun s => ∃ n : Int, s = .d (.int n) ∧ dd.nx (ρ.set i (.ml (xs.set j (.int (g m n)))))) R) R
  | _ => False
instance {i : Nat} {t tk : TE} {f fk : TD} {g : Int → Int → Int} [ht : RefE K τ E t f] [hk : RefE K τ E tk fk] : RefS K τ E (tAugS (tVar i) tk t (rIxL K) (ipI g) rSetL) (dAugI i fk f g) := ⟨fun W A0 H0 D dd R H σ ρ gσ gρ b sr er ek h => by
  obtain ⟨W', A, c⟩ := sr
  obtain ⟨xs, e, q⟩ := own_iff (P := fun xs => fk ρ (fun u => ∃ (k : Int) (j : Nat) (m : Int), u = .d (.int k) ∧ ixN xs.length k = some j ∧ xs[j]? = some (.int m) ∧ f ρ (fun s => ∃ n : Int, s = .d (.int n) ∧ dd.nx (ρ.set i (.ml (xs.set j (.int (g m n)))))) R) R) h
  obtain ⟨p, vs, ev, ep, nB, r0⟩ := c.own_at e
  refine ⟨.ref p, ev, ?_⟩
  refine hk.go W' A H σ ρ _ R _ (c.at_ ek) q fun u H1 s1 f1 i1 r1 q1 => ?_
  obtain ⟨k, j, m, rfl, ej, ex, q1⟩ := q1
  have c1 := c.step f1 i1
  have ep1 := f1.1 _ _ ep nt_lst nB
  have r01 := r0.go (goes_fr c.bs.ba f1)
  obtain ⟨v, ev2, rv⟩ := r01.get ex
  have hv : v = .int m := by cases rv; rfl
  subst hv
  refine ⟨p, vs, k, .int m, rfl, r1.flat (u := .int k) rfl, SqL.of ep1, by unfold atI; rw [r0.length, ej]; exact ev2, ?_⟩
  refine ht.go W' A H1 σ ρ _ R _ (c1.at_ ek) q1 fun y H2 s2 f2 i2 r2 q2 => ?_
  obtain ⟨n, rfl, q2⟩ := q2
  have c2 := c1.step f2 i2
  have ep2 := f2.1 _ _ ep1 nt_lst nB
  have r02 := r01.go (goes_fr c1.bs.ba f2)
  refine ⟨m, n, rfl, r2.flat (u := .int n) rfl, p, vs, k, j, rfl, r1.flat (u := .int k) rfl, ep2, by rw [r0.length]; exact ej, ?_⟩
  exact er.nx _ _ _ ⟨W', A, c2.mut e ev (r02.set (.int _) j)⟩ q2⟩
theorem dAugI_c {i : Nat} {fk fe : TD} {g : Int → Int → Int} {dd : DEnds} {R : Er → Prop} {ρ : List Sl} {xs : List PyData} (e : ρ[i]? = some (.ml xs)) (h : fk ρ (fun u => ∃ (k : Int) (j : Nat) (m : Int), u = .d (.int k) ∧ ixN xs.length k = some j ∧ xs[j]? = some (.int m) ∧ fe ρ (fun s => ∃ n : Int, s = .d (.int n) ∧ dd.nx (ρ.set i (.ml (xs.set j (.int (g m n)))))) R) R) : dAugI i fk fe g dd R ρ := by
  unfold dAugI
  rw [e]
  exact h
end
end Dl

namespace Dl
open PySem PySem.Spec PyProof.Rows L2 LamX
/-! ### draws from more than 2^30 -/
def spTakeW : Sp := fun vs H Q _ => ∃ (z : Addr) (m : Int), vs = [.ref z, .int m] ∧ StOk H z ∧ 0 < m ∧ m < 1152921504606846976 ∧
  ∀ H' n, Keep z H H' → StOk H' z → 0 ≤ n → n < m → Q (.int n) H'
def sdTakeW : SpD := fun ss Qd _ => ∃ m : Int, ss = [.st, .d (.int m)] ∧ 0 < m ∧ m < 1152921504606846976 ∧ ∀ n : Int, 0 ≤ n → n < m → Qd (.d (.int n))
theorem takeW_imp {K : PySem.W.Frag} {ms : List Bool} : ∀ vs H Q E, spD K ms sdTakeW vs H Q E → spTakeW vs H Q E := fun vs H Q E ⟨τ, W, A, ss, Qd, R, b, r, ar, q, w, ek⟩ => by
  obtain ⟨m, rfl, h1, h2, q⟩ := q
  obtain ⟨v, u, rfl, r1, r2⟩ := vlsr2 r
  obtain rfl := r2.flat (u := .int m) rfl
  obtain ⟨z, rfl, st⟩ := r1
  refine ⟨z, m, rfl, st.ok H b.inv, h1, h2, fun H' n kp st' n0 n1 => ?_⟩
  obtain ⟨x, y, e, hx, hy, hy2⟩ := st'
  refine w (.int n) H' (.d (.int n)) ⟨fun c o ec _ nc => kp c o ec fun z => nc (z ▸ st.b), fun c hc => ?_⟩ ?_ (Rp.int n) (q n n0 n1)
  · by_cases h : c = z
    · subst h
      exact ⟨_, e, nt_lst⟩
    · obtain ⟨o, e1, t1⟩ := hc
      exact ⟨o, kp c o e1 h, t1⟩
  · refine W.stay _ H' (fun c o ec => ?_) (st.set H x y b.inv hx hy hy2)
    by_cases h : c = z
    · subst h
      rw [upd_same] at ec
      cases ec
      exact e
    · rw [upd_ne h] at ec
      exact kp c o ec h
theorem div_wide {m : Int} {i : Int} (h : 0 < m) (h2 : m < 1152921504606846976) : CDivW i m := wide_div h (b := 60) (by
  rw [show (2 : Nat) ^ 60 = 1152921504606846976 from by decide]
  omega) (by decide) (by decide)
/-! ### a list of new lists -/
theorem for_enumD {K : PySem.W.Frag} {a : Addr} {xs : List V} {g : TG} {tb : TS} {D : Ends} {σ : L2.St} {H : Hp} (Pv : Nat → L2.St → Hp → Prop) (h0 : Pv 0 σ H) (hl : ∀ i σ H, i ≤ xs.length → Pv i σ H → SqT K H a xs)
    (hs : ∀ i x T σ H, xs[i]? = some x → H T = none → Pv i σ H → g (.ref T) σ (upd H T (.tup [.int (i : Nat), x])) fun σ2 H2 => tb { D with nx := Pv (i + 1), ct := Pv (i + 1), bk := D.nx } σ2 H2) (hd : ∀ σ H, Pv xs.length σ H → D.nx σ H) :
    ∃ W : Nat → Nat → L2.St → Hp → Prop, (∃ m, W 0 m σ H) ∧ ∀ i m σ H, W i m σ H →
      ((ItT K a).stop i H ∧ D.nx σ H) ∨ ((ItT K a).go i H ∧ ∃ N : L2.St → Hp → Prop, (∀ σ' H', N σ' H' → ∃ m', m' < m ∧ W (i + 1) m' σ' H') ∧ ∀ x H', (ItT K a).yld i H x H' → g x σ H' fun σ2 H2 => tb { D with nx := N, ct := N, bk := D.nx } σ2 H2) := by
  refine ⟨fun i m σ H => m = xs.length - i ∧ i ≤ xs.length ∧ Pv i σ H, ⟨xs.length, by simp, Nat.zero_le _, h0⟩, ?_⟩
  rintro i m σ H ⟨rfl, hi, p⟩
  have s := hl i σ H hi p
  by_cases hlt : i < xs.length
  · refine .inr ⟨⟨xs, xs[i], s, List.getElem?_eq_getElem hlt⟩, Pv (i + 1), fun σ' H' p' => ⟨xs.length - (i + 1), by omega, rfl, hlt, p'⟩, fun x H' y => ?_⟩
    obtain ⟨T, v, rfl, nT, rfl, hv⟩ := y
    exact hs i v T σ H (hv xs s) nT p
  · have e : i = xs.length := by omega
    subst e
    exact .inl ⟨⟨xs, s, Nat.le_refl _⟩, hd σ H p⟩
theorem ne_in {x y : Addr} {as : List Addr} (n : y ∉ as) (h : x ∈ as) : x ≠ y := fun z => n (z ▸ h)
/-- L a new list of new lists (since H), that hold the data of rows -/
structure LL (K : PySem.W.Frag) (A : Addr → Prop) (H G : Hp) (L : Addr) (as : List Addr) (rows : List (List PyData)) : Prop where
  same : Same H G
  nL : H L = none
  eL : G L = some (.lst (as.map V.ref))
  nd : as.Nodup
  nin : L ∉ as
  fresh : ∀ a ∈ as, H a = none
  rows_ : Paired (fun a row => ∃ vs, G a = some (.lst vs) ∧ RpAll K (fun x => A x ∨ x = L ∨ x ∈ as) G vs row) as rows
theorem LL.first {K : PySem.W.Frag} {A : Addr → Prop} {H : Hp} {L : Addr} (n : H L = none) : LL K A H (upd H L (.lst [])) L [] [] := ⟨same_new n, n, upd_same, List.nodup_nil, List.not_mem_nil, (fun _ h => nomatch h), Paired.nil⟩
theorem paired_imp {α β : Type} {R S : α → β → Prop} : ∀ {xs : List α} {ys : List β}, Paired R xs ys → (∀ x y, x ∈ xs → R x y → S x y) → Paired S xs ys
  | _, _, .nil, _ => .nil
  | _, _, .cons h r, f => .cons (f _ _ List.mem_cons_self h) (paired_imp r fun x y hx => f x y (List.mem_cons_of_mem _ hx))
theorem paired_snoc {α β : Type} {R : α → β → Prop} : ∀ {xs : List α} {ys : List β} {x : α} {y : β}, Paired R xs ys → R x y → Paired R (xs ++ [x]) (ys ++ [y])
  | _, _, _, _, .nil, h => .cons h .nil
  | _, _, _, _, .cons h r, k => .cons h (paired_snoc r k)
theorem paired_at {α β : Type} {R : α → β → Prop} : ∀ {xs : List α} {ys : List β} {i : Nat} {y : β}, Paired R xs ys → ys[i]? = some y → ∃ x, xs[i]? = some x ∧ R x y
  | _, _, i, _, .nil, e => by simp at e
  | _, _, 0, _, .cons h _, e => by
    simp at e
    subst e
    exact ⟨_, rfl, h⟩
  | _, _, i + 1, y, .cons _ r, e => by
    obtain ⟨x, h1, h2⟩ := paired_at (i := i) (y := y) r (by simpa using e)
    exact ⟨x, by simpa using h1, h2⟩
theorem paired_set {α β : Type} {R : α → β → Prop} {x : α} {y : β} : ∀ {xs : List α} {ys : List β} {i : Nat}, Paired R xs ys → xs[i]? = some x → R x y → Paired R xs (ys.set i y)
  | _, _, i, .nil, e, _ => by simp at e
  | _, _, 0, .cons h r, e, k => by
    simp at e
    subst e
    exact .cons k r
  | _, _, i + 1, .cons h r, e, k => .cons h (paired_set r (by simpa using e) k)
theorem LL.grow {K : PySem.W.Frag} {A : Addr → Prop} {H G G' : Hp} {L : Addr} {as : List Addr} {rows : List (List PyData)} (h : LL K A H G L as rows) (s : Same G G') : LL K A H G' L as rows :=
  ⟨h.same.trans s, h.nL, s _ _ h.eL, h.nd, h.nin, h.fresh, paired_imp h.rows_ fun a row _ ⟨vs, e, r⟩ => ⟨vs, s _ _ e, r.go fun b o eb _ nb => ⟨s b o eb, nb⟩⟩⟩
/-- one more list -/
theorem LL.more {K : PySem.W.Frag} {A : Addr → Prop} {H G : Hp} {L a : Addr} {as : List Addr} {rows : List (List PyData)} (h : LL K A H G L as rows) (n : G a = none) : LL K A H (upd (upd G a (.lst [])) L (.lst (as.map V.ref ++ [.ref a]))) L (as ++ [a]) (rows ++ [[]]) := by
  have ne : a ≠ L := fun z => by
    rw [z, h.eL] at n
    cases n
  have na : a ∉ as := fun z => by
    obtain ⟨i, hi⟩ := List.getElem?_of_mem z
    have : ∀ {xs : List Addr} {ys : List (List PyData)}, Paired (fun a row => ∃ vs, G a = some (.lst vs) ∧ RpAll K (fun x => A x ∨ x = L ∨ x ∈ as) G vs row) xs ys → a ∈ xs → False := by
      intro xs ys p
      induction p with
      | nil => intro z; cases z
      | cons q _ ih =>
        intro z
        rcases List.mem_cons.mp z with z | z
        · obtain ⟨vs, e, _⟩ := q
          rw [← z, n] at e
          cases e
        · exact ih z
    exact this h.rows_ z
  have hn : H a = none := by
    cases e : H a with
    | none => rfl
    | some o =>
      have := h.same _ _ e
      rw [n] at this
      cases this
  refine ⟨fun b o e => ?_, h.nL, by rw [upd_same, List.map_append]; rfl, ?_, ?_, ?_, ?_⟩
  · have b1 : b ≠ L := fun z => by
      rw [z, h.nL] at e
      cases e
    have b2 : b ≠ a := fun z => by
      rw [z, hn] at e
      cases e
    rw [upd_ne b1, upd_ne b2]
    exact h.same _ _ e
  · exact List.nodup_append.mpr ⟨h.nd, by simp, fun x hx y hy => by
      rw [List.mem_singleton.mp hy]
      exact fun z => na (z ▸ hx)⟩
  · intro z
    rcases List.mem_append.mp z with z | z
    · exact h.nin z
    · exact ne (List.mem_singleton.mp z).symm
  · intro x hx
    rcases List.mem_append.mp hx with z | z
    · exact h.fresh x z
    · rw [List.mem_singleton.mp z]
      exact hn
  · refine paired_snoc (paired_imp h.rows_ fun x row hx ⟨vs, e, r⟩ => ⟨vs, ?_, r.go fun b o eb nt nb => ?_⟩) ⟨[], ?_, .nil⟩
    · rw [upd_ne (ne_in h.nin hx), upd_ne (ne_in na hx)]
      exact e
    · have b1 : b ≠ L := fun z => nb (.inr (.inl z))
      have b2 : b ≠ a := fun z => by
        rw [z, n] at eb
        cases eb
      refine ⟨by rw [upd_ne b1, upd_ne b2]; exact eb, fun z => ?_⟩
      rcases z with z | z | z
      · exact nb (.inl z)
      · exact nb (.inr (.inl z))
      · rcases List.mem_append.mp z with z | z
        · exact nb (.inr (.inr z))
        · exact b2 (List.mem_singleton.mp z)
    · rw [upd_ne ne, upd_same]
/-- one of the lists is longer -/
theorem LL.add {K : PySem.W.Frag} {A : Addr → Prop} {H G : Hp} {L a : Addr} {as : List Addr} {rows : List (List PyData)} {i : Nat} {vs : List V} {v : V} {row : List PyData} {d : PyData} (h : LL K A H G L as rows) (ea : as[i]? = some a) (er : rows[i]? = some row) (ev : G a = some (.lst vs)) (rv : RpAll K (fun x => A x ∨ x = L ∨ x ∈ as) G vs row) (rd : Rp K (fun x => A x ∨ x = L ∨ x ∈ as) G v d) :
    LL K A H (upd G a (.lst (vs ++ [v]))) L as (rows.set i (row ++ [d])) := by
  have ma := List.mem_of_getElem? ea
  have go : ∀ b o, G b = some o → NT o → ¬ (A b ∨ b = L ∨ b ∈ as) → (upd G a (.lst (vs ++ [v]))) b = some o ∧ ¬ (A b ∨ b = L ∨ b ∈ as) := fun b o e _ n => ⟨by rw [upd_ne (show b ≠ a from fun z => n (.inr (.inr (z ▸ ma))))]; exact e, n⟩
  refine ⟨fun b o e => ?_, h.nL, ?_, h.nd, h.nin, h.fresh, ?_⟩
  · rw [upd_ne (show b ≠ a from fun z => by
      rw [z, h.fresh a ma] at e
      cases e)]
    exact h.same _ _ e
  · rw [upd_ne (show L ≠ a from fun z => h.nin (z ▸ ma))]
    exact h.eL
  · have key : ∀ {xs : List Addr} {ys : List (List PyData)} {j : Nat}, Paired (fun a row => ∃ vs, G a = some (.lst vs) ∧ RpAll K (fun x => A x ∨ x = L ∨ x ∈ as) G vs row) xs ys → xs.Nodup → xs[j]? = some a → Paired (fun x row => ∃ vs', (upd G a (.lst (vs ++ [v]))) x = some (.lst vs') ∧ RpAll K (fun x => A x ∨ x = L ∨ x ∈ as) (upd G a (.lst (vs ++ [v]))) vs' row) xs (ys.set j (row ++ [d])) := by
      intro xs ys j p
      induction p generalizing j with
      | nil => intro _ e; simp at e
      | @cons x y xs ys q r ih =>
        intro nd e
        obtain ⟨n1, n2⟩ := List.nodup_cons.mp nd
        cases j with
        | zero =>
          simp at e
          subst e
          refine .cons ⟨_, upd_same, (rv.go go).append (.one (Rp.go go rd))⟩ (paired_imp r fun z row hz ⟨us, e1, r1⟩ => ⟨us, ?_, r1.go go⟩)
          rw [upd_ne (show z ≠ _ from ne_in n1 hz)]
          exact e1
        | succ j =>
          simp at e
          obtain ⟨us, e1, r1⟩ := q
          refine .cons ⟨us, ?_, r1.go go⟩ (ih n2 e)
          rw [upd_ne (show x ≠ a from (ne_in n1 (List.mem_of_getElem? e)).symm)]
          exact e1
    exact key h.rows_ h.nd ea
/-- as data -/
theorem LL.data {K : PySem.W.Frag} {τ : List (Addr × Str)} {W : Wld τ} {A : Addr → Prop} {H G : Hp} {L : Addr} {as : List Addr} {rows : List (List PyData)} (h : LL K A H G L as rows) (b : Bs W A H) : VlR K W A H G (.ref L) (.ml (rows.map PyData.list)) := by
  refine ⟨L, as.map V.ref, rfl, nob h.nL, h.eL, ?_⟩
  have key : ∀ {xs : List Addr} {ys : List (List PyData)}, Paired (fun a row => ∃ vs, G a = some (.lst vs) ∧ RpAll K (fun x => A x ∨ x = L ∨ x ∈ as) G vs row) xs ys → (∀ x ∈ xs, x ∈ as) → RpAll K (fun a => A a ∨ a = L) G (xs.map V.ref) (ys.map PyData.list) := by
    intro xs ys p
    induction p with
    | nil => intro _; exact .nil
    | @cons x y xs ys q r ih =>
      intro hm
      obtain ⟨vs, e, rr⟩ := q
      have mx := hm x List.mem_cons_self
      refine .cons (.lst ⟨e, fun z => ?_⟩ (rr.go (goes_less fun a z => z.elim .inl fun z => .inr (.inl z)))) (ih fun z hz => hm z (List.mem_cons_of_mem _ hz))
      rcases z with z | z
      · exact b.nA (nob (h.fresh x mx)) z
      · exact h.nin (z ▸ mx)
  exact key h.rows_ fun _ z => z
end Dl

set_option maxHeartbeats 1000000
namespace Dl
open PySem PySem.Spec PyProof.Rows L2 LamX
/-! ### zip of a list and a tuple -/
def ItzM (K : PySem.W.Frag) (a b : Addr) : It where
  go := fun i H => ∃ (xs ys : List V) (x y : V), SqL K H a xs ∧ SqT K H b ys ∧ xs[i]? = some x ∧ ys[i]? = some y
  yld := fun i H v H' => ∃ T x y, v = .ref T ∧ H T = none ∧ H' = upd H T (.tup [x, y]) ∧ (∀ xs, SqL K H a xs → xs[i]? = some x) ∧ ∀ ys, SqT K H b ys → ys[i]? = some y
  stop := fun i H => ∃ xs ys : List V, SqL K H a xs ∧ SqT K H b ys ∧ (xs.length ≤ i ∨ ys.length ≤ i)
/-- an iterator that has come to its end -/
theorem ended_list {prog : Program} {w : World} {A : Around} (hh : A.handled = none) (it l : Addr) (hne : l ≠ it) (items : Array Value) (i : Nat) (hi : items.size ≤ i) : Draws prog w A it [it, l] i (fun _ _ => False) (fun j h => j = i ∧ h.IsListIter it l i ∧ h.IsList l items) where
  live := fun _ _ st => by
    obtain ⟨o, ho, _⟩ := st.2.1
    exact ⟨o, ho⟩
  frame := fun _ _ _ st hk => ⟨st.1, st.2.1.at fun o e => hk _ (by simp) o e, st.2.2.at fun o e => hk _ (by simp) o e⟩
  item := fun j s Q E hj st _ => by
    have := st.1
    omega
  done := fun s Q E st hE => wpAny_nextOf_list_end hh st.2.1 st.2.2 (by simp [hi]) hE
theorem ended_tuple {prog : Program} {w : World} {A : Around} (hh : A.handled = none) (it l : Addr) (hne : l ≠ it) (items : Array Value) (i : Nat) (hi : items.size ≤ i) : Draws prog w A it [it, l] i (fun _ _ => False) (fun j h => j = i ∧ h.IsTupleIter it l i ∧ h.IsTuple l items) where
  live := fun _ _ st => by
    obtain ⟨o, ho, _⟩ := st.2.1
    exact ⟨o, ho⟩
  frame := fun _ _ _ st hk => ⟨st.1, st.2.1.at fun o e => hk _ (by simp) o e, st.2.2.at fun o e => hk _ (by simp) o e⟩
  item := fun j s Q E hj st _ => by
    have := st.1
    omega
  done := fun s Q E st hE => wpAny_nextOf_tuple_end hh st.2.1 st.2.2 (by simp [hi]) hE
theorem sep_mix {z TI TO i1 i2 a b : Addr} (D : ZipApart z TI TO i1 i2 a b) : ZipSep2 z TI TO i1 i2 [i1, a] [i2, b] where
  TIz := D.TIz
  TOz := D.TOz
  TITO := D.TITO
  TIi1 := D.TIi1
  mem1 := by simp
  zf1 := by simp [D.i1z.symm, D.l1z.symm]
  Tf1 := by simp [D.TOi1, D.l1TO.symm]
  TIi2 := D.TIi2
  mem2 := by simp
  zf2 := by simp [D.i2z.symm, D.l2z.symm]
  Tf2 := by simp [D.TOi2, D.l2TO.symm]
  sep1_2 := by simp [D.i12, D.l2i1.symm]
  sep2_1 := by simp [D.i12.symm, D.l1i2.symm]
theorem turn_mix {P : Program} {w : World} {K : PySem.W.Frag} {elts : List Expr} {kk : Nat} {tpos : Pos} {a b z TI TO i1 i2 : Addr} (D : ZipApart z TI TO i1 i2 a b) :
    Turn P w K (.Tuple elts kk tpos) (ItzM K a b) [z, TI, TO, i1, i2] z (fun i h => IsZip h z TI TO .none ∧ IsTupOf2 h TI (.ref i1) (.ref i2) ∧ (∃ x y, IsTupOf2 h TO x y) ∧ h.IsListIter i1 a i ∧ h.IsTupleIter i2 b i) where
  mem := by simp
  obj := fun i h st c hc => by
    obtain ⟨hz, hTI, ⟨x, y, hTO⟩, ⟨o1, e1, _, d1⟩, ⟨o2, e2, _, d2⟩⟩ := st
    simp only [List.mem_cons, List.not_mem_nil, or_false] at hc
    rcases hc with rfl | rfl | rfl | rfl | rfl
    · exact ⟨_, hz, fun v q => by cases q⟩
    · exact ⟨_, hTI, fun v q => by cases q⟩
    · exact ⟨_, hTO, fun v q => by cases q⟩
    · exact ⟨o1, e1, fun v q => by rw [d1] at q; cases q⟩
    · exact ⟨o2, e2, fun v q => by rw [d2] at q; cases q⟩
  keep := fun i h h' st k => by
    obtain ⟨hz, hTI, ⟨x, y, hTO⟩, h1, h2⟩ := st
    exact ⟨k _ (by simp) _ hz, k _ (by simp) _ hTI, ⟨x, y, k _ (by simp) _ hTO⟩, h1.at fun o q => k _ (by simp) o q, h2.at fun o q => k _ (by simp) o q⟩
  item := by
    rintro X rfl rfl rfl hc i pins s σ H E I hf ⟨hz, hTI, ⟨x0, y0, hTO⟩, h1, h2⟩ ⟨xs, ys, x, y, hqx, hqy, hx, hy⟩
    obtain ⟨its, rv, p, _⟩ := I.list hqx
    obtain ⟨its2, rv2, p2, _⟩ := I.tuple hqy
    obtain ⟨u, hu, ru⟩ := rv.get hx
    obtain ⟨u2, hu2, ru2⟩ := rv2.get hy
    have hd : X.A.in1.handled = none := I.ok.hd hc
    have hzl : z < s.heap.objs.size := Heap.lt_size hz
    have b1 : i < its.toArray.size := by have := (List.getElem?_eq_some_iff.mp hu).1; simpa using this
    have b2 : i < its2.toArray.size := by have := (List.getElem?_eq_some_iff.mp hu2).1; simpa using this
    refine wpAny_pyNext_zipD2_item (sep_mix D) (Draws.list (prog := X.prog) (w := X.w) hd i1 a D.l1i1 its.toArray) (Draws.tuple (prog := X.prog) (w := X.w) hd i2 b D.l2i2 its2.toArray) hz hTI hTO ⟨h1, p.isList⟩ ⟨h2, p2⟩ b1 b2 fun w1 w2 h' tk e1 e2 z' TO' s1' s2' hT hsz hk => ?_
    obtain rfl : w1 = u := by
      have : its.toArray[i]? = some u := by simpa using hu
      rw [this] at e1
      exact (Option.some.inj e1).symm
    obtain rfl : w2 = u2 := by
      have : its2.toArray[i]? = some u2 := by simpa using hu2
      rw [this] at e2
      exact (Option.some.inj e2).symm
    refine ⟨_, rfl, wpAny_letOwnedTupleGo_zip (s := { s with heap := h', toks := tk }) z' fun h'' z'' sb => ?_⟩
    have hT2 : h''.get? s.heap.objs.size = some { cls := .type "tuple", data := .seq #[w1, w2] } := (sb.2 _ (Nat.ne_of_gt hzl)).trans hT
    have new : ObjOk X.prog X.w (upd H s.heap.objs.size (.tup [x, y])) h'' s.heap.objs.size (.tup [x, y]) := ⟨by show 2 ≤ sizeLine; decide, [w1, w2], Paired.cons ru (Paired.cons ru2 .nil), ⟨_, hT2, rfl, _, rfl⟩⟩
    have stays : ∀ c o, c ∉ [z, TI, TO, i1, i2] → s.heap.get? c = some o → h''.get? c = some o := fun c o hn q => by
      simp only [List.mem_cons, List.not_mem_nil, or_false, not_or] at hn
      obtain ⟨n1, n2, n3, n4, n5⟩ := hn
      exact (sb.2 c n1).trans (hk c o n1 n3 n4 n5 q)
    have I1 := I.turnedNew (t' := tk) (ch := [z, TI, TO, i1, i2]) stays hf (Nat.le_refl _) new
    refine ⟨.ref s.heap.objs.size, _, I1, rfl, ⟨_, x, y, rfl, I.hok.fresh (Nat.le_refl _), rfl, (fun l hl => by rw [I.list_inj hl hqx]; exact hx), (fun l hl => by rw [I.tuple_inj hl hqy]; exact hy)⟩, ⟨z'', ?_, ⟨w1, w2, ?_⟩, ?_, ?_⟩, fun c hcm => ?_⟩
    · exact (sb.2 _ D.TIz).trans (hk _ _ D.TIz D.TITO D.TIi1 D.TIi2 hTI)
    · exact (sb.2 _ D.TOz).trans TO'
    · exact s1'.1.at fun o q => (sb.2 _ D.i1z).trans q
    · exact s2'.1.at fun o q => (sb.2 _ D.i2z).trans q
    · have hlt : c < s.heap.objs.size := by
        simp only [List.mem_cons, List.not_mem_nil, or_false] at hcm
        rcases hcm with rfl | rfl | rfl | rfl | rfl
        · exact hzl
        · exact Heap.lt_size hTI
        · exact Heap.lt_size hTO
        · obtain ⟨_, e1, _⟩ := h1; exact Heap.lt_size e1
        · obtain ⟨_, e2, _⟩ := h2; exact Heap.lt_size e2
      rw [upd_ne (Nat.ne_of_lt hlt)]
      exact (hf c hcm).1
  done := by
    rintro X rfl rfl rfl hc i pins s σ H E I hf ⟨hz, hTI, ⟨x0, y0, hTO⟩, h1, h2⟩ ⟨xs, ys, hqx, hqy, hend⟩
    obtain ⟨its, rv, p, _⟩ := I.list hqx
    obtain ⟨its2, rv2, p2, _⟩ := I.tuple hqy
    have hd : X.A.in1.handled = none := I.ok.hd hc
    have l1 := rv.length
    have l2 := rv2.length
    have m1 : its.toArray.size = its.length := by simp
    have m2 : its2.toArray.size = its2.length := by simp
    have fin : ∀ (h' : Heap) (tk : Nat), (∀ c o, c ≠ z → c ≠ TO → c ≠ i1 → c ≠ i2 → s.heap.get? c = some o → h'.get? c = some o) → (none : Option Value) = none ∧ Inv X pins σ H { s with heap := h', toks := tk } := fun h' tk hk => ⟨rfl, I.turnedL (t' := tk) (ch := [z, TI, TO, i1, i2]) (fun c o hb q => by
      simp only [List.mem_cons, List.not_mem_nil, or_false, not_or] at hb
      exact hk c o hb.1 hb.2.2.1 hb.2.2.2.1 hb.2.2.2.2 q) hf⟩
    by_cases k1 : its.toArray.size ≤ i
    · have E1 := ended_list (prog := X.prog) (w := X.w) hd i1 a D.l1i1 its.toArray i k1
      by_cases k2 : its2.toArray.size ≤ i
      · exact wpAny_pyNext_zipD2_end (sep_mix D) E1 (ended_tuple (prog := X.prog) (w := X.w) hd i2 b D.l2i2 its2.toArray i k2) hz hTI hTO ⟨rfl, h1, p.isList⟩ ⟨rfl, h2, p2⟩ (Nat.le_refl _) (Nat.le_refl _) (.inl rfl) fin
      · exact wpAny_pyNext_zipD2_end (sep_mix D) E1 (Draws.tuple (prog := X.prog) (w := X.w) hd i2 b D.l2i2 its2.toArray) hz hTI hTO ⟨rfl, h1, p.isList⟩ ⟨h2, p2⟩ (Nat.le_refl _) (by omega) (.inl rfl) fin
    · have k2 : its2.toArray.size ≤ i := by omega
      exact wpAny_pyNext_zipD2_end (sep_mix D) (Draws.list (prog := X.prog) (w := X.w) hd i1 a D.l1i1 its.toArray) (ended_tuple (prog := X.prog) (w := X.w) hd i2 b D.l2i2 its2.toArray i k2) hz hTI hTO ⟨h1, p.isList⟩ ⟨rfl, h2, p2⟩ (by omega) (Nat.le_refl _) (.inr rfl) fin
  self := fun A i s Q E st h => wpAny_pyIter_zip st.1 h
def iZipM (K : PySem.W.Frag) (ta : TA) : TI := fun σ H R => ta σ H fun vs H1 => ∃ a b xs ys, vs = [.ref a, .ref b] ∧ SqL K H1 a xs ∧ SqT K H1 b ys ∧ R (ItzM K a b) H1
theorem pi_zipM {X : Cx} {K : PySem.W.Frag} {e e2 : Expr} {ta : TA} {p pos tpos : Pos} {elts : List Expr} {kk : Nat} (hK : X.K = K) (hg : Gl X "zip") (hm : X.mg "zip" = none) (ha : PA X [e, e2] ta)
    (hs : starEach [e, e2] X.env = (false, eval e X.env) :: starEach [e2] X.env := by rfl) (hpl : (backTo pos (starEach [e2] X.env)).any (·.1) = false := by rfl) :
    PI X (.Tuple elts kk tpos) (.Call (.Name "zip" p) [e, e2] [] pos) (iZipM K ta) := by
  subst hK
  refine ⟨fun pins s σ H R I h => ?_⟩
  refine Call_ (ld_blt I hg hm PyProof.Rows.boot_zip (PyProof.Rows.callWith_type1 (thn (ha.run pos pins s σ H _ I h) fun us s1 ⟨vs, H1, I1, r1, q1⟩ => ?_) hs hpl))
  obtain ⟨a, b, xs, ys, ex, hqx, hqy, q⟩ := q1
  subst ex
  cases r1 with
  | cons r rr =>
    cases rr with
    | cons r' rr =>
      cases rr
      cases r
      cases r'
      obtain ⟨its, rv, p1, _⟩ := I1.list hqx
      obtain ⟨its2, rv2, p2, _⟩ := I1.tuple hqy
      obtain ⟨o2, ho2, _⟩ := id p2
      refine zip_begins2 (begins_list a its.toArray) (begins_tuple b its2.toArray) p1.isList p2 fun h' hz hTI hTO g1 g2 hsz hk => wpAny_pyIter_zip hz ?_
      have I2 : Inv X pins σ H1 { s1 with heap := h' } := I1.kept (t' := s1.toks) hk
      refine ⟨s1.heap.objs.size + 4, [s1.heap.objs.size + 4, s1.heap.objs.size + 2, s1.heap.objs.size + 3, s1.heap.objs.size, s1.heap.objs.size + 1], _, _, H1, rfl, I2, turn_mix (PySem.W.ktu_apart s1.heap.objs.size a b p1.lt (Heap.lt_size ho2)), ⟨hz, hTI, ⟨_, _, hTO⟩, ⟨_, g1, rfl, rfl⟩, ⟨_, g2, rfl, rfl⟩⟩, fun c hcm => ?_, q⟩
      have hle : s1.heap.objs.size ≤ c := by
        simp only [List.mem_cons, List.not_mem_nil, or_false] at hcm
        rcases hcm with rfl | rfl | rfl | rfl | rfl
        · exact Nat.le_add_right _ _
        · exact Nat.le_add_right _ _
        · exact Nat.le_add_right _ _
        · exact Nat.le_refl _
        · exact Nat.le_add_right _ _
      exact I1.fpOk hle (I1.hok.fresh hle)
section
variable {K : PySem.W.Frag} {τ : List (Addr × Str)} {E : XK}
def zpM (Ql : List PyData → Prop) : List Sl → Prop := fun ss => match ss with
  | [s, u] => (match s.dat, u.dat with
    | some (.list xs), some (.tuple ys) => Ql (zipD xs ys)
    | _, _ => False)
  | _ => False
def iZpM (fa : TDA) : TDI := fun ρ Qd R => fa ρ (zpM Qd) R
instance {t : TA} {f : TDA} [ht : RefA K τ E t f] : RefI K τ E (iZipM K t) (iZpM f) := ⟨fun W A H σ ρ Qd R P a h k => by
  refine ht.go W A H σ ρ _ R _ a h fun vs H1 ss f1 i1 r1 q => ?_
  unfold zpM at q
  split at q
  · obtain ⟨v, w, rfl, r, r'⟩ := vlsr2 r1
    split at q
    · rename_i xs ys ex ey
      have rp := r.dat a.bs ex
      have rp' := r'.dat a.bs ey
      obtain ⟨p, us, rfl, sq, ra⟩ := rp.lst_
      obtain ⟨p', us', rfl, sq', ra'⟩ := rp'.tup_
      refine ⟨p, p', _, _, rfl, sq, sq', k (ItzM K p p') H1 [some (.ref p), some (.ref p')] [.d (.list xs), .d (.tuple ys)] (zipD xs ys) f1 i1 (gh2 rp rp') ⟨fun W A H i b g hi => ?_, fun W A H i b g hi => ?_, fun W A H i x H' d b g ed y => ?_⟩ q⟩
      all_goals
        obtain ⟨g1, g2⟩ := g.two
        obtain ⟨a1, us, e, s2, r2⟩ := g1.lst_
        cases e
        obtain ⟨a2, us', e, s3, r3⟩ := g2.tup_
        cases e
      · rw [zipD_len] at hi
        obtain ⟨u, eu, _⟩ := r2.get (List.getElem?_eq_getElem (show i < xs.length by omega))
        obtain ⟨u', eu', _⟩ := r3.get (List.getElem?_eq_getElem (show i < ys.length by omega))
        exact ⟨us, us', u, u', s2, s3, eu, eu'⟩
      · rw [zipD_len] at hi
        refine ⟨us, us', s2, s3, ?_⟩
        rw [r2.length, r3.length]
        omega
      · obtain ⟨T, u, u', rfl, nT, rfl, hx, hy⟩ := y
        obtain ⟨x', y', ex', ey', rfl⟩ := zipD_get ed
        obtain ⟨d1, e1, q1⟩ := r2.getV (hx us s2)
        obtain ⟨d2, e2, q2⟩ := r3.getV (hy us' s3)
        rw [ex'] at e1
        rw [ey'] at e2
        cases e1
        cases e2
        exact rp_pair b nT q1 q2
    · exact q.elim
  · exact q.elim⟩
theorem iZpM_c {fa : TDA} {ρ : List Sl} {Ql : List PyData → Prop} {R : Er → Prop} : iZpM fa ρ Ql R = fa ρ (zpM Ql) R := propext Iff.rfl
theorem zpM_lt {Ql : List PyData → Prop} {xs ys : List PyData} : zpM Ql [.d (.list xs), .d (.tuple ys)] = Ql (zipD xs ys) := propext Iff.rfl
end
end Dl

namespace Dl
open PySem PySem.Spec PyProof.Rows L2
/-! ### a, b, c = (x, y, z), all of them data -/
def dPar3 (i j l : Nat) (fa : TDA) : TDS := fun dd R ρ => fa ρ (fun ss => ∃ x y z, dats ss = some [x, y, z] ∧ dd.nx (((ρ.set i (.d x)).set j (.d y)).set l (.d z))) R
section
variable {K : PySem.W.Frag} {τ : List (Addr × Str)} {E : XK}
instance {i j l : Nat} {t : TA} {fa : TDA} [ha : RefA K τ E t fa] : RefS K τ E (tPar3 i j l t) (dPar3 i j l fa) := ⟨fun W A0 H0 D dd R H σ ρ gσ gρ b sr er ek h => by
  obtain ⟨W', A, c⟩ := sr
  refine ha.go W' A H σ ρ _ R _ (c.at_ ek) h fun vs H1 ss f1 i1 r1 q => ?_
  obtain ⟨x, y, z, ed, q⟩ := q
  have rp := r1.dats c.bs ed
  cases rp with
  | @cons u _ _ _ ru rp =>
    cases rp with
    | @cons v _ _ _ rv rp =>
      cases rp with
      | @cons w _ _ _ rw' rp =>
        cases rp
        have c1 := c.step f1 i1
        have c2 := c1.set (i := i) (s := .d x) trivial ⟨u, rfl, ru⟩
        have c3 := c2.set (i := j) (s := .d y) trivial ⟨v, rfl, rv⟩
        have c4 := c3.set (i := l) (s := .d z) trivial ⟨w, rfl, rw'⟩
        exact ⟨u, v, w, rfl, er.nx _ _ _ ⟨W', A, c4⟩ q⟩⟩
theorem dPar3_c {i j l : Nat} {fa : TDA} {dd : DEnds} {R : Er → Prop} {ρ : List Sl} : dPar3 i j l fa dd R ρ = fa ρ (fun ss => ∃ x y z, dats ss = some [x, y, z] ∧ dd.nx (((ρ.set i (.d x)).set j (.d y)).set l (.d z))) R := propext Iff.rfl
end
end Dl

namespace Dl
open PySem PySem.Spec PyProof.Rows L2
section
variable {K : PySem.W.Frag} {τ : List (Addr × Str)} {E : XK}
/-! ### .. = xs.pop() -/
theorem pe_popK {X : Cx} {o : Expr} {to : TE} {apos cpos : Pos} (h : X.K = K) (ho : PE X o to) (hbase : attributeBase o "pop" X.env (eval o X.env) = eval o X.env := by rfl) (hline : (apos.endLine == cpos.line) = true := by rfl) : PE X (.Call (.Attribute o "pop" apos) [] [] cpos) (tBM0 K "list" rPop to) := by
  subst h
  exact pe_bm0 PySem.F.plainAttrs_list PySem.F.slot_list_pop PySem.F.type_list_pop mt_pop ho hbase hline
def dPop (i : Nat) (fg : FG) : TDS := fun dd R ρ => ∃ ys y, ρ[i]? = some (.ml (ys ++ [y])) ∧ fg y (ρ.set i (.ml ys)) dd.nx
instance (priority := high) {i n : Nat} {g : TGs} {fs : FGs} {sl : List Nat} [hg : RefGs K g fs sl] : RefS K τ E (tAsg (tBM0 K "list" rPop (tVar i)) (gTup K n g)) (dPop i (gdTup n fs)) := ⟨fun W A0 H0 D dd R H σ ρ gσ gρ b sr er ek h => by
  obtain ⟨W', A, c⟩ := sr
  obtain ⟨ys, y, e, q⟩ := h
  obtain ⟨v', ev, p, vs, e1, ep, nB, aP, r0⟩ := (c.env.pre c.lg).at_ _ _ e
  subst e1
  have hl := r0.length
  rw [List.length_append, List.length_singleton] at hl
  obtain ⟨v, ev2, rv⟩ := r0.get (i := ys.length) (d := y) (by rw [List.getElem?_append_right (Nat.le_refl _), Nat.sub_self]; rfl)
  have rd : RpAll K A H vs.dropLast ys := by
    have := r0.take ys.length
    rw [List.take_left' rfl] at this
    rw [List.dropLast_eq_take, hl, Nat.add_sub_cancel]
    exact this
  refine ⟨.ref p, ev, .inl ⟨rfl, _, SqL.of ep⟩, p, vs, v, rfl, rfl, ep, by rw [hl]; exact ev2, ?_⟩
  have c1 := c.mut e ev rd
  have rv' : Rp K A (upd H p (.lst vs.dropLast)) v y := rv.go fun b' o eb nt nb => ⟨by
    rw [upd_ne (show b' ≠ p from fun z => nb (z ▸ aP))]
    exact eb, nb⟩
  have hG : RefG K (gTup K n g) (gdTup n fs) sl := inferInstance
  refine hG.go W' A _ σ (ρ.set i (.ml ys)) gσ gρ v y _ _ c1.env c1.lg rv' q fun σ' ρ' e' l' _ n' q' => ?_
  exact er.nx _ σ' ρ' ⟨W', A, c1.wl, c1.a0, c1.bs, c1.fr, e', l', fun j p t a o b => c1.new j p t (n' j p t a o b).1 o (n' j p t a o b).2⟩ q'⟩
/-! ### sorted(xs) of data -/
open PySem.W in
def rSortD (K : PySem.W.Frag) : List V → Hp → VK → Prop := fun xs H Q => ∃ (a : Addr) (vs : List V) (ds : List PyData), xs = [.ref a] ∧ SqL K H a vs ∧ DpAll K H vs ds ∧ AllAlike ds ∧ Sortable ds ∧ (∀ d ∈ ds, d.depth ≤ 60) ∧
  ∀ zs : List (V × PyData), zs.Perm (vs.zip ds) → zs.map (·.2) = ds.mergeSort (dataLe false id) → ∀ p, H p = none → Q (.ref p) (upd H p (.lst (zs.map (·.1))))
theorem each_zip {R : Value → V → Prop} {S : Value → PyData → Prop} : ∀ {us : List Value} {vs : List V} {ds : List PyData}, Paired (fun v u => R u v) vs us → PySem.W.EachIs S us ds → PySem.W.EachIs (fun u (b : V × PyData) => R u b.1) us (vs.zip ds) ∧ PySem.W.EachIs (fun u (b : V × PyData) => S u b.2) us (vs.zip ds)
  | _, _, _, .nil, .nil => ⟨.nil, .nil⟩
  | _, _, _, .cons h r, .cons k s => by
    obtain ⟨a, b⟩ := each_zip r s
    exact ⟨.cons h a, .cons k b⟩
theorem zip_snd : ∀ {vs : List V} {ds : List PyData}, vs.length = ds.length → (vs.zip ds).map (·.2) = ds
  | [], [], _ => rfl
  | v :: vs, d :: ds, h => by
    rw [List.zip_cons_cons, List.map_cons, zip_snd (by simpa using h)]
  | [], _ :: _, h => by simp at h
  | _ :: _, [], h => by simp at h
theorem vals_each : ∀ {us : List Value} {zs : List (V × PyData)}, PySem.W.EachIs (fun u (b : V × PyData) => RelV b.1 u) us zs → Vals (zs.map (·.1)) us
  | _, _, .nil => .nil
  | _, _, .cons h r => .cons h (vals_each r)
open PySem.W in
theorem cr_sortD {X : Cx} (hu : X.A.units + 64 < cLine) : CallR X (.builtin "sorted") (rSortD X.K) := by
  intro pins s σ H vs us Q I r h
  obtain ⟨a, ws, ds, rfl, hs, hp, al, so, dd, q⟩ := h
  rw [Vals.ref1 r]
  obtain ⟨its, rv, hl, hz⟩ := I.list hs
  obtain ⟨as, ra⟩ := Dp.readsAll I _ _ _ hp rv
  have hr : EachIs (fun v d => ∃ as, PySem.Reads s.heap v d as) its ds := readsAll_each id (bs := ds) (by rw [List.map_id]; exact ra)
  obtain ⟨e1, e2⟩ := each_zip (R := fun u v => RelV v u) (S := fun v d => ∃ as, PySem.Reads s.heap v d as) rv hr
  have l1 : ws.length = ds.length := by
    rw [rv.length]
    exact hr.length
  have ez := zip_snd l1
  have lz : (ws.zip ds).length = ws.length := by rw [List.length_zip, l1, Nat.min_self]
  refine sorted_data (R := fun u (b : V × PyData) => RelV b.1 u) (enc := fun b : V × PyData => b.2) (bs := ws.zip ds) hl.isList e1 e2 (by rw [ez]; exact al) (by rw [ez]; exact so) (by rw [lz]; exact hz) (fun b hb => ?_) fun out ho eo => ?_
  · have := dd b.2 (List.of_mem_zip hb).2
    omega
  · obtain ⟨c, hc⟩ := sortedAll_at s.heap its out.toArray
    have hd : s.heap.objs.size ≤ s.heap.objs.size + 1 := Nat.le_succ _
    have rz := vals_each eo
    refine ⟨.ref (s.heap.objs.size + 1), upd H (s.heap.objs.size + 1) (.lst (((ws.zip ds).mergeSort (dataLe false fun b : V × PyData => b.2)).map (·.1))), I.laid (t' := s.toks) (fun _ _ => sortedAll_old) hd ⟨?_, out, c, rz, hc⟩, rfl, q _ (List.mergeSort_perm _ _) ?_ _ (I.hok.fresh hd)⟩
    · rw [List.length_map, List.length_mergeSort, lz]
      exact hz
    · exact (List.map_mergeSort (l := ws.zip ds) (r := dataLe false fun b : V × PyData => b.2) (s := dataLe false id) (f := fun b : V × PyData => b.2) (fun a _ b _ => rfl)).trans (by rw [ez])
theorem cr_sortDK {X : Cx} (h : X.K = K) (hu : X.A.units + 64 < cLine) : CallR X (.builtin "sorted") (rSortD K) := by
  subst h
  exact cr_sortD hu
open PySem.W in
def sortOk (ds : List PyData) : Prop := PyData.canLayAll0 ds = true ∧ AllAlike ds ∧ Sortable ds ∧ ∀ d ∈ ds, d.depth ≤ 60
open PySem.W in
def sortK (Qd : Sl → Prop) : List PyData → Prop := fun xs => sortOk xs ∧ Qd (.ml (xs.mergeSort (dataLe false id)))
def fSortD : List Sl → (Sl → Prop) → Prop := fun ss Qd => match ss with
  | [s] => (match s.seq with
    | some xs => sortK Qd xs
    | none => False)
  | _ => False
theorem rp_perm {A : Addr → Prop} {H : Hp} {vs : List V} {ds : List PyData} (h : RpAll K A H vs ds) : ∀ x ∈ vs.zip ds, Rp K A H x.1 x.2 := by
  intro x hx
  obtain ⟨i, hi⟩ := List.getElem?_of_mem hx
  obtain ⟨e1, e2⟩ := List.getElem?_zip_eq_some.mp hi
  obtain ⟨v, e3, r⟩ := h.get e2
  rw [e1] at e3
  cases e3
  exact r
theorem rp_each {A : Addr → Prop} {H : Hp} : ∀ {zs : List (V × PyData)}, (∀ x ∈ zs, Rp K A H x.1 x.2) → RpAll K A H (zs.map (·.1)) (zs.map (·.2))
  | [], _ => .nil
  | z :: zs, h => .cons (h z List.mem_cons_self) (rp_each fun x hx => h x (List.mem_cons_of_mem _ hx))
instance : RefC K (rSortD K) fSortD := ⟨fun W A H0 H xs ss Qd Q b f i rx h w => by
  unfold fSortD at h
  split at h
  · obtain ⟨v, rfl, r⟩ := vlsr1 rx
    split at h
    · rename_i xs ex
      obtain ⟨p, vs, rfl, sq, r⟩ := r.seq b ex
      obtain ⟨ok, q⟩ := h
      refine ⟨p, vs, xs, rfl, sqLA_sq sq, r.dp ok.1, ok.2.1, ok.2.2.1, ok.2.2.2, fun zs hz ez p' np => ?_⟩
      have rr : RpAll K A H (zs.map (·.1)) (zs.map (·.2)) := rp_each fun x hx => rp_perm r x (hz.mem_iff.mp hx)
      rw [ez] at rr
      exact Want.lst (b.fr f i) w rr q p' np
    · exact h.elim
  · exact h.elim⟩
theorem fSortD_m {xs : List PyData} {Qd : Sl → Prop} : fSortD [.ml xs] Qd = sortK Qd xs := propext Iff.rfl
theorem fSortD_b {xs : List PyData} {Qd : Sl → Prop} : fSortD [.bl xs] Qd = sortK Qd xs := propext Iff.rfl
theorem fSortD_l {xs : List PyData} {Qd : Sl → Prop} : fSortD [.d (.list xs)] Qd = sortK Qd xs := propext Iff.rfl
end
end Dl

namespace Dl
open PySem PySem.Spec PyProof.Rows L2
/-! ### a, b, c = (e, [..], []): data, and two new lists -/
def tPar3L (i j l : Nat) (te : TE) (ta : TA) : TS := tPar3 i j l (tCons te (tCons (tLst ta) (tCons (tLst tNil) tNil)))
def dPar3L (i j l : Nat) (fe : TD) (fa : TDA) : TDS := fun dd R ρ => fe ρ (fun s => ∃ x, s.dat = some x ∧ fa ρ (fun ss => ss.length ≤ sizeLine ∧ ∃ ds, dats ss = some ds ∧ dd.nx (((ρ.set i (.d x)).set j (.ml ds)).set l (.ml []))) R) R
section
variable {K : PySem.W.Frag} {τ : List (Addr × Str)} {E : XK}
instance {i j l : Nat} {te : TE} {ta : TA} {fe : TD} {fa : TDA} [he : RefE K τ E te fe] [ha : RefA K τ E ta fa] : RefS K τ E (tPar3L i j l te ta) (dPar3L i j l fe fa) := ⟨fun W A0 H0 D dd R H σ ρ gσ gρ b sr er ek h => by
  obtain ⟨W', A, c⟩ := sr
  refine he.go W' A H σ ρ _ R _ (c.at_ ek) h fun v H1 s f1 i1 r1 q => ?_
  obtain ⟨x, ex, q⟩ := q
  have c1 := c.step f1 i1
  refine ha.go W' A H1 σ ρ _ R _ (c1.at_ ek) q fun vs H2 ss f2 i2 r2 q2 => ?_
  obtain ⟨hs, ds, ed, q2⟩ := q2
  have c2 := c1.step f2 i2
  have rp := r2.dats c1.bs ed
  have c3 := c2.set (i := i) (s := .d x) trivial ⟨v, rfl, (r1.fr c.bs f2).dat c.bs ex⟩
  refine ⟨by rw [r2.length]; exact hs, fun p n => ?_⟩
  have f3 : Fr W'.B H2 (upd H2 p (.lst vs)) := Fr.new n
  have i3 := W'.stay _ _ (same_new (o := .lst vs) n) i2
  have c4 := c3.own (i := j) (s := .ml ds) f3 i3 (nob n) ⟨p, vs, rfl, upd_same, c2.bs.nB (nob n), .inr rfl, rp.go fun b' o eb _ nb => ⟨same_new n _ _ eb, fun z => z.elim nb (ne_of_none eb n)⟩⟩ trivial
  refine ⟨Nat.zero_le _, fun p2 n2 => ?_⟩
  have f4 : Fr W'.B (upd H2 p (.lst vs)) (upd (upd H2 p (.lst vs)) p2 (.lst [])) := Fr.new n2
  have i4 := W'.stay _ _ (same_new (o := .lst []) n2) i3
  have c5 := c4.own (i := l) (s := .ml []) f4 i4 (nob n2) ⟨p2, [], rfl, upd_same, c4.bs.nB (nob n2), .inr rfl, .nil⟩ trivial
  exact ⟨v, _, _, rfl, er.nx _ _ _ ⟨W', _, c5⟩ q2⟩⟩
theorem dPar3L_c {i j l : Nat} {fe : TD} {fa : TDA} {dd : DEnds} {R : Er → Prop} {ρ : List Sl} : dPar3L i j l fe fa dd R ρ = fe ρ (fun s => ∃ x, s.dat = some x ∧ fa ρ (fun ss => ss.length ≤ sizeLine ∧ ∃ ds, dats ss = some ds ∧ dd.nx (((ρ.set i (.d x)).set j (.ml ds)).set l (.ml []))) R) R := propext Iff.rfl
theorem fSum_l {ns : List Int} {Qd : Sl → Prop} : fInts gSum [.d (.list (ns.map PyData.int))] Qd = Qd (.d (.int ns.sum)) := by
  show (match (oAll dint (ns.map PyData.int)) with | some ns => gSum ns Qd | none => False) = _
  rw [ints_of]
  rfl
end
end Dl

namespace Dl
open PySem PySem.Spec PyProof.Rows L2
section
variable {K : PySem.W.Frag} {τ : List (Addr × Str)} {E : XK}
/-! ### return xs, a list of one's own -/
def tRetO (i : Nat) : TS := tRet (tVar i)
def dRetO (i : Nat) : TDS := fun dd R ρ => ∃ xs, ρ[i]? = some (.ml xs) ∧ dd.rt (.ml xs)
instance {i : Nat} : RefS K τ E (tRetO i) (dRetO i) := ⟨fun W A0 H0 D dd R H σ ρ gσ gρ b sr er ek h => by
  obtain ⟨W', A, c⟩ := sr
  obtain ⟨xs, e, q⟩ := h
  obtain ⟨v', ev, p, vs, e1, ep, nB, aP, r0⟩ := (c.env.pre c.lg).at_ _ _ e
  subst e1
  refine ⟨.ref p, ev, er.rt (.ref p) H (.ml xs) c.fr (c.wl.inv _ c.bs.inv) ⟨p, vs, rfl, c.new i p _ e trivial ev, ep, r0.go (goes_less fun a z => z.elim (c.a0 a) fun z => z ▸ aP)⟩ q⟩⟩
theorem dRetO_c {i : Nat} {dd : DEnds} {R : Er → Prop} {ρ : List Sl} : dRetO i dd R ρ = ∃ xs, ρ[i]? = some (.ml xs) ∧ dd.rt (.ml xs) := propext Iff.rfl
/-! ### xs += a new list -/
theorem ip_ext {X : Cx} : PIp X .Add rExt2 := iop_ext
def dExt (i : Nat) (fe : TD) : TDS := fun dd R ρ => match (ρ[i]?).getD .un with
  | .ml xs => fe ρ (fun s => ∃ ys, s = .ml ys ∧ xs.length + ys.length ≤ sizeLine ∧ dd.nx (ρ.set i (.ml (xs ++ ys)))) R
  | _ => False
instance {i : Nat} {t : TE} {f : TD} [ht : RefE K τ E t f] : RefS K τ E (tAug i t rExt2) (dExt i f) := ⟨fun W A0 H0 D dd R H σ ρ gσ gρ b sr er ek h => by
  obtain ⟨W', A, c⟩ := sr
  obtain ⟨xs, e, q⟩ := own_iff (P := fun xs => f ρ (fun s => ∃ ys, s = .ml ys ∧ xs.length + ys.length ≤ sizeLine ∧ dd.nx (ρ.set i (.ml (xs ++ ys)))) R) h
  obtain ⟨p, vs, ev, ep, nB, r0⟩ := c.own_at e
  refine ⟨.ref p, ev, ?_⟩
  refine ht.go W' A H σ ρ _ R _ (c.at_ ek) q fun y H1 s f1 i1 r1 q1 => ?_
  obtain ⟨ys, rfl, hs, q1⟩ := q1
  obtain ⟨p2, ws, rfl, n2, e2, r2⟩ := r1
  have c1 := c.step f1 i1
  have r01 := r0.go (goes_fr c.bs.ba f1)
  have r2' : RpAll K A H1 ws ys := r2.go (goes_less fun a z => .inl z)
  refine ⟨p, p2, vs, ws, rfl, rfl, f1.1 _ _ ep nt_lst nB, e2, by rw [r0.length, r2'.length]; exact hs, ?_⟩
  have hi := (List.getElem?_eq_some_iff.mp ev)
  have es : σ.set i (some (.ref p)) = σ := by
    have := List.set_getElem_self (as := σ) (i := i) hi.1
    rw [hi.2] at this
    exact this
  show D.nx (σ.set i (some (.ref p))) _
  rw [es]
  exact er.nx _ _ _ ⟨W', A, c1.mut e ev (r01.append r2')⟩ q1⟩
theorem dExt_c {i : Nat} {fe : TD} {dd : DEnds} {R : Er → Prop} {ρ : List Sl} {xs : List PyData} (e : ρ[i]? = some (.ml xs)) (h : fe ρ (fun s => ∃ ys, s = .ml ys ∧ xs.length + ys.length ≤ sizeLine ∧ dd.nx (ρ.set i (.ml (xs ++ ys)))) R) : dExt i fe dd R ρ := by
  unfold dExt
  rw [e]
  exact h
end
end Dl

namespace Dl
open PySem PySem.Spec PyProof.Rows L2
section
variable {K : PySem.W.Frag} {τ : List (Addr × Str)} {E : XK}
/-! ### isinstance of a list of one's own -/
def rIsiB (K : PySem.W.Frag) : List V → Hp → VK → Prop := rIsi K
theorem call_isiB {X : Cx} (h : X.K = K) : CallR X (.builtin "isinstance") (rIsiB K) := h ▸ call_isi
def fIsiB : List Sl → (Sl → Prop) → Prop := fun ss Qd => ∃ xs T, ss = [.bl xs, .raw (.ty T)] ∧ okTy T ∧ Qd (.d (.bool (isiD "list" T)))
instance : RefC K (rIsiB K) fIsiB := ⟨fun W A H0 H xs ss Qd Q b f i rx h w => by
  obtain ⟨ys, T, rfl, ok, q⟩ := h
  obtain ⟨v, u, rfl, r, r'⟩ := vlsr2 rx
  obtain rfl := r'.flat (u := .ty T) rfl
  obtain ⟨p, vs, rfl, sq, _⟩ := r
  exact ⟨.ref p, _, _, _, _, rfl, .ty T, .base (.lst sq.1), isi_kit (.list []) ok, w.here i _ q⟩⟩
end
end Dl

namespace Dl
open PySem PySem.Spec PyProof.Rows L2
section
variable {K : PySem.W.Frag} {τ : List (Addr × Str)} {E : XK}
/-! ### x in xs, of data of any depth -/
def rInD (K : PySem.W.Frag) : R2 := fun x y H Q => ∃ d ds, Dp K H x d ∧ Dp K H y (.list ds) ∧ d.canLay0 = true ∧ PyData.canLayAll0 ds = true ∧ d.depth ≤ 60 ∧ Q (.bl (ds.any fun z => PyData.eqv z d)) H
theorem op_inD {X : Cx} (hu : X.A.units + 64 < cLine) : OpR X (compareOp .In) (rInD X.K) := by
  intro pins s σ H x y v u Q I rx ry h
  obtain ⟨d, ds, px, py, l1, l2, dd, q⟩ := h
  obtain ⟨as, ra⟩ := Dp.reads I _ _ _ px rx
  obtain ⟨bs, rb⟩ := Dp.reads I _ _ _ py ry
  refine PySem.SeqAt.in_list_reads rb ra l2 l1 (by have := Nat.min_le_right (PyData.depthAll ds) d.depth; omega) ⟨.bl (ds.any fun z => PyData.eqv z d), H, I, rfl, q⟩
theorem op_inDK {X : Cx} (h : X.K = K) (hu : X.A.units + 64 < cLine) : OpR X (compareOp .In) (rInD K) := by
  subst h
  exact op_inD hu
def fInD : Sl → Sl → (Sl → Prop) → Prop := fun s u Qd => ∃ d ds, s.dat = some d ∧ u.seq = some ds ∧ d.canLay0 = true ∧ PyData.canLayAll0 ds = true ∧ d.depth ≤ 60 ∧ Qd (.d (.bool (ds.any fun z => PyData.eqv z d)))
instance : Ref2 K (rInD K) fInD := ⟨fun W A H0 H x y s u Qd Q b f i rx ry h w => by
  obtain ⟨d, ds, e1, e2, l1, l2, dd, q⟩ := h
  obtain ⟨p, vs, rfl, sq, r⟩ := ry.seq b e2
  exact ⟨d, ds, (rx.dat b e1).dp l1, .lst (sqLA_sq sq) (r.dp l2), l1, l2, dd, w.here i _ q⟩⟩
/-! ### xs.index(x), of data of any depth, where it is there -/
def rIdxD (K : PySem.W.Frag) : V → List V → Hp → VK → Prop := fun x xs H Q => ∃ (a : Addr) (vs : List V) (y : V) (d : PyData) (ds : List PyData) (j : Nat), x = .ref a ∧ xs = [y] ∧ SqL K H a vs ∧ DpAll K H vs ds ∧ Dp K H y d ∧ d.canLay0 = true ∧ PyData.canLayAll0 ds = true ∧ d.depth ≤ 60 ∧
  (ds.map fun z => PyData.eqv z d).idxOf true = j ∧ j < ds.length ∧ Q (.int (j : Int)) H
theorem lay_mem : ∀ {ds : List PyData} {z : PyData}, PyData.canLayAll0 ds = true → z ∈ ds → z.canLay0 = true
  | x :: r, z, h, hz => by
    rw [PyData.canLayAll0, Bool.and_eq_true] at h
    rcases List.mem_cons.mp hz with rfl | hz
    · exact h.1
    · exact lay_mem h.2 hz
theorem mt_idxD {X : Cx} (hu : X.A.units + 64 < cLine) : MtR X "list.index" (rIdxD X.K) := by
  intro pins s σ H x xs v us Q I rx rxs h
  obtain ⟨a, vs, y, d, ds, j, rfl, rfl, hs, pa, py, l1, l2, dd, ej, hj, q⟩ := h
  cases rx
  cases rxs with
  | cons ry rt =>
    cases rt
    obtain ⟨its, rv, hl, hz⟩ := I.list hs
    obtain ⟨as, ra⟩ := Dp.readsAll I _ _ _ pa rv
    obtain ⟨bs, rb⟩ := Dp.reads I _ _ _ py ry
    have hr : PySem.W.EachIs (fun v d => ∃ as, PySem.Reads s.heap v d as) its ds := PySem.W.readsAll_each id (bs := ds) (by rw [List.map_id]; exact ra)
    have hlen : its.length = ds.length := hr.length
    have each : ∀ {us : List Value} {zs : List PyData}, PySem.W.EachIs (fun v d => ∃ as, PySem.Reads s.heap v d as) us zs → ∀ (k : Nat) (h1 : k < us.length) (h2 : k < zs.length), ∃ as, PySem.Reads s.heap us[k] zs[k] as := by
      intro us zs e
      induction e with
      | nil => intro k h1; exact absurd h1 (Nat.not_lt_zero _)
      | cons a _ ih =>
        intro k h1 h2
        cases k with
        | zero => exact a
        | succ k => exact ih k (by simpa using h1) (by simpa using h2)
    refine PySem.SeqAt.call_list_index (ks := ds.map fun z => PyData.eqv z d) (k := true) hl.isList ⟨by rw [hlen, List.length_map], fun k h1 h2 => ?_⟩ (by rw [List.length_map, ← hlen, ← rv.length]; exact hz) ?_ ⟨.int (j : Int), H, I.tok _, ⟨_, by rw [ej]⟩, q⟩
    · rw [List.length_map] at h2
      obtain ⟨cs, rc⟩ := each hr k h1 h2
      have e := PySem.SeqAt.eqAt_reads ds[k] d X.A.in1 s its[k] _ cs bs rc rb (lay_mem l2 (List.getElem_mem h2)) l1 (by have := Nat.min_le_right ds[k].depth d.depth; show X.A.units + 1 + _ < cLine; omega)
      rw [List.getElem_map]
      have : decide (PyData.eqv ds[k] d = true) = PyData.eqv ds[k] d := by cases PyData.eqv ds[k] d <;> rfl
      rw [this]
      exact e
    · rw [← List.idxOf_lt_length_iff, ej, List.length_map]
      exact hj
def dIdx (fo : TD) (fa : TDA) : TD := fun ρ Qd R => fo ρ (fun s => ∃ ds, s.seq = some ds ∧ fa ρ (fun ss => ∃ d j, dats ss = some [d] ∧ d.canLay0 = true ∧ PyData.canLayAll0 ds = true ∧ d.depth ≤ 60 ∧ (ds.map fun z => PyData.eqv z d).idxOf true = j ∧ j < ds.length ∧ Qd (.d (.int (j : Int)))) R) R
instance {to : TE} {ta : TA} {fo : TD} {fa : TDA} [ho : RefE K τ E to fo] [ha : RefA K τ E ta fa] : RefE K τ E (tBM K "list" (rIdxD K) to ta) (dIdx fo fa) := ⟨fun W A H σ ρ Qd R Q a h w => by
  refine ho.go W A H σ ρ _ R _ a h fun x H1 s f1 i1 r1 q1 => ?_
  obtain ⟨ds, es, q1⟩ := q1
  obtain ⟨p, vs, rfl, sq, r⟩ := r1.seq a.bs es
  refine ⟨.inl ⟨rfl, _, sqLA_sq sq⟩, ?_⟩
  refine ha.go W A H1 σ ρ _ R _ (a.fr f1 i1) q1 fun ys H2 ss f2 i2 r2 q2 => ?_
  obtain ⟨d, j, ed, l1, l2, dd, ej, hj, q⟩ := q2
  have b1 := a.bs.fr f1 i1
  have rp := r2.dats b1 ed
  cases rp with
  | cons ry rt =>
    cases rt
    exact ⟨p, vs, _, d, ds, j, rfl, rfl, sqLA_sq (sqB_fr f2 sq), (r.go (goes_fr b1.ba f2)).dp l2, ry.dp l1, l1, l2, dd, ej, hj, (w.back (f1.trans f2)).here i2 _ q⟩⟩
end
end Dl

namespace Dl
open PySem PySem.Spec PyProof.Rows L2
/-! ### a def that is called where nothing is being shown: repr may be called in it -/
structure FnG (P : Program) (w : World) (K : PySem.W.Frag) (mg : Str → Option Value) (base : Heap) (k : Nat) (f : Addr) (fd : FuncData) (ps : List Str) (sp : Sp) : Prop where
  len : ∀ vs H Q E, sp vs H Q E → vs.length = ps.length
  run : ∀ (A : Around) (outer : List Env) (s : Shared) (H : Hp) (args : Args) (us : List Value) (vs : List V) (Q : VK), Room k A → A.guards = some [] → Env0 P w K mg base A outer s H → BindsTo s fd args (ps.zip us) → Vals vs us → sp vs H Q E0 →
    codeAny (model P w) A (.call (.ref f) args) (CR CX0 outer P w H s Q E0) s
theorem fnG_of {P : Program} {w : World} {K : PySem.W.Frag} {mg : Str → Option Value} {base : Heap} {x : Str} {st : Stmt} {f : Addr} {fd : FuncData} {N ps : List Str} {k : Nat} {sp : Sp} (F : Fun K x x st f fd) (S : FnScope N ps (defScope st)) (len : ∀ vs H Q E, sp vs H Q E → vs.length = ps.length)
    (body : ∀ (cdv : Value) (A : Around) (outer : List Env) (s : Shared) (H : Hp) (vs : List V) (Q : VK), Room k (A.deeper (envOfC x (defScope st) s.heap.objs.size f cdv)) → (A.deeper (envOfC x (defScope st) s.heap.objs.size f cdv)).guards = some [] → sp vs H Q E0 →
      ∃ t, PSs (cxOf CX0 P w K mg base N x (defScope st) f cdv A outer s H E0).nox (defBody st) t ∧ t { nx := fun _ G => Q .non G, rt := Q } (L2.start N vs) H) : FnG P w K mg base (k + 1) f fd ps sp := by
  obtain ⟨oc, od, kV, doc, pm, an, cdv, ct, osl, rfl, lk, hcd⟩ := F.ex
  refine ⟨len, fun A outer s H args us vs Q hr hgd e0 bnd rv hsp => ?_⟩
  have inK : K.In s.heap := e0.mod.kin.keeps fun b o e => (e0.bs b o e).1
  refine codeAny_call_function hr.depth (inK _ _ lk) rfl S.co S.gen rfl (PySem.W.codeRec_of inK hcd) (bnd _ _ _ _ ?_)
  refine wpAny_newFunctionEnv_cells S.kind (fun y hy => ?_) fun env he s1 inC => ?_
  · rcases S.par y.1 (List.of_mem_zip (show (y.1, y.2) ∈ ps.zip us from hy)).1 with z | z
    · exact .inl z
    · exact .inr ⟨z, PySem.W.cellsFrom_some _ _ _ (.inl z)⟩
  · subst he
    refine ⟨(e0.mod.nolimit.keeps fun b o e => (e0.bs b o e).1).keeps inC.toInCall.keep, codeAny_func ?_⟩
    obtain ⟨t, ht, hq⟩ := body cdv A outer s H vs Q (hr.deeper _) hgd hsp
    have J : L2.Inv (cxOf CX0 P w K mg base N x (defScope st) f cdv A outer s H E0) [] (L2.start N vs) H s1 := inv_start S hr.hd e0 (len _ _ _ _ hsp) rv inC
    refine wpAny_mono (ht.nox.run [] s1 (L2.start N vs) H _ J hq) (fun fl s' hs => ?_) fun e s' hs => hs
    cases fl with
    | ret u =>
      obtain ⟨v, σ', H', J', rv', q⟩ := hs
      exact ⟨v, H', J'.os, J'.bare, J'.base, J'.hok, rv', q⟩
    | next =>
      obtain ⟨σ', H', J', q⟩ := hs
      exact ⟨.non, H', J'.os, J'.bare, J'.base, J'.hok, rfl, q⟩
    | brk =>
      obtain ⟨_, _, _, q⟩ := hs
      exact q.elim
    | cont =>
      obtain ⟨_, _, _, q⟩ := hs
      exact q.elim
theorem pe_callG {X : Cx} {k : Nat} {f : Addr} {fd : FuncData} {ps : List Str} {sp : Sp} {x : Str} {u1 u2 : Pos} {e : Expr} {es : List Expr} {t : TA} (F : FnG X.prog X.w X.K X.mg X.base k f fd ps sp) (hr : Room k X.A) (hgd : X.A.guards = some []) (hg : Gl X x) (hm : X.mg x = some (.ref f))
    (hk : PySem.W.keepIn X.K (.ref f) = true) (hb : L2.Binds X.K fd ps []) (ha : PA X (e :: es) t) (hdb : (x == ("__debug__" : Str)) = false := by decide) (he : starEach (e :: es) X.env = (false, eval e X.env) :: starEach es X.env := by rfl) (hpl : (backTo u2 (starEach es X.env)).any (·.1) = false := by rfl) :
    PE X (.Call (.Name x u1) (e :: es) [] u2) (tCall sp [] E0 t) := by
  refine ⟨fun pins s σ H Q I h => wpAny_Call_Name_kw (ld_glob I hg hm ?_ hdb)⟩
  refine PySem.W.callWith_K (h₀ := X.base) I.ok.mod.kin hk (thn (ha.run u2 pins s σ H _ I h) fun us t1 ⟨vs, G, J, rv, q⟩ => ⟨J.kIn, ?_⟩) he hpl
  have q : sp (vs ++ []) G Q E0 := q
  rw [List.append_nil] at q
  have hl : us.length = ps.length := by
    rw [← rv.length]
    exact F.len _ _ _ _ q
  have bnd := hb t1 us J.kIn (by rw [List.append_nil]; exact hl)
  rw [List.append_nil] at bnd
  refine wpAny_call (codeAny_mono (F.run X.A X.stack t1 G ⟨us, []⟩ us vs Q hr hgd J.env0 bnd rv q) fun r s' hq => ?_)
  cases r with
  | error e => exact (show False from hq).elim
  | ok fl =>
    cases fl with
    | ret u => exact J.after hq
    | next => exact (show False from hq).elim
    | brk => exact (show False from hq).elim
    | cont => exact (show False from hq).elim
/-- by data -/
theorem okG {P : Program} {w : World} {K : PySem.W.Frag} {mg : Str → Option Value} {base : Heap} {x : Str} {st : Stmt} {f : Addr} {fd : FuncData} {N ps : List Str} {k : Nat} {ms : List Bool} {sp : SpD} (F : Fun K x x st f fd) (S : FnScope N ps (defScope st)) (hl : ∀ ss Qd R, sp ss Qd R → ss.length = ps.length)
    (body : ∀ (cdv : Value) (A : Around) (outer : List Env) (s : Shared) (H : Hp), Room k (A.deeper (envOfC x (defScope st) s.heap.objs.size f cdv)) → (A.deeper (envOfC x (defScope st) s.heap.objs.size f cdv)).guards = some [] → ∃ t, PSs (cxOf CX0 P w K mg base N x (defScope st) f cdv A outer s H E0).nox (defBody st) t ∧ Reads K E0 t N sp) :
    FnG P w K mg base (k + 1) f fd ps (spD K ms sp) :=
  fnG_of F S (VlsR.len_sp hl) fun cdv A outer s H vs Q hr hgd h => by
    obtain ⟨t, h1, h2⟩ := body cdv A outer s H hr hgd
    exact ⟨t, h1, h2.run h⟩
end Dl

namespace Dl
open PySem PySem.Spec PyProof.Rows L2
/-! ### such a def that makes lambdas, too: its code object and the tables are known -/
def ReadsT (K : PySem.W.Frag) (E : XK) (τ : List (Addr × Str)) (t : TS) (N : List Str) (sp : SpD) : Prop := ∃ g, RefS K τ E t g ∧ ∀ ss Qd R, sp ss Qd R → g { nx := fun _ => Qd (.d .none), rt := Qd } R (startD N ss)
theorem ReadsT.run {K : PySem.W.Frag} {E : XK} {τ : List (Addr × Str)} {t : TS} {N : List Str} {sp : SpD} (h : ReadsT K E τ t N sp) {vs : List V} {H : Hp} {Q : VK} (hs : spDT K τ sp vs H Q E) : t { nx := fun _ H' => Q .non H', rt := Q } (L2.start N vs) H := by
  obtain ⟨g, hg, h⟩ := h
  obtain ⟨W, A, ss, Qd, R, b, r, ar, q, w, ek⟩ := hs
  have env := env_start (N := N) r ar
  refine hg.go W A H _ { nx := fun _ => Qd (.d .none), rt := Qd } R H _ _ [] [] b ⟨W, A, WLe.refl W H, fun _ z => z, b, Fr.refl H, by rw [List.append_nil, List.append_nil]; exact env, env.len, fun i p t e k _ => ?_⟩ ⟨fun H' σ ρ sr z => ?_, fun v H' s f i r z => w v H' s f i r z, fun H' σ ρ sr z => False.elim z, fun H' σ ρ sr z => False.elim z⟩ ek (h ss Qd R q)
  · have := List.mem_of_getElem? e
    rcases List.mem_append.mp this with z | z
    · have := ar _ z
      cases t <;> first | exact this.elim | exact k.elim
    · rw [(List.mem_replicate.mp z).2] at k
      exact k.elim
  · obtain ⟨W', A', c⟩ := sr
    exact w .non H' (.d .none) c.fr (c.wl.inv _ c.bs.inv) Rp.non z
/-- a def of the text whose code object is known -/
def DfC (K : PySem.W.Frag) (mg : Str → Option Value) (x : Str) (st : Stmt) (ps : List Str) (c : Addr) : Prop := ∃ (f : Addr) (oc : Value) (od : Option Addr) (kV doc pm : Value) (an : Option Addr) (ct : Value) (osl : Array (Option Value)),
  K.lookup f = some ⟨oc, od, .func (PySem.W.fnOf x x (defArgs st) (defBody st) (defScope st) .none kV doc pm an (.ref c) ct), osl⟩ ∧ PySem.W.codeIn K (.ref c) x = true ∧ PySem.W.keepIn K (.ref f) = true ∧ mg x = some (.ref f) ∧ Binds K (PySem.W.fnOf x x (defArgs st) (defBody st) (defScope st) .none kV doc pm an (.ref c) ct) ps []
/-- one that can be called by its name where nothing is being shown -/
structure CbG (P : Program) (w : World) (K : PySem.W.Frag) (mg : Str → Option Value) (base : Heap) (k : Nat) (x : Str) (ps : List Str) (sp : Sp) : Prop where
  ex : ∃ f fd, FnG P w K mg base k f fd ps sp ∧ mg x = some (.ref f) ∧ PySem.W.keepIn K (.ref f) = true ∧ Binds K fd ps []
theorem pe_cbG {X : Cx} {k : Nat} {ps : List Str} {sp : Sp} {x : Str} {p pos : Pos} {e : Expr} {es : List Expr} {t : TA} (h : CbG X.prog X.w X.K X.mg X.base k x ps sp) (hr : Room k X.A) (hgd : X.A.guards = some []) (hg : Gl X x) (ha : PA X (e :: es) t)
    (hdb : (x == ("__debug__" : Str)) = false := by decide) (he : starEach (e :: es) X.env = (false, eval e X.env) :: starEach es X.env := by rfl) (hpl : (backTo pos (starEach es X.env)).any (·.1) = false := by rfl) : PE X (.Call (.Name x p) (e :: es) [] pos) (tCall sp [] E0 t) := by
  obtain ⟨f, fd, F, hm, hk, hb⟩ := h.ex
  exact pe_callG F hr hgd hg hm hk hb ha hdb he hpl
theorem okGT {P : Program} {w : World} {K : PySem.W.Frag} {mg : Str → Option Value} {base : Heap} {x : Str} {st : Stmt} {c : Addr} {N ps : List Str} {k : Nat} {τ : List (Addr × Str)} {sp : SpD} (F : DfC K mg x st ps c) (S : FnScope N ps (defScope st)) (hl : ∀ ss Qd R, sp ss Qd R → ss.length = ps.length)
    (body : ∀ (f : Addr) (A : Around) (outer : List Env) (s : Shared) (H : Hp), Room k (A.deeper (envOfC x (defScope st) s.heap.objs.size f (.ref c))) → (A.deeper (envOfC x (defScope st) s.heap.objs.size f (.ref c))).guards = some [] → ∃ t, PSs (cxOf CX0 P w K mg base N x (defScope st) f (.ref c) A outer s H E0).nox (defBody st) t ∧ ReadsT K E0 τ t N sp) :
    CbG P w K mg base (k + 1) x ps (spDT K τ sp) := by
  obtain ⟨f, oc, od, kV, doc, pm, an, ct, osl, lk, hcd, kp, gm, bd⟩ := F
  have len : ∀ vs H Q E, spDT K τ sp vs H Q E → vs.length = ps.length := fun vs H Q E ⟨W, A, ss, Qd, R, b, r, ar, q, w, ek⟩ => by
    rw [r.length]
    exact hl ss Qd R q
  refine ⟨f, _, ⟨len, fun A outer s H args us vs Q hr hgd e0 bnd rv hsp => ?_⟩, gm, kp, bd⟩
  have inK : K.In s.heap := e0.mod.kin.keeps fun b o e => (e0.bs b o e).1
  refine codeAny_call_function hr.depth (inK _ _ lk) rfl S.co S.gen rfl (PySem.W.codeRec_of inK hcd) (bnd _ _ _ _ ?_)
  refine wpAny_newFunctionEnv_cells S.kind (fun y hy => ?_) fun env he s1 inC => ?_
  · rcases S.par y.1 (List.of_mem_zip (show (y.1, y.2) ∈ ps.zip us from hy)).1 with z | z
    · exact .inl z
    · exact .inr ⟨z, PySem.W.cellsFrom_some _ _ _ (.inl z)⟩
  · subst he
    refine ⟨(e0.mod.nolimit.keeps fun b o e => (e0.bs b o e).1).keeps inC.toInCall.keep, codeAny_func ?_⟩
    obtain ⟨t, ht, hq⟩ := body f A outer s H (hr.deeper _) hgd
    have J : L2.Inv (cxOf CX0 P w K mg base N x (defScope st) f (.ref c) A outer s H E0) [] (L2.start N vs) H s1 := inv_start S hr.hd e0 (len _ _ _ _ hsp) rv inC
    refine wpAny_mono (ht.nox.run [] s1 (L2.start N vs) H _ J (hq.run hsp)) (fun fl s' hs => ?_) fun e s' hs => hs
    cases fl with
    | ret u =>
      obtain ⟨v, σ', H', J', rv', q⟩ := hs
      exact ⟨v, H', J'.os, J'.bare, J'.base, J'.hok, rv', q⟩
    | next =>
      obtain ⟨σ', H', J', q⟩ := hs
      exact ⟨.non, H', J'.os, J'.bare, J'.base, J'.hok, rfl, q⟩
    | brk =>
      obtain ⟨_, _, _, q⟩ := hs
      exact q.elim
    | cont =>
      obtain ⟨_, _, _, q⟩ := hs
      exact q.elim
end Dl

namespace Dl
open PySem PySem.Spec PyProof.Rows L2
/-! ### a block: xs = [a new list for ..], then for ..: xs[k] += a new list -/
section
variable {K : PySem.W.Frag} {τ : List (Addr × Str)} {E : XK}
def AL (A : Addr → Prop) (L : Addr) (as : List Addr) : Addr → Prop := fun x => A x ∨ x = L ∨ x ∈ as
structure LF (K : PySem.W.Frag) (A : Addr → Prop) (Hb G : Hp) (L : Addr) (as : List Addr) (rows : List (List PyData)) : Prop where
  nL : ¬ Ob Hb L
  eL : G L = some (.lst (as.map V.ref))
  nd : as.Nodup
  nin : L ∉ as
  fresh : ∀ a ∈ as, ¬ Ob Hb a
  rows_ : Paired (fun a row => ∃ vs, G a = some (.lst vs) ∧ RpAll K (AL A L as) G vs row) as rows
theorem paired_mem {α β : Type} {R : α → β → Prop} : ∀ {xs : List α} {ys : List β} {x : α}, Paired R xs ys → x ∈ xs → ∃ y, R x y
  | _, _, _, .nil, h => nomatch h
  | _, _, x, .cons h r, hx => by
    rcases List.mem_cons.mp hx with e | hx
    · subst e
      exact ⟨_, h⟩
    · exact paired_mem r hx
theorem paired_len {α β : Type} {R : α → β → Prop} : ∀ {xs : List α} {ys : List β}, Paired R xs ys → xs.length = ys.length
  | _, _, .nil => rfl
  | _, _, .cons _ r => by rw [List.length_cons, List.length_cons, paired_len r]
variable {W : Wld τ} {A : Addr → Prop} {Hb G G' : Hp} {L : Addr} {as : List Addr} {rows : List (List PyData)}
theorem LF.step (h : LF K A Hb G L as rows) (b : Bs W A Hb) (f : Fr W.B G G') : LF K A Hb G' L as rows :=
  ⟨h.nL, f.1 _ _ h.eL nt_lst (b.nB h.nL), h.nd, h.nin, h.fresh, paired_imp h.rows_ fun a row ha ⟨vs, e, r⟩ => ⟨vs, f.1 _ _ e nt_lst (b.nB (h.fresh a ha)), r.go (goes_fr (fun a z => .inl (b.ba a z)) f)⟩⟩
theorem LF.ob (h : LF K A Hb G L as rows) {x : Addr} (hx : x = L ∨ x ∈ as) : Ob G x := by
  rcases hx with rfl | hx
  · exact ⟨_, h.eL, nt_lst⟩
  · obtain ⟨row, vs, e, _⟩ := paired_mem h.rows_ hx
    exact ⟨_, e, nt_lst⟩
theorem LF.nHb (h : LF K A Hb G L as rows) {x : Addr} (hx : x = L ∨ x ∈ as) : ¬ Ob Hb x := by
  rcases hx with rfl | hx
  · exact h.nL
  · exact h.fresh x hx
theorem LF.bs (h : LF K A Hb G L as rows) (b : Bs W A Hb) (f : Fr W.B Hb G) (i : W.I G) : Bs W (AL A L as) G := ⟨fun a z => .inl (b.ba a z), fun a z => by
  rcases z with z | z
  · exact f.2 a (b.dom a z)
  · exact h.ob z, i⟩
theorem LF.goes (h : LF K A Hb G L as rows) : Goes A (AL A L as) Hb Hb := fun c o ec t nc => ⟨ec, fun z => by
  rcases z with z | z
  · exact nc z
  · exact h.nHb z ⟨o, ec, t⟩⟩
theorem LF.env {σ : L2.St} {ρ : List Sl} (h : LF K A Hb G L as rows) (b : Bs W A Hb) (f : Fr W.B Hb G) (e : EnvR K W A Hb σ ρ) : EnvR K W (AL A L as) G σ ρ := (e.grow h.goes fun a z => .inl z).fr (fun a z => .inl (b.ba a z)) f
theorem LF.at_ {σ : L2.St} {ρ : List Sl} {R : Er → Prop} (h : LF K A Hb G L as rows) (a0 : At K W A E Hb σ ρ R) (f : Fr W.B Hb G) (i : W.I G) : At K W (AL A L as) E G σ ρ R :=
  ⟨h.bs a0.bs f i, h.env a0.bs f a0.env, fun er x H2 f2 i2 z r => a0.er er x H2 (f.trans f2) i2 (z.mono fun a q => .inl q) r⟩
theorem LF.first (n : Hb L = none) : LF K A Hb (upd Hb L (.lst [])) L [] [] := ⟨nob n, upd_same, List.nodup_nil, List.not_mem_nil, (fun _ h => nomatch h), Paired.nil⟩
/-- one more list -/
theorem LF.snoc {p : Addr} {us : List V} {row : List PyData} (h : LF K A Hb G L as rows) (b : Bs W A Hb) (f0 : Fr W.B Hb G) (f : Fr W.B G G') (np : ¬ Ob G p) (e1 : G' p = some (.lst us)) (r : RpAll K (fun a => AL A L as a ∨ a = p) G' us row) :
    LF K A Hb (upd G' L (.lst (as.map V.ref ++ [.ref p]))) L (as ++ [p]) (rows ++ [row]) := by
  have npL : p ≠ L := fun z => np (h.ob (.inl z))
  have npa : p ∉ as := fun z => np (h.ob (.inr z))
  have npb : ¬ Ob Hb p := fun z => np (f0.2 p z)
  refine ⟨h.nL, by rw [upd_same, List.map_append]; rfl, List.nodup_append.mpr ⟨h.nd, by simp, fun x hx y hy => by
      rw [List.mem_singleton.mp hy]
      exact fun z => npa (z ▸ hx)⟩, fun z => ?_, fun x hx => ?_, ?_⟩
  · rcases List.mem_append.mp z with z | z
    · exact h.nin z
    · exact npL (List.mem_singleton.mp z).symm
  · rcases List.mem_append.mp hx with z | z
    · exact h.fresh x z
    · rw [List.mem_singleton.mp z]
      exact npb
  · refine paired_snoc (paired_imp h.rows_ fun x row hx ⟨vs, e, r⟩ => ⟨vs, ?_, r.go fun c o ec t nc => ?_⟩) ⟨us, ?_, r.go fun c o ec t nc => ?_⟩
    · rw [upd_ne (ne_in h.nin hx)]
      exact f.1 _ _ e nt_lst (b.nB (h.fresh x hx))
    · have c1 : c ≠ L := fun z => nc (.inr (.inl z))
      refine ⟨by rw [upd_ne c1]; exact f.1 c o ec t fun z => nc (.inl (b.ba c z)), fun z => ?_⟩
      rcases z with z | z | z
      · exact nc (.inl z)
      · exact c1 z
      · rcases List.mem_append.mp z with z | z
        · exact nc (.inr (.inr z))
        · rw [List.mem_singleton.mp z] at ec
          exact np ⟨o, ec, t⟩
    · rw [upd_ne npL]
      exact e1
    · have c1 : c ≠ L := fun z => nc (.inl (.inr (.inl z)))
      refine ⟨by rw [upd_ne c1]; exact ec, fun z => ?_⟩
      rcases z with z | z | z
      · exact nc (.inl (.inl z))
      · exact c1 z
      · rcases List.mem_append.mp z with z | z
        · exact nc (.inl (.inr (.inr z)))
        · exact nc (.inr (List.mem_singleton.mp z))
/-- one of them grows -/
theorem LF.ext {a : Addr} {n : Nat} {vs us : List V} {row ys : List PyData} (h : LF K A Hb G L as rows) (ea : as[n]? = some a) (ev : G a = some (.lst vs)) (er : rows[n]? = some row) (r : RpAll K (AL A L as) G us ys) :
    LF K A Hb (upd G a (.lst (vs ++ us))) L as (rows.set n (row ++ ys)) := by
  have ma := List.mem_of_getElem? ea
  obtain ⟨a', ea', vs', ev', rv⟩ := paired_at h.rows_ er
  rw [ea] at ea'
  cases ea'
  rw [ev] at ev'
  cases ev'
  have go : Goes (AL A L as) (AL A L as) G (upd G a (.lst (vs ++ us))) := fun b o e _ n => ⟨by rw [upd_ne (show b ≠ a from fun z => n (.inr (.inr (z ▸ ma))))]; exact e, n⟩
  refine ⟨h.nL, ?_, h.nd, h.nin, h.fresh, ?_⟩
  · rw [upd_ne (show L ≠ a from fun z => h.nin (z ▸ ma))]
    exact h.eL
  · have key : ∀ {xs : List Addr} {zs : List (List PyData)} {j : Nat}, Paired (fun a row => ∃ vs, G a = some (.lst vs) ∧ RpAll K (AL A L as) G vs row) xs zs → xs.Nodup → xs[j]? = some a → Paired (fun x row => ∃ vs', (upd G a (.lst (vs ++ us))) x = some (.lst vs') ∧ RpAll K (AL A L as) (upd G a (.lst (vs ++ us))) vs' row) xs (zs.set j (row ++ ys)) := by
      intro xs zs j p
      induction p generalizing j with
      | nil => intro _ e; simp at e
      | @cons x y xs zs q r' ih =>
        intro nd e
        obtain ⟨n1, n2⟩ := List.nodup_cons.mp nd
        cases j with
        | zero =>
          simp at e
          subst e
          refine .cons ⟨_, upd_same, (rv.go go).append (r.go go)⟩ (paired_imp r' fun z row hz ⟨us, e1, r1⟩ => ⟨us, ?_, r1.go go⟩)
          rw [upd_ne (show z ≠ _ from ne_in n1 hz)]
          exact e1
        | succ j =>
          simp at e
          obtain ⟨us, e1, r1⟩ := q
          refine .cons ⟨us, ?_, r1.go go⟩ (ih n2 e)
          rw [upd_ne (show x ≠ a from (ne_in n1 (List.mem_of_getElem? e)).symm)]
          exact e1
    exact key h.rows_ h.nd ea
theorem LF.self (h : LF K A Hb G L as rows) : upd G L (.lst (as.map V.ref)) = G := by
  funext x
  by_cases e : x = L
  · subst e
    rw [upd_same, h.eL]
  · rw [upd_ne e]
/-- as data -/
theorem LF.all (h : LF K A Hb G L as rows) (b : Bs W A Hb) : RpAll K (fun a => A a ∨ a = L) G (as.map V.ref) (rows.map PyData.list) := by
  have key : ∀ {xs : List Addr} {ys : List (List PyData)}, Paired (fun a row => ∃ vs, G a = some (.lst vs) ∧ RpAll K (AL A L as) G vs row) xs ys → (∀ x ∈ xs, x ∈ as) → RpAll K (fun a => A a ∨ a = L) G (xs.map V.ref) (ys.map PyData.list) := by
    intro xs ys p
    induction p with
    | nil => intro _; exact .nil
    | @cons x y xs ys q r ih =>
      intro hm
      obtain ⟨vs, e, rr⟩ := q
      have mx := hm x List.mem_cons_self
      refine .cons (.lst ⟨e, fun z => ?_⟩ (rr.go (goes_less fun a z => z.elim .inl fun z => .inr (.inl z)))) (ih fun z hz => hm z (List.mem_cons_of_mem _ hz))
      rcases z with z | z
      · exact b.nA (h.fresh x mx) z
      · exact h.nin (z ▸ mx)
  exact key h.rows_ fun _ z => z
end
end Dl

namespace Dl
open PySem PySem.Spec PyProof.Rows L2
section
variable {K : PySem.W.Frag} {τ : List (Addr × Str)} {E : XK}
def lcO (fg : FG) (fe : TD) (ρ : List Sl) (R : Er → Prop) (Q : List (List PyData) → Prop) : List PyData → List (List PyData) → Prop
  | [], acc => Q acc
  | d :: r, acc => fg d ρ fun ρ' => fe ρ' (fun s => ∃ row, s = .ml row ∧ acc.length < sizeLine ∧ lcO fg fe ρ R Q r (acc ++ [row])) R
theorem lc_own {wi : TI} {g : TG} {te : TE} {vs sl : List Nat} {fi : TDI} {fg : FG} {fe : TD} (hi : RefJ K τ E wi fi) (hg : RefG K g fg sl) (he : RefE K τ E te fe) (inc : Inc sl vs) {W : Wld τ} {A : Addr → Prop} {H : Hp} {σ : L2.St} {ρ : List Sl} {R : Er → Prop} {Q : VK} {Qd : List (List PyData) → Prop}
    (a : At K W A E H σ ρ R) (h : fi ρ (fun ds => lcO fg fe (wipeD ρ vs) R Qd ds []) R)
    (w : ∀ (Hb G : Hp) (L : Addr) (as : List Addr) (rows : List (List PyData)), Fr W.B H Hb → W.I Hb → Fr W.B Hb G → W.I G → LF K A Hb G L as rows → Qd rows → Q (.ref L) G) : tLc wi g tYes te vs σ H Q := by
  refine hi.go W A H σ ρ _ R _ a h fun J H1 ds f1 i1 jt q => ?_
  intro D nD
  have a1 := a.fr f1 i1
  have nB : ¬ W.B D := a1.bs.nB (nob nD)
  refine ⟨fun i m H' => m = ds.length - i ∧ i ≤ ds.length ∧ Fr W.B H1 H' ∧ W.I H' ∧ ∃ as rows, LF K A H1 H' D as rows ∧ lcO fg fe (wipeD ρ vs) R Qd (ds.drop i) rows,
    ⟨ds.length, by omega, by omega, Fr.of (same_new nD), W.stay _ _ (same_new nD) i1, [], [], LF.first nD, q⟩, ?_⟩
  rintro i m H' ⟨rfl, hi', f', i', as, rows, hL, q'⟩
  have aH := hL.at_ a1 f' i'
  obtain ⟨j1, j2, j3⟩ := jt _ H' i aH.bs hL.goes f'
  by_cases hlt : i < ds.length
  · rw [List.drop_eq_getElem_cons hlt] at q'
    refine .inr ⟨j1 hlt, fun H2 => i + 1 ≤ ds.length ∧ Fr W.B H1 H2 ∧ W.I H2 ∧ ∃ as rows, LF K A H1 H2 D as rows ∧ lcO fg fe (wipeD ρ vs) R Qd (ds.drop (i + 1)) rows, fun H2 z => ⟨ds.length - (i + 1), by omega, rfl, z⟩, fun x H2 y => ?_⟩
    obtain ⟨sm, rx⟩ := j3 x H2 ds[i] (List.getElem?_eq_getElem hlt) y
    have f2 : Fr W.B H' H2 := Fr.of sm
    have i2 := W.stay _ _ sm i'
    have a2 := aH.fr f2 i2
    have ew : EnvR K W (AL A D as) H2 (wipe σ vs ++ []) (wipeD ρ vs ++ []) := by
      rw [List.append_nil, List.append_nil]
      exact a2.env.wipe vs
    refine hg.go W (AL A D as) H2 (wipe σ vs) (wipeD ρ vs) [] [] x ds[i] _ _ ew (a2.env.wipe vs).len rx q' fun σ3 ρ3 e3 l3 d3 _ q3 => ?_
    rw [List.append_nil, List.append_nil] at e3
    have ww : wipe σ3 vs = wipe σ vs := by
      have z := d3 vs inc.h
      rw [z]
      refine List.ext_getElem? fun j => ?_
      rw [wipe_get, wipe_get]
      by_cases hj : j ∈ vs
      · rw [if_pos hj, if_pos hj]
        cases σ[j]? <;> rfl
      · rw [if_neg hj, if_neg hj]
    refine ⟨ww, ?_⟩
    have a3 : At K W (AL A D as) E H2 σ3 ρ3 R := ⟨a2.bs, e3, a2.er⟩
    simp only [tYes, reduceIte]
    refine (he.go W (AL A D as) H2 σ3 ρ3 _ R _ a3 q3 fun y H4 s f4 i4 r4 q5 => ?_)
    obtain ⟨row, rfl, hs, q6⟩ := q5
    obtain ⟨p, us, rfl, np, e1, r⟩ := r4
    have hL2 := hL.step a1.bs f2
    have eD4 : H4 D = some (.lst (as.map V.ref)) := f4.1 _ _ hL2.eL nt_lst nB
    have hl := paired_len hL.rows_
    refine ⟨as.map V.ref, eD4, by rw [List.length_map, hl]; exact hs, hlt, ?_, W.own H4 D _ _ i4 eD4 (.lst _) (.lst _) nB, _, _, hL2.snoc a1.bs (f'.trans f2) f4 np e1 r, q6⟩
    refine ⟨fun c o ec t nc => ?_, fun c hc => ?_⟩
    · rw [upd_ne (ne_of_none ec nD)]
      exact ((f'.trans f2).trans f4).1 c o ec t nc
    · by_cases e : c = D
      · subst e
        exact ⟨_, upd_same, nt_lst⟩
      · obtain ⟨o, e1, t1⟩ := ((f'.trans f2).trans f4).2 c hc
        exact ⟨o, (upd_ne e).trans e1, t1⟩
  · have e : i = ds.length := by omega
    subst e
    rw [List.drop_length] at q'
    exact .inl ⟨j2 (Nat.le_refl _), w H1 H' D as rows f1 i1 f' i' hL q'⟩
def Sl.noB : Sl → Bool
  | .bl _ => false
  | .bo _ => false
  | _ => true
theorem noB_own {s : Sl} (h : s.noB = true) (k : s.foot) : s.isOwn := by cases s <;> first | trivial | cases h | exact k.elim
theorem env_mut {W : Wld τ} {A : Addr → Prop} {G : Hp} {σ : L2.St} {ρ : List Sl} {a : Addr} {o : HO} (e : EnvR K W A G σ ρ) (ha : A a) (inn : ∀ (j : Nat) (q : Addr) (s : Sl), ρ[j]? = some s → s.foot → σ[j]? = some (some (.ref q)) → q ≠ a) : EnvR K W A (upd G a o) σ ρ := by
  have g : Goes A A G (upd G a o) := fun b o eb _ nb => ⟨(upd_ne fun (z : b = a) => nb (by rw [z]; exact ha)).trans eb, nb⟩
  refine ⟨e.len, fun j s ej => ?_, e.dis⟩
  obtain ⟨w, ew, q⟩ := e.at_ j s ej
  refine ⟨w, ew, ?_⟩
  have far : s.foot → ∀ q' : Addr, w = some (.ref q') → q' ≠ a := fun hf q' e1 => inn j q' s ej hf (by rw [ew, e1])
  cases s with
  | un => exact q
  | d x =>
    obtain ⟨u, e1, r1⟩ := q
    exact ⟨u, e1, r1.go g⟩
  | ml zs =>
    obtain ⟨q', ws, f1, f2, f3, f4, f5⟩ := q
    exact ⟨q', ws, f1, (upd_ne (far trivial q' f1)).trans f2, f3, f4, f5.go g⟩
  | bl zs =>
    obtain ⟨q', ws, f1, f2, f3⟩ := q
    exact ⟨q', ws, f1, ⟨(upd_ne (far trivial q' f1)).trans f2.1, f2.2⟩, f3.go g⟩
  | st => exact q
  | scr ns => exact q
  | raw u => exact q
  | mo o =>
    obtain ⟨q', ws, f1, f2, f3, f4, f5⟩ := q
    exact ⟨q', ws, f1, (upd_ne (far trivial q' f1)).trans f2, f3, f4, f5.go g⟩
  | bo o =>
    obtain ⟨q', ws, f1, f2, f3, f4⟩ := q
    exact ⟨q', ws, f1, (upd_ne (far trivial q' f1)).trans f2, f3, f4.go g⟩
def forB (r : Nat) (fg : FG) (fk fe : TD) (dd : DEnds) (R : Er → Prop) : List PyData → List (List PyData) → List Sl → Prop
  | [], rows, ρ => dd.nx (ρ.set r (.ml (rows.map PyData.list)))
  | d :: ds, rows, ρ => fg d ρ fun ρ' => ρ'[r]? = ρ[r]? ∧ ρ'.all Sl.noB = true ∧ fk ρ' (fun s => ∃ (n : Nat) (row : List PyData), s = .d (.int (n : Int)) ∧ rows[n]? = some row ∧ fe ρ' (fun s2 => ∃ ys, s2 = .ml ys ∧ row.length + ys.length ≤ sizeLine ∧ forB r fg fk fe dd R ds (rows.set n (row ++ ys)) ρ') R) R
def tBlk (K : PySem.W.Frag) (r : Nat) (wi : TI) (g : TG) (te : TE) (vs : List Nat) (wi2 : TI) (g2 : TG) (tk te2 : TE) : TS := tSeq (tAsg (tLc wi g tYes te vs) (gName r)) (tFor wi2 g2 (tAugS (tVar r) tk te2 (rIxL K) rExt2 rSetL))
def dBlk (r : Nat) (fi : TDI) (fg : FG) (fe : TD) (vs : List Nat) (fi2 : TDI) (fg2 : FG) (fk fe2 : TD) : TDS := fun dd R ρ => fi ρ (fun ds => lcO fg fe (wipeD ρ vs) R (fun rows => r < ρ.length ∧ ∀ L : Addr, fi2 (ρ.set r (.raw (.ref L))) (fun ds2 => forB r fg2 fk fe2 dd R ds2 rows (ρ.set r (.raw (.ref L)))) R) ds []) R
set_option maxHeartbeats 2000000 in
instance {r : Nat} {wi wi2 : TI} {g g2 : TG} {te tk te2 : TE} {vs sl sl2 : List Nat} {fi fi2 : TDI} {fg fg2 : FG} {fe fk fe2 : TD} [hi : RefJ K τ E wi fi] [hg : RefG K g fg sl] [he : RefE K τ E te fe] [inc : Inc sl vs] [hi2 : RefI K τ E wi2 fi2] [hg2 : RefG K g2 fg2 sl2] [hk : RefE K τ E tk fk] [he2 : RefE K τ E te2 fe2] : RefS K τ E (tBlk K r wi g te vs wi2 g2 tk te2) (dBlk r fi fg fe vs fi2 fg2 fk fe2) := ⟨fun W0 A0 H0 D dd R H σ ρ gσ gρ b sr er ek h => by
  obtain ⟨W, A, c⟩ := sr
  unfold tBlk tSeq
  show tAsg (tLc wi g tYes te vs) (gName r) _ σ H
  unfold tAsg gName
  refine lc_own hi hg he inc (c.at_ ek) h fun Hb G0 L as rows0 fHb iHb f0 i0 hL0 q => ?_
  obtain ⟨hr, q⟩ := q
  have c1 := c.step fHb iHb
  have c2 := c1.set (i := r) (v := .ref L) (s := .raw (.ref L)) trivial rfl
  have a2 := c2.at_ ek
  have gl : gσ.length = gρ.length := by
    have := c2.env.len
    simp only [List.length_append] at this
    have := c2.lg
    omega
  have bb := c1.bs
  refine hi2.go W (AL A L as) G0 _ _ _ R _ (hL0.at_ a2 f0 i0) (q L) fun J H2 gs gr ds2 f2 i2 gh it q2 => ?_
  have hL2 := hL0.step bb f2
  have env2 := (hL2.env bb (f0.trans f2) c2.env).app gh
  rw [List.append_assoc, List.append_assoc] at env2
  have innG : ∀ (j : Nat) (q : Addr) (s : Sl), (gρ ++ gr)[j]? = some s → s.foot → (gσ ++ gs)[j]? = some (some (.ref q)) → Ob Hb q := fun j q s e1 k e2 => by
    by_cases hj : j < gρ.length
    · rw [List.getElem?_append_left hj] at e1
      rw [List.getElem?_append_left (by omega)] at e2
      obtain ⟨v, ev, hv⟩ := c2.env.at_ ((ρ.set r (.raw (.ref L))).length + j) s (by rw [List.getElem?_append_right (by omega)]; simpa using e1)
      rw [← c2.lg, List.getElem?_append_right (by omega), Nat.add_sub_cancel_left, e2] at ev
      cases ev
      exact foot_ob hv k
    · rw [List.getElem?_append_right (by omega)] at e1
      obtain ⟨_, x, _, rfl, _⟩ := gh.at_ _ _ e1
      exact k.elim
  have inn0 : ∀ (j : Nat) (q : Addr) (s : Sl), (ρ.set r (.raw (.ref L)))[j]? = some s → s.foot → (σ.set r (some (.ref L)))[j]? = some (some (.ref q)) → Ob Hb q := fun j q s e1 k e2 => by
    obtain ⟨v, ev, hv⟩ := a2.env.at_ j s e1
    rw [e2] at ev
    cases ev
    exact foot_ob hv k
  refine ⟨fun i m σ' G => m = ds2.length - i ∧ i ≤ ds2.length ∧ ∃ ρ' rows', EnvR K W (AL A L as) G (σ' ++ (gσ ++ gs)) (ρ' ++ (gρ ++ gr)) ∧ σ'.length = ρ'.length ∧ Fr W.B Hb G ∧ W.I G ∧ LF K A Hb G L as rows' ∧ (∀ (j : Nat) (q : Addr) (s : Sl), ρ'[j]? = some s → s.foot → σ'[j]? = some (some (.ref q)) → Ob Hb q) ∧ (∀ (j : Nat) (q : Addr) (s : Sl), ρ'[j]? = some s → s.isOwn → σ'[j]? = some (some (.ref q)) → ¬ Ob H0 q) ∧ ρ'[r]? = some (.raw (.ref L)) ∧ forB r fg2 fk fe2 dd R (ds2.drop i) rows' ρ',
    ⟨ds2.length, by omega, by omega, ρ.set r (.raw (.ref L)), rows0, env2, c2.lg, f0.trans f2, i2, hL2, inn0, fun j q s e1 k e2 => c2.new j q s e1 k e2, by rw [List.getElem?_set_self hr], q2⟩, ?_⟩
  rintro i m σ' G ⟨rfl, hi', ρ', rows', env, lg, fG, iG, hL, inn, new, hρ, q'⟩
  have bsG := hL.bs bb fG iG
  have env' := env
  rw [← List.append_assoc, ← List.append_assoc] at env'
  have gh' : GhR K W (AL A L as) G gs gr := env'.gh (by rw [List.length_append, List.length_append, lg, gl]) gh
  by_cases hlt : i < ds2.length
  · refine .inr ⟨it.go W _ G i bsG gh' hlt, fun σ' G => i + 1 ≤ ds2.length ∧ ∃ ρ' rows', EnvR K W (AL A L as) G (σ' ++ (gσ ++ gs)) (ρ' ++ (gρ ++ gr)) ∧ σ'.length = ρ'.length ∧ Fr W.B Hb G ∧ W.I G ∧ LF K A Hb G L as rows' ∧ (∀ (j : Nat) (q : Addr) (s : Sl), ρ'[j]? = some s → s.foot → σ'[j]? = some (some (.ref q)) → Ob Hb q) ∧ (∀ (j : Nat) (q : Addr) (s : Sl), ρ'[j]? = some s → s.isOwn → σ'[j]? = some (some (.ref q)) → ¬ Ob H0 q) ∧ ρ'[r]? = some (.raw (.ref L)) ∧ forB r fg2 fk fe2 dd R (ds2.drop (i + 1)) rows' ρ', fun σ2 H2 z => ⟨ds2.length - (i + 1), by omega, rfl, z⟩, fun x H3 y => ?_⟩
    obtain ⟨sm, rx⟩ := it.yld W _ G i x H3 ds2[i] bsG gh' (List.getElem?_eq_getElem hlt) y
    rw [List.drop_eq_getElem_cons hlt] at q'
    have f3 : Fr W.B G H3 := Fr.of sm
    have i3 := W.stay _ _ sm iG
    have hL3 := hL.step bb f3
    refine hg2.go W (AL A L as) H3 σ' ρ' (gσ ++ gs) (gρ ++ gr) x ds2[i] _ _ (env.fr (fun a z => .inl (bb.ba a z)) f3) lg rx q' fun σ4 ρ4 e4 l4 _ n4 q4 => ?_
    obtain ⟨hρ4, nb4, q4⟩ := q4
    rw [hρ] at hρ4
    have own4 : ∀ (j : Nat) (q : Addr) (s : Sl), ρ4[j]? = some s → s.foot → σ4[j]? = some (some (.ref q)) → s.isOwn ∧ ρ'[j]? = some s ∧ σ'[j]? = some (some (.ref q)) := fun j q s e1 k e2 => by
      have hb := List.all_eq_true.mp nb4 s (List.mem_of_getElem? e1)
      have ho := noB_own hb k
      exact ⟨ho, n4 j q s e1 ho e2⟩
    have inn4 : ∀ (j : Nat) (q : Addr) (s : Sl), ρ4[j]? = some s → s.foot → σ4[j]? = some (some (.ref q)) → Ob Hb q := fun j q s e1 k e2 => by
      obtain ⟨_, h1, h2⟩ := own4 j q s e1 k e2
      exact inn j q s h1 k h2
    have new4 : ∀ (j : Nat) (q : Addr) (s : Sl), ρ4[j]? = some s → s.isOwn → σ4[j]? = some (some (.ref q)) → ¬ Ob H0 q := fun j q s e1 k e2 => by
      obtain ⟨h1, h2⟩ := n4 j q s e1 k e2
      exact new j q s h1 k h2
    have innA : ∀ (j : Nat) (q : Addr) (s : Sl), (ρ4 ++ (gρ ++ gr))[j]? = some s → s.foot → (σ4 ++ (gσ ++ gs))[j]? = some (some (.ref q)) → Ob Hb q := fun j q s e1 k e2 => by
      by_cases hj : j < ρ4.length
      · rw [List.getElem?_append_left hj] at e1
        rw [List.getElem?_append_left (by omega)] at e2
        exact inn4 j q s e1 k e2
      · rw [List.getElem?_append_right (by omega)] at e1 e2
        rw [l4] at e2
        exact innG _ q s e1 k e2
    have a4 : At K W (AL A L as) E H3 σ4 ρ4 R := ⟨hL3.bs bb (fG.trans f3) i3, e4.pre l4, fun er x H2 g2 i2 z r => a2.er er x H2 ((fG.trans f3).trans g2) i2 (z.mono fun a q => .inl q) r⟩
    obtain ⟨v4, ev4, hv4⟩ := a4.env.at_ r _ hρ4
    have ev4 : σ4[r]? = some (some (.ref L)) := by
      rw [ev4, show v4 = some (.ref L) from hv4]
    refine ⟨.ref L, ev4, ?_⟩
    refine hk.go W (AL A L as) H3 σ4 ρ4 _ R _ a4 q4 fun u H5 s1 f5 i5 r5 q5 => ?_
    obtain ⟨n, row, rfl, er5, q5⟩ := q5
    have hL5 := hL3.step bb f5
    obtain ⟨a, ea, vs0, ev0, rv0⟩ := paired_at hL5.rows_ er5
    have eat : atI (as.map V.ref) (n : Int) = some (.ref a) := atI_nat (by rw [List.getElem?_map, ea]; rfl)
    have hu : u = .int (n : Int) := r5.flat (u := .int (n : Int)) rfl
    refine ⟨L, as.map V.ref, (n : Int), .ref a, rfl, hu, SqL.of hL5.eL, eat, ?_⟩
    refine he2.go W (AL A L as) H5 σ4 ρ4 _ R _ (a4.fr f5 i5) q5 fun yv H6 s2 f6 i6 r6 q6 => ?_
    obtain ⟨ys, rfl, hs, q6⟩ := q6
    obtain ⟨p2, us2, rfl, np2, e2, r2⟩ := r6
    have hL6 := hL5.step bb f6
    have ma := List.mem_of_getElem? ea
    have na : ¬ Ob Hb a := hL6.fresh a ma
    have ev6 : H6 a = some (.lst vs0) := f6.1 _ _ ev0 nt_lst (bb.nB na)
    have r2' : RpAll K (AL A L as) H6 us2 ys := r2.go (goes_less fun a z => .inl z)
    have lv := rv0.length
    have lu := r2'.length
    refine ⟨a, p2, vs0, us2, rfl, rfl, ev6, e2, by omega, ?_⟩
    have hE := hL6.ext ea ev6 er5 r2'
    have ha : n < as.length := (List.getElem?_eq_some_iff.mp ea).1
    refine ⟨L, as.map V.ref, (n : Int), n, rfl, hu, hE.eL, by rw [List.length_map]; unfold ixN; rw [if_pos (by omega), if_pos (by omega)]; simp, ?_⟩
    have es : (as.map V.ref).set n (.ref a) = as.map V.ref := by
      have hm : (as.map V.ref)[n]? = some (.ref a) := by rw [List.getElem?_map, ea]; rfl
      obtain ⟨h1, h2⟩ := List.getElem?_eq_some_iff.mp hm
      rw [← h2, List.set_getElem_self]
    rw [es, hE.self]
    have fA := ((fG.trans f3).trans f5).trans f6
    have aL : AL A L as a := .inr (.inr ma)
    refine ⟨hlt, ρ4, _, env_mut ((e4.fr (fun a z => .inl (bb.ba a z)) f5).fr (fun a z => .inl (bb.ba a z)) f6) aL (fun j q s e1 k e2 z => na (z ▸ innA j q s e1 k e2)), l4, ⟨fun c o ec t nc => ?_, fun c hc => ?_⟩, W.own H6 a _ _ i6 ev6 (.lst _) (.lst _) (bb.nB na), hE, inn4, new4, hρ4, q6⟩
    · rw [upd_ne (show c ≠ a from fun z => na ⟨o, z ▸ ec, t⟩)]
      exact fA.1 c o ec t nc
    · by_cases e : c = a
      · subst e
        exact ⟨_, upd_same, nt_lst⟩
      · obtain ⟨o, e1, t1⟩ := fA.2 c hc
        exact ⟨o, (upd_ne e).trans e1, t1⟩
  · have e : i = ds2.length := by omega
    subst e
    rw [List.drop_length] at q'
    refine .inl ⟨it.stop W _ G _ bsG gh' (Nat.le_refl _), ?_⟩
    refine er.nx G σ' _ ?_ q'
    have e0 := env'.pre (by rw [List.length_append, List.length_append, lg, gl])
    have innA : ∀ (j : Nat) (q : Addr) (s : Sl), (ρ' ++ gρ)[j]? = some s → s.foot → (σ' ++ gσ)[j]? = some (some (.ref q)) → Ob Hb q := fun j q s e1 k e2 => by
      by_cases hj : j < ρ'.length
      · rw [List.getElem?_append_left hj] at e1
        rw [List.getElem?_append_left (by omega)] at e2
        exact inn j q s e1 k e2
      · rw [List.getElem?_append_right (by omega)] at e1 e2
        rw [lg] at e2
        refine innG (j - ρ'.length) q s ?_ k ?_
        · have := (List.getElem?_eq_some_iff.mp e1).1
          rw [List.getElem?_append_left this]
          exact e1
        · have := (List.getElem?_eq_some_iff.mp e2).1
          rw [List.getElem?_append_left this]
          exact e2
    have hrl : r < ρ'.length := (List.getElem?_eq_some_iff.mp hρ).1
    have less : ∀ a, (A a ∨ a = L) → AL A L as a := fun a z => z.elim .inl fun z => .inr (.inl z)
    have low : ∀ {q : Addr}, AL A L as q → Ob Hb q → A q ∨ q = L := fun {q} z o => by
      rcases z with z | z | z
      · exact .inl z
      · exact .inr z
      · exact absurd o (hL.fresh q z)
    have f00 : Fr W0.B H0 Hb := c.wl.fr c.fr fHb
    refine ⟨W, fun a => A a ∨ a = L, c.wl, fun a z => .inl (c.a0 a z), ⟨fun a z => .inl (bb.ba a z), fun a z => bsG.dom a (less a z), iG⟩, c.wl.fr c1.fr fG, ?_, by rw [List.length_set, lg], fun j q s e1 k e2 => ?_⟩
    · rw [set_app hrl]
      have vr : (σ' ++ gσ)[r]? = some (some (.ref L)) := by
        obtain ⟨v, ev, hv⟩ := e0.at_ r _ (by rw [List.getElem?_append_left hrl]; exact hρ)
        rw [ev, show v = some (.ref L) from hv]
      refine ⟨by rw [List.length_set]; exact e0.len, fun j s ej => ?_, fun j k q t s ne g1 g0 g2 g3 g4 g5 => ?_⟩
      · rcases get_set ej with ⟨rfl, rfl, _⟩ | ⟨nj, ej⟩
        · exact ⟨_, vr, L, as.map V.ref, rfl, hL.eL, bb.nB hL.nL, .inr rfl, hL.all bb⟩
        · obtain ⟨w, ew, q⟩ := e0.at_ j s ej
          refine ⟨w, ew, ?_⟩
          cases s with
          | un => exact q
          | d x =>
            obtain ⟨u, e1, r1⟩ := q
            exact ⟨u, e1, r1.go (goes_less less)⟩
          | ml zs =>
            obtain ⟨q', ws, f1, f2, f3, f4, f5⟩ := q
            exact ⟨q', ws, f1, f2, f3, low f4 (innA j q' _ ej trivial (by rw [ew, f1])), f5.go (goes_less less)⟩
          | bl zs =>
            obtain ⟨q', ws, f1, f2, f3⟩ := q
            exact ⟨q', ws, f1, f2, f3.go (goes_less less)⟩
          | st => exact q
          | scr ns => exact q
          | raw u => exact q
          | mo o =>
            obtain ⟨q', ws, f1, f2, f3, f4, f5⟩ := q
            exact ⟨q', ws, f1, f2, f3, low f4 (innA j q' _ ej trivial (by rw [ew, f1])), f5.go (goes_less less)⟩
          | bo o =>
            obtain ⟨q', ws, f1, f2, f3, f4⟩ := q
            exact ⟨q', ws, f1, f2, f3, f4.go (goes_less less)⟩
      · rcases get_set g1 with ⟨rfl, z, _⟩ | ⟨n1, g1⟩
        · rcases get_set g2 with ⟨z2, _, _⟩ | ⟨n2, g2⟩
          · exact ne z2
          · rw [vr] at g4
            cases g4
            exact hL.nL (innA k _ s g2 g3 g5)
        · rcases get_set g2 with ⟨rfl, z, _⟩ | ⟨n2, g2⟩
          · rw [vr] at g5
            cases g5
            exact hL.nL (innA j _ t g1 (own_foot g0) g4)
          · exact e0.dis j k q t s ne g1 g0 g2 g3 g4 g5
    · rcases get_set e1 with ⟨rfl, z, _⟩ | ⟨nj, e1⟩
      · obtain ⟨v, ev, hv⟩ := (e0.pre lg).at_ r _ hρ
        rw [e2] at ev
        cases ev
        have : q = L := by
          have hv : some (V.ref q) = some (.ref L) := hv
          cases hv
          rfl
        subst this
        exact fun z => hL.nL (f00.2 _ z)
      · exact new j q s e1 k e2⟩
theorem pss_blk {X : Cx} {st1 st2 : Stmt} {rest : List Stmt} {u : TS} {r : Nat} {wi wi2 : TI} {g g2 : TG} {te tk te2 : TE} {vs : List Nat} (h1 : PS X st1 (tAsg (tLc wi g tYes te vs) (gName r))) (h2 : PS X st2 (tFor wi2 g2 (tAugS (tVar r) tk te2 (rIxL K) rExt2 rSetL))) (h3 : PSs X rest u) : PSs X (st1 :: st2 :: rest) (tSeq (tBlk K r wi g te vs wi2 g2 tk te2) u) := show PSs X (st1 :: st2 :: rest) (tSeq (tAsg (tLc wi g tYes te vs) (gName r)) (tSeq (tFor wi2 g2 (tAugS (tVar r) tk te2 (rIxL K) rExt2 rSetL)) u)) from pss_cons h1 (pss_cons h2 h3)
variable {fg : FG} {fk fe : TD} {dd : DEnds} {R : Er → Prop}
theorem lcO_map {α : Type} (f : α → PyData) (g : α → List PyData) {ρ : List Sl} {Q : List (List PyData) → Prop} : ∀ (l : List α) (acc : List (List PyData)), (∀ x ∈ l, ∀ N : Sl → Prop, N (.ml (g x)) → fg (f x) ρ fun ρ' => fe ρ' N R) → acc.length + l.length ≤ sizeLine → Q (acc ++ l.map g) → lcO fg fe ρ R Q (l.map f) acc
  | [], acc, _, _, q => by
    rw [List.map_nil, List.append_nil] at q
    exact q
  | x :: l, acc, h, hl, q => by
    rw [List.length_cons] at hl
    refine h x List.mem_cons_self _ ⟨g x, rfl, by omega, ?_⟩
    refine lcO_map f g l (acc ++ [g x]) (fun y hy => h y (List.mem_cons_of_mem _ hy)) (by rw [List.length_append, List.length_singleton]; omega) ?_
    rw [List.append_assoc]
    exact q
theorem forB_by {r : Nat} (I : Nat → List (List PyData) → List Sl → Prop) {ds : List PyData} {rows : List (List PyData)} {ρ : List Sl} (h0 : I 0 rows ρ)
    (hs : ∀ (i : Nat) (d : PyData) (rows : List (List PyData)) (ρ : List Sl) (N : List (List PyData) → List Sl → Prop), ds[i]? = some d → I i rows ρ → (∀ rows' ρ', I (i + 1) rows' ρ' → N rows' ρ') → fg d ρ fun ρ' => ρ'[r]? = ρ[r]? ∧ ρ'.all Sl.noB = true ∧ fk ρ' (fun s => ∃ (n : Nat) (row : List PyData), s = .d (.int (n : Int)) ∧ rows[n]? = some row ∧ fe ρ' (fun s2 => ∃ ys, s2 = .ml ys ∧ row.length + ys.length ≤ sizeLine ∧ N (rows.set n (row ++ ys)) ρ') R) R)
    (he : ∀ rows ρ, I ds.length rows ρ → dd.nx (ρ.set r (.ml (rows.map PyData.list)))) : forB r fg fk fe dd R ds rows ρ := by
  have key : ∀ (m i : Nat) (rows : List (List PyData)) (ρ : List Sl), m = ds.length - i → i ≤ ds.length → I i rows ρ → forB r fg fk fe dd R (ds.drop i) rows ρ := by
    intro m
    induction m with
    | zero =>
      intro i rows ρ hm hi h
      have e : i = ds.length := by omega
      subst e
      rw [List.drop_length]
      exact he rows ρ h
    | succ m ih =>
      intro i rows ρ hm hi h
      have hlt : i < ds.length := by omega
      rw [List.drop_eq_getElem_cons hlt]
      exact hs i ds[i] rows ρ (fun rows' ρ' => forB r fg fk fe dd R (ds.drop (i + 1)) rows' ρ') (List.getElem?_eq_getElem hlt) h fun rows' ρ' h' => ih (i + 1) rows' ρ' (by omega) hlt h'
  exact key ds.length 0 rows ρ (by omega) (Nat.zero_le _) h0
theorem dBlk_c {r : Nat} {fi fi2 : TDI} {fg2 : FG} {fe2 : TD} {vs : List Nat} {ρ : List Sl} : dBlk r fi fg fe vs fi2 fg2 fk fe2 dd R ρ = fi ρ (fun ds => lcO fg fe (wipeD ρ vs) R (fun rows => r < ρ.length ∧ ∀ L : Addr, fi2 (ρ.set r (.raw (.ref L))) (fun ds2 => forB r fg2 fk fe2 dd R ds2 rows (ρ.set r (.raw (.ref L)))) R) ds []) R := propext Iff.rfl
end
end Dl

namespace Dl
open PySem PySem.Spec PyProof.Rows L2
section
variable {K : PySem.W.Frag} {τ : List (Addr × Str)} {E : XK}
/-! ### a < b, of data that are alike -/
def ltOk (x y : PyData) : Prop := PySem.W.alike x y = true ∧ x ≠ .none ∧ x.canLay0 = true ∧ y.canLay0 = true ∧ x.depth ≤ 60
def rLtD (K : PySem.W.Frag) : R2 := fun x y H Q => ∃ d e, Dp K H x d ∧ Dp K H y e ∧ ltOk d e ∧ Q (.bl (PySem.W.dataLt d e)) H
theorem op_ltD {X : Cx} (hu : X.A.units + 64 < cLine) : OpR X (compareOp .Lt) (rLtD X.K) := by
  intro pins s σ H x y v u Q I rx ry h
  obtain ⟨d, e, px, py, ⟨al, nn, l1, l2, dd⟩, q⟩ := h
  obtain ⟨as, ra⟩ := Dp.reads I _ _ _ px rx
  obtain ⟨bs, rb⟩ := Dp.reads I _ _ _ py ry
  exact PySem.W.lt_data ra rb al nn (by have := Nat.min_le_left d.depth e.depth; omega) ⟨.bl (PySem.W.dataLt d e), H, I, rfl, q⟩
theorem op_ltDK {X : Cx} (h : X.K = K) (hu : X.A.units + 64 < cLine) : OpR X (compareOp .Lt) (rLtD K) := by
  subst h
  exact op_ltD hu
def fLtD : Sl → Sl → (Sl → Prop) → Prop := fun s u Qd => match s.dat, u.dat with
  | some d, some e => ltOk d e ∧ Qd (.d (.bool (PySem.W.dataLt d e)))
  | _, _ => False
instance : Ref2 K (rLtD K) fLtD := ⟨fun W A H0 H x y s u Qd Q b f i rx ry h w => by
  unfold fLtD at h
  split at h
  · rename_i d e e1 e2
    exact ⟨d, e, (rx.dat b e1).dp h.1.2.2.1, (ry.dat b e2).dp h.1.2.2.2.1, h.1, w.here i _ h.2⟩
  · exact h.elim⟩
theorem fLtD_c {d e : PyData} {Qd : Sl → Prop} : fLtD (.d d) (.d e) Qd = (ltOk d e ∧ Qd (.d (.bool (PySem.W.dataLt d e)))) := propext Iff.rfl
theorem ltOk_int (a b : Int) : ltOk (.int a) (.int b) := ⟨rfl, (fun z => nomatch z), rfl, rfl, Nat.zero_le _⟩
theorem ltOk_ii (a b c d : Int) : ltOk (.tuple [.int a, .int b]) (.tuple [.int c, .int d]) := ⟨by simp [PySem.W.alike, PySem.W.alikeAll], (fun z => nomatch z), rfl, rfl, by simp [PyData.depth, PyData.depthAll]⟩
end
end Dl

namespace Dl
open PySem PySem.Spec PyProof.Rows L2
section
variable {K : PySem.W.Frag} {τ : List (Addr × Str)} {E : XK}
/-! ### x in t, x not in t: t a tuple of data of any depth -/
def rInT (K : PySem.W.Frag) (neg : Bool) : R2 := fun x y H Q => ∃ d ds, Dp K H x d ∧ Dp K H y (.tuple ds) ∧ d.canLay0 = true ∧ PyData.canLayAll0 ds = true ∧ d.depth ≤ 60 ∧ Q (.bl (if neg then !(ds.any fun z => PyData.eqv z d) else ds.any fun z => PyData.eqv z d)) H
theorem op_inT {X : Cx} (hu : X.A.units + 64 < cLine) : OpR X (compareOp .In) (rInT X.K false) := by
  intro pins s σ H x y v u Q I rx ry h
  obtain ⟨d, ds, px, py, l1, l2, dd, q⟩ := h
  obtain ⟨as, ra⟩ := Dp.reads I _ _ _ px rx
  obtain ⟨bs, rb⟩ := Dp.reads I _ _ _ py ry
  exact PySem.SeqAt.in_tuple_reads rb ra l2 l1 (by have := Nat.min_le_right (PyData.depthAll ds) d.depth; omega) ⟨.bl (ds.any fun z => PyData.eqv z d), H, I, rfl, q⟩
theorem op_notInT {X : Cx} (hu : X.A.units + 64 < cLine) : OpR X (compareOp .NotIn) (rInT X.K true) := by
  intro pins s σ H x y v u Q I rx ry h
  obtain ⟨d, ds, px, py, l1, l2, dd, q⟩ := h
  obtain ⟨as, ra⟩ := Dp.reads I _ _ _ px rx
  obtain ⟨bs, rb⟩ := Dp.reads I _ _ _ py ry
  exact PySem.SeqAt.notIn_tuple_reads rb ra l2 l1 (by have := Nat.min_le_right (PyData.depthAll ds) d.depth; omega) ⟨.bl (!(ds.any fun z => PyData.eqv z d)), H, I, rfl, q⟩
theorem op_inTK {X : Cx} (h : X.K = K) (hu : X.A.units + 64 < cLine) : OpR X (compareOp .In) (rInT K false) := by
  subst h
  exact op_inT hu
theorem op_notInTK {X : Cx} (h : X.K = K) (hu : X.A.units + 64 < cLine) : OpR X (compareOp .NotIn) (rInT K true) := by
  subst h
  exact op_notInT hu
def fInT (neg : Bool) : Sl → Sl → (Sl → Prop) → Prop := fun s u Qd => ∃ d ds, s.dat = some d ∧ u = .d (.tuple ds) ∧ d.canLay0 = true ∧ PyData.canLayAll0 ds = true ∧ d.depth ≤ 60 ∧ Qd (.d (.bool (if neg then !(ds.any fun z => PyData.eqv z d) else ds.any fun z => PyData.eqv z d)))
instance {neg : Bool} : Ref2 K (rInT K neg) (fInT neg) := ⟨fun W A H0 H x y s u Qd Q b f i rx ry h w => by
  obtain ⟨d, ds, e1, rfl, l1, l2, dd, q⟩ := h
  have ry' : Rp K A H y (.tuple ds) := ry
  exact ⟨d, ds, (rx.dat b e1).dp l1, ry'.dp (by simpa [PyData.canLay0] using l2), l1, l2, dd, w.here i _ q⟩⟩
end
end Dl

namespace Dl
open PySem PySem.Spec PyProof.Rows L2
section
variable {K : PySem.W.Frag} {τ : List (Addr × Str)} {E : XK}
/-! ### xs[::-1] of a list -/
def tBackL (K : PySem.W.Frag) (te : TE) : TE := fun σ H Q => te σ H fun x G => ∃ a xs, x = .ref a ∧ SqL K G a xs ∧ ∀ p, G p = none → Q (.ref p) (upd G p (.lst xs.reverse))
theorem pe_backL {X : Cx} {e : Expr} {te : TE} {k : Nat} {u1 u2 u3 u4 : Pos} (he : PE X e te) : PE X (.Subscript e (.Slice none none (some (.UnaryOp .USub (.Constant (.int 1) k u1) u2)) u3) u4) (tBackL X.K te) := by
  refine ⟨fun pins s σ H Q I h => ?_⟩
  refine Subscript_ (thn (he.run pins s σ H _ I h) fun v t1 ⟨x, G1, J1, r1, g1⟩ => ?_)
  obtain ⟨a, xs, ex, hx, q⟩ := g1
  subst ex
  cases r1
  have step : PO X (some (.UnaryOp .USub (.Constant (.int 1) k u1) u2)) (tPart (tUn (rU fun i => .int (-i)) (tC (.int 1)))) := po_some (pe_un un_neg pe_int)
  refine wpAny_Slice (thn (po_none.run pins t1 σ G1 (fun o G => o = none ∧ G = G1) J1 ⟨rfl, rfl⟩) fun vl t2 ⟨l, G2, J2, pl, el, e2⟩ => ?_)
  subst el e2
  refine thn (po_none.run pins t2 σ G2 (fun o G => o = none ∧ G = G2) J2 ⟨rfl, rfl⟩) fun vu t3 ⟨u, G3, J3, pu, eu, e3⟩ => ?_
  subst eu e3
  refine thn (step.run pins t3 σ G3 (fun o G => o = some (-1) ∧ G = G3) J3 ⟨1, rfl, -1, rfl, rfl, rfl⟩) fun vs t4 ⟨o, G4, J4, ps, eo, e4⟩ => ?_
  subst eo e4
  have J5 : Inv X pins σ G4 { t4 with heap := t4.heap.push { cls := .type "slice", data := .fields #[vl, vu, vs] } } := J4.kept (t' := t4.toks) fun b ob z => Heap.get?_push_of_some _ z
  obtain ⟨its, r, hL, hz⟩ := J5.list hx
  have hlen := r.length
  show wpAny (model X.prog X.w) X.A (subscriptTail e (.Slice none none (some (.UnaryOp .USub (.Constant (.int 1) k u1) u2)) u3) (.ref a) (.ref t4.heap.objs.size)) (EP X pins σ Q) X.xe _
  refine tail_any (ops := [.ref a, .ref t4.heap.objs.size]) hL.isList.typeIs slot_list_getitem.lookup ?_ (by with_unfolding_all rfl)
  refine wpAny_getItem_list_slice hL.isList (Heap.IsSliceOf.new _ _ _ _) pl pu ps (by decide) ?_ (by rw [List.size_toArray]; omega)
  rw [PySem.W.krv_pick]
  refine ⟨.ref _, _, J5.laid (t' := t4.toks) (o := .lst xs.reverse) (fun b ob z => Heap.get?_push_of_some _ z) (Nat.le_refl _) ?_, rfl, q _ (J5.hok.fresh (Nat.le_refl _))⟩
  exact ⟨by rw [List.length_reverse]; exact hz, its.reverse, 0, r.reverse, Heap.get?_push_size _ rfl⟩
theorem pe_backLK {X : Cx} {e : Expr} {te : TE} {k : Nat} {u1 u2 u3 u4 : Pos} (h : X.K = K) (he : PE X e te) : PE X (.Subscript e (.Slice none none (some (.UnaryOp .USub (.Constant (.int 1) k u1) u2)) u3) u4) (tBackL K te) := h ▸ pe_backL he
def dBackL (f : TD) : TD := fun ρ Qd R => f ρ (fun s => ∃ xs, s.seq = some xs ∧ Qd (.ml xs.reverse)) R
instance {t : TE} {f : TD} [ht : RefE K τ E t f] : RefE K τ E (tBackL K t) (dBackL f) := ⟨fun W A H σ ρ Qd R Q a h w => by
  refine ht.go W A H σ ρ _ R _ a h fun v H1 s f1 i1 r1 q => ?_
  obtain ⟨xs, e, q⟩ := q
  obtain ⟨p, us, rfl, sq, ra⟩ := r1.seq a.bs e
  exact ⟨p, us, rfl, sqLA_sq sq, Want.lst (a.bs.fr f1 i1) (w.back f1) ra.reverse q⟩⟩
theorem dBackL_k {f : TD} {ρ : List Sl} {Qd : Sl → Prop} {R : Er → Prop} : dBackL f ρ Qd R = f ρ (fun s => ∃ xs, s.seq = some xs ∧ Qd (.ml xs.reverse)) R := propext Iff.rfl
end
end Dl

namespace Dl
open PySem PySem.Spec PyProof.Rows L2
/-! ### a list of one's own of lists of one's own: the inner lists are slots behind the slots -/
section
variable {K : PySem.W.Frag} {τ : List (Addr × Str)} {E : XK}
def hL (H0 : Hp) (L : Addr) (as : List Addr) : Hp := upd H0 L (.lst (as.map V.ref))
def aL (A0 : Addr → Prop) (L : Addr) : Addr → Prop := fun a => A0 a ∨ a = L
def gS (as : List Addr) : L2.St := as.map fun a => some (V.ref a)
def gD (rows : List (List PyData)) : List Sl := rows.map Sl.ml
/-- what stays -/
structure NB (W0 : Wld τ) (A0 : Addr → Prop) (H0 : Hp) (L : Addr) (as : List Addr) (gσ : L2.St) (gρ : List Sl) : Prop where
  b0 : Bs W0 A0 H0
  nL : ¬ Ob H0 L
  fresh : ∀ a ∈ as, ¬ Ob H0 a
  nin : L ∉ as
  bs : Bs W0 (aL A0 L) (hL H0 L as)
  gl : gσ.length = gρ.length
  hG : ∀ (j : Nat) (q : Addr) (s : Sl), gρ[j]? = some s → s.foot → gσ[j]? = some (some (.ref q)) → q ≠ L
variable {W0 W : Wld τ} {A0 A : Addr → Prop} {H0 H : Hp} {L : Addr} {as : List Addr} {rows : List (List PyData)} {σ gσ : L2.St} {ρ gρ : List Sl} {R : Er → Prop} {r : Nat}
theorem NB.eL (_ : NB W0 A0 H0 L as gσ gρ) : hL H0 L as L = some (.lst (as.map V.ref)) := upd_same
theorem NB.obL (n : NB W0 A0 H0 L as gσ gρ) : Ob (hL H0 L as) L := ⟨_, n.eL, nt_lst⟩
theorem NB.up (n : NB W0 A0 H0 L as gσ gρ) {a : Addr} (h : Ob H0 a) : Ob (hL H0 L as) a := by
  obtain ⟨o, e, t⟩ := h
  exact ⟨o, (upd_ne (show a ≠ L from fun z => n.nL (z ▸ ⟨o, e, t⟩))).trans e, t⟩
theorem NB.dn (n : NB W0 A0 H0 L as gσ gρ) {a : Addr} (h : Ob (hL H0 L as) a) : Ob H0 a ∨ a = L := by
  obtain ⟨o, e, t⟩ := h
  by_cases z : a = L
  · exact .inr z
  · exact .inl ⟨o, (upd_ne z).symm.trans e, t⟩
theorem NB.nBL (n : NB W0 A0 H0 L as gσ gρ) : ¬ W0.B L := n.b0.nB n.nL
theorem NB.fr (n : NB W0 A0 H0 L as gσ gρ) {G : Hp} (f : Fr W0.B (hL H0 L as) G) : Fr W0.B H0 G := ⟨fun c o e t nb => f.1 c o ((upd_ne (show c ≠ L from fun z => n.nL (z ▸ ⟨o, e, t⟩))).trans e) t nb, fun c h => f.2 c (n.up h)⟩
theorem NB.at_L (n : NB W0 A0 H0 L as gσ gρ) {G : Hp} (f : Fr W0.B (hL H0 L as) G) : G L = some (.lst (as.map V.ref)) := f.1 _ _ n.eL nt_lst n.nBL
theorem NB.ek (n : NB W0 A0 H0 L as gσ gρ) (ek : ErK K W0 A0 E H0 R) : ErK K W0 (aL A0 L) E (hL H0 L as) R := fun er x H' f i z q => ek er x H' (n.fr f) i (z.mono fun a h => .inl h) q
abbrev NC (K : PySem.W.Frag) (W0 : Wld τ) (A0 : Addr → Prop) (H0 : Hp) (L : Addr) (as : List Addr) (W : Wld τ) (A : Addr → Prop) (H : Hp) (σ : L2.St) (ρ : List Sl) (gσ : L2.St) (gρ : List Sl) (rows : List (List PyData)) : Prop := Cor K W0 (aL A0 L) (hL H0 L as) W A H σ ρ (gσ ++ gS as) (gρ ++ gD rows)
abbrev NR (K : PySem.W.Frag) (W0 : Wld τ) (A0 : Addr → Prop) (H0 : Hp) (L : Addr) (as : List Addr) (H : Hp) (σ : L2.St) (ρ : List Sl) (gσ : L2.St) (gρ : List Sl) (rows : List (List PyData)) : Prop := SR K W0 (aL A0 L) (hL H0 L as) H σ ρ (gσ ++ gS as) (gρ ++ gD rows)
/-- the ghost of the row k -/
theorem NC.ghost (gl : gσ.length = gρ.length) (c : NC K W0 A0 H0 L as W A H σ ρ gσ gρ rows) {k : Nat} {row : List PyData} (e : rows[k]? = some row) : ∃ a vs, as[k]? = some a ∧ (ρ ++ (gρ ++ gD rows))[ρ.length + gρ.length + k]? = some (.ml row) ∧ (σ ++ (gσ ++ gS as))[ρ.length + gρ.length + k]? = some (some (.ref a)) ∧ H a = some (.lst vs) ∧ ¬ W.B a ∧ A a ∧ RpAll K A H vs row := by
  have e1 : (ρ ++ (gρ ++ gD rows))[ρ.length + gρ.length + k]? = some (.ml row) := by
    rw [List.getElem?_append_right (by omega), List.getElem?_append_right (by omega), show ρ.length + gρ.length + k - ρ.length - gρ.length = k from by omega]
    show (rows.map Sl.ml)[k]? = _
    rw [List.getElem?_map, e]
    rfl
  obtain ⟨v, ev, p, vs, rfl, h1, h2, h3, h4⟩ := c.env.at_ _ _ e1
  have ev' := ev
  rw [← c.lg, List.getElem?_append_right (by omega), List.getElem?_append_right (by omega), show σ.length + gρ.length + k - σ.length - gσ.length = k from by omega] at ev'
  have ev' : (as.map fun a => some (V.ref a))[k]? = some (some (.ref p)) := ev'
  rw [List.getElem?_map] at ev'
  obtain ⟨a, ea, z⟩ := Option.map_eq_some_iff.mp ev'
  cases z
  exact ⟨p, vs, ea, e1, ev, h1, h2, h3, h4⟩
theorem NC.lens (gl : gσ.length = gρ.length) (c : NC K W0 A0 H0 L as W A H σ ρ gσ gρ rows) : as.length = rows.length := by
  have := c.env.len
  simp only [gS, gD, List.length_append, List.length_map] at this
  have := c.lg
  omega
/-- no slot is one of the inner lists -/
theorem NC.far (gl : gσ.length = gρ.length) (c : NC K W0 A0 H0 L as W A H σ ρ gσ gρ rows) {j : Nat} {q : Addr} {s : Sl} (e1 : (ρ ++ gρ)[j]? = some s) (k : s.foot) (e2 : (σ ++ gσ)[j]? = some (some (.ref q))) : q ∉ as := fun hq => by
  obtain ⟨k', hk⟩ := List.getElem?_of_mem hq
  have hl := (List.getElem?_eq_some_iff.mp hk).1
  rw [NC.lens gl c] at hl
  obtain ⟨a, vs, ea, g1, g2, _⟩ := NC.ghost gl c (List.getElem?_eq_getElem hl)
  rw [hk] at ea
  cases ea
  have hj := (List.getElem?_eq_some_iff.mp e1).1
  have hj2 := (List.getElem?_eq_some_iff.mp e2).1
  rw [List.length_append] at hj hj2
  refine c.env.dis _ j q _ _ (by omega) g1 trivial ?_ k g2 ?_
  · rw [← List.append_assoc, List.getElem?_append_left (by rw [List.length_append]; omega)]
    exact e1
  · rw [← List.append_assoc, List.getElem?_append_left (by rw [List.length_append]; omega)]
    exact e2
theorem NC.out (gl : gσ.length = gρ.length) (n : NB W0 A0 H0 L as gσ gρ) (c : NC K W0 A0 H0 L as W A H σ ρ gσ gρ rows) : (∀ a ∈ as, A a ∧ ¬ W.B a) ∧ ¬ W.B L ∧ A L := by
  refine ⟨fun a ha => ?_, fun z => ?_, c.a0 _ (.inr rfl)⟩
  · obtain ⟨k, hk⟩ := List.getElem?_of_mem ha
    have hl := (List.getElem?_eq_some_iff.mp hk).1
    rw [NC.lens gl c] at hl
    obtain ⟨a', vs, ea, _, _, _, h1, h2, _⟩ := NC.ghost gl c (List.getElem?_eq_getElem hl)
    rw [hk] at ea
    cases ea
    exact ⟨h2, h1⟩
  · rcases c.wl.dn _ z with z | z
    · exact n.nBL z
    · exact z n.obL
/-- own and read slots are not L -/
theorem NC.notL (n : NB W0 A0 H0 L as gσ gρ) (c : NC K W0 A0 H0 L as W A H σ ρ gσ gρ rows) {j : Nat} {q : Addr} {s : Sl} (e1 : ρ[j]? = some s) (k : s.isOwn) (e2 : σ[j]? = some (some (.ref q))) : q ≠ L := fun z => c.new j q s e1 k e2 (z ▸ n.obL)
theorem NC.rows_ (gl : gσ.length = gρ.length) (c : NC K W0 A0 H0 L as W A H σ ρ gσ gρ rows) {A' : Addr → Prop} (m : ∀ a, A' a → A a) (no : ∀ a ∈ as, ¬ A' a) : RpAll K A' H (as.map V.ref) (rows.map PyData.list) := by
  have key : ∀ (k : Nat), k ≤ rows.length → RpAll K A' H ((as.drop k).map V.ref) ((rows.drop k).map PyData.list) := by
    intro k
    generalize hm : rows.length - k = m'
    induction m' generalizing k with
    | zero =>
      intro hk
      rw [List.drop_eq_nil_of_le (by rw [NC.lens gl c]; omega), List.drop_eq_nil_of_le (by omega)]
      exact .nil
    | succ m' ih =>
      intro hk
      have hl : k < rows.length := by omega
      obtain ⟨a, vs, ea, _, _, h1, h2, h3, h4⟩ := NC.ghost gl c (List.getElem?_eq_getElem hl)
      obtain ⟨hla, ea'⟩ := List.getElem?_eq_some_iff.mp ea
      rw [List.drop_eq_getElem_cons hla, List.drop_eq_getElem_cons hl, ea']
      exact .cons (.lst ⟨h1, no a (List.mem_of_getElem? ea)⟩ (h4.go (goes_less m))) (ih (k + 1) (by omega) (by omega))
  exact key 0 (Nat.zero_le _)
/-- the slots with the list of lists read, or one's own again -/
theorem NC.envR (n : NB W0 A0 H0 L as gσ gρ) (c : NC K W0 A0 H0 L as W A H σ ρ gσ gρ rows) (hr : ρ[r]? = some (.raw (.ref L))) {A' : Addr → Prop} (m : ∀ a, A' a → A a) (low : ∀ a, A a → a ∉ as → a ≠ L → A' a) {s0 : Sl} (h0 : SlR K W A' H (some (.ref L)) s0) (k0 : s0.foot)
    (hg : s0.isOwn → ρ.all Sl.noB = true) : EnvR K W A' H (σ ++ gσ) (ρ.set r s0 ++ gρ) := by
  have gl := n.gl
  have lg := c.lg
  have hrl := (List.getElem?_eq_some_iff.mp hr).1
  have e0 : EnvR K W A H (σ ++ gσ) (ρ ++ gρ) := by
    have := c.env
    rw [← List.append_assoc, ← List.append_assoc] at this
    exact this.pre (by rw [List.length_append, List.length_append, c.lg, gl])
  have own_ : ∀ (j : Nat) (q : Addr) (s : Sl), (ρ ++ gρ)[j]? = some s → s.isOwn → (σ ++ gσ)[j]? = some (some (.ref q)) → q ≠ L := fun j q s e1 k e2 => by
    by_cases hj : j < ρ.length
    · rw [List.getElem?_append_left hj] at e1
      rw [List.getElem?_append_left (by rw [c.lg]; exact hj)] at e2
      exact NC.notL n c e1 k e2
    · rw [List.getElem?_append_right (by omega)] at e1 e2
      rw [c.lg] at e2
      exact n.hG _ q s e1 (own_foot k) e2
  have all_ : s0.isOwn → ∀ (j : Nat) (q : Addr) (s : Sl), (ρ ++ gρ)[j]? = some s → s.foot → (σ ++ gσ)[j]? = some (some (.ref q)) → q ≠ L := fun ko j q s e1 k e2 => by
    by_cases hj : j < ρ.length
    · have e1' := e1
      rw [List.getElem?_append_left hj] at e1
      have hb := List.all_eq_true.mp (hg ko) s (List.mem_of_getElem? e1)
      exact own_ j q s e1' (noB_own hb k) e2
    · rw [List.getElem?_append_right (by omega)] at e1 e2
      rw [c.lg] at e2
      exact n.hG _ q s e1 k e2
  rw [set_app hrl]
  have vr : (σ ++ gσ)[r]? = some (some (.ref L)) := by
    obtain ⟨v, ev, hv⟩ := e0.at_ r _ (by rw [List.getElem?_append_left hrl]; exact hr)
    rw [ev, show v = some (.ref L) from hv]
  refine ⟨by rw [List.length_set]; exact e0.len, fun j s ej => ?_, fun j k q t s ne g1 g0 g2 g3 g4 g5 => ?_⟩
  · rcases get_set ej with ⟨rfl, rfl, _⟩ | ⟨nj, ej⟩
    · exact ⟨_, vr, h0⟩
    · obtain ⟨w, ew, q⟩ := e0.at_ j s ej
      refine ⟨w, ew, ?_⟩
      cases s with
      | un => exact q
      | d x =>
        obtain ⟨u, e1, r1⟩ := q
        exact ⟨u, e1, r1.go (goes_less m)⟩
      | ml zs =>
        obtain ⟨q', ws, f1, f2, f3, f4, f5⟩ := q
        exact ⟨q', ws, f1, f2, f3, low _ f4 (NC.far gl c ej trivial (by rw [ew, f1])) (own_ j q' _ ej trivial (by rw [ew, f1])), f5.go (goes_less m)⟩
      | bl zs =>
        obtain ⟨q', ws, f1, f2, f3⟩ := q
        exact ⟨q', ws, f1, f2, f3.go (goes_less m)⟩
      | st => exact q
      | scr ns => exact q
      | raw u => exact q
      | mo o =>
        obtain ⟨q', ws, f1, f2, f3, f4, f5⟩ := q
        exact ⟨q', ws, f1, f2, f3, low _ f4 (NC.far gl c ej trivial (by rw [ew, f1])) (own_ j q' _ ej trivial (by rw [ew, f1])), f5.go (goes_less m)⟩
      | bo o =>
        obtain ⟨q', ws, f1, f2, f3, f4⟩ := q
        exact ⟨q', ws, f1, f2, f3, f4.go (goes_less m)⟩
  · rcases get_set g1 with ⟨rfl, z, _⟩ | ⟨n1, g1⟩
    · rcases get_set g2 with ⟨z2, _, _⟩ | ⟨n2, g2⟩
      · exact ne z2
      · rw [vr] at g4
        cases g4
        rw [z] at g0
        exact all_ g0 k L s g2 g3 g5 rfl
    · rcases get_set g2 with ⟨rfl, z, _⟩ | ⟨n2, g2⟩
      · rw [vr] at g5
        cases g5
        exact own_ j L t g1 g0 g4 rfl
      · exact e0.dis j k q t s ne g1 g0 g2 g3 g4 g5
/-- a test may read it -/
theorem NC.view (n : NB W0 A0 H0 L as gσ gρ) (c : NC K W0 A0 H0 L as W A H σ ρ gσ gρ rows) (hr : ρ[r]? = some (.raw (.ref L))) (ek : ErK K W0 A0 E H0 R) : At K W (fun a => A a ∧ a ∉ as ∧ a ≠ L) E H σ (ρ.set r (.bl (rows.map PyData.list))) R := by
  have gl := n.gl
  obtain ⟨o1, o2, o3⟩ := NC.out gl n c
  have h0 : SlR K W (fun a => A a ∧ a ∉ as ∧ a ≠ L) H (some (.ref L)) (.bl (rows.map PyData.list)) := ⟨L, as.map V.ref, rfl, ⟨n.at_L c.fr, o2⟩, NC.rows_ gl c (fun a z => z.1) fun a ha z => z.2.1 ha⟩
  refine ⟨⟨fun a z => ⟨c.bs.ba a z, fun h => (o1 a h).2 z, fun e => o2 (e ▸ z)⟩, fun a z => c.bs.dom a z.1, c.bs.inv⟩, ?_, fun er x H' f i z q => ?_⟩
  · have := NC.envR (A' := fun a => A a ∧ a ∉ as ∧ a ≠ L) n c hr (fun a z => z.1) (fun a h1 h2 h3 => ⟨h1, h2, h3⟩) h0 trivial fun z => z.elim
    exact this.pre (by rw [List.length_set, c.lg])
  · refine ek er x H' (n.fr (c.wl.fr c.fr f)) (c.wl.inv _ i) (z.mono fun a h => ⟨c.a0 _ (.inl h), fun q => n.fresh a q (n.b0.dom a h), fun e => n.nL (e ▸ n.b0.dom a h)⟩) q
/-- behind it all it is a list of one's own, of data -/
theorem NC.done (n : NB W0 A0 H0 L as gσ gρ) (c : NC K W0 A0 H0 L as W A H σ ρ gσ gρ rows) (hr : ρ[r]? = some (.raw (.ref L))) (hb : ρ.all Sl.noB = true) : SR K W0 A0 H0 H σ (ρ.set r (.ml (rows.map PyData.list))) gσ gρ := by
  have gl := n.gl
  have hrl := (List.getElem?_eq_some_iff.mp hr).1
  obtain ⟨o1, o2, o3⟩ := NC.out gl n c
  have h0 : SlR K W (fun a => A a ∧ a ∉ as) H (some (.ref L)) (.ml (rows.map PyData.list)) := ⟨L, as.map V.ref, rfl, n.at_L c.fr, o2, ⟨o3, n.nin⟩, NC.rows_ gl c (fun a z => z.1) fun a ha z => z.2 ha⟩
  have e1 := NC.envR (A' := fun a => A a ∧ a ∉ as) n c hr (fun a z => z.1) (fun a h1 h2 _ => ⟨h1, h2⟩) h0 trivial fun _ => hb
  refine ⟨W, fun a => A a ∧ a ∉ as, ⟨c.wl.up, fun a z => ?_, c.wl.inv⟩, fun a z => ⟨c.a0 a (.inl z), fun h => n.fresh a h (n.b0.dom a z)⟩, ⟨fun a z => ⟨c.bs.ba a z, fun h => (o1 a h).2 z⟩, fun a z => c.bs.dom a z.1, c.bs.inv⟩, n.fr c.fr, e1, by rw [List.length_set, c.lg], fun j q s g1 k g2 => ?_⟩
  · rcases c.wl.dn a z with z | z
    · exact .inl z
    · exact .inr fun h => z (n.up h)
  · rcases get_set g1 with ⟨rfl, z, _⟩ | ⟨nj, g1⟩
    · have e0 := c.env.pre c.lg
      obtain ⟨v, ev, hv⟩ := e0.at_ _ _ hr
      rw [g2] at ev
      cases ev
      have hv : some (V.ref q) = some (.ref L) := hv
      cases hv
      exact n.nL
    · exact fun z => c.new j q s g1 k g2 (n.up z)
/-! ### statements -/
abbrev TDN := (List (List PyData) → List Sl → Prop) → (Er → Prop) → List (List PyData) → List Sl → Prop
class RefN (K : PySem.W.Frag) (τ : List (Addr × Str)) (E : XK) (r : Nat) (t : TS) (g : outParam TDN) : Prop where
  go : ∀ (W0 : Wld τ) (A0 : Addr → Prop) (H0 : Hp) (L : Addr) (as : List Addr) (D : Ends) (N : List (List PyData) → List Sl → Prop) (R : Er → Prop) (H : Hp) (σ : L2.St) (ρ : List Sl) (gσ : L2.St) (gρ : List Sl) (rows : List (List PyData)), NB W0 A0 H0 L as gσ gρ → NR K W0 A0 H0 L as H σ ρ gσ gρ rows → ρ[r]? = some (.raw (.ref L)) →
    (∀ H σ ρ rows, NR K W0 A0 H0 L as H σ ρ gσ gρ rows → ρ[r]? = some (.raw (.ref L)) → N rows ρ → D.nx σ H) → ErK K W0 A0 E H0 R → g N R rows ρ → t D σ H
/-- a statement that says nothing of it -/
def nOf (r : Nat) (g : TDS) : TDN := fun N R rows ρ => g { nx := fun ρ' => ρ'[r]? = ρ[r]? ∧ N rows ρ', rt := fun _ => False } R ρ
instance (priority := low) {t : TS} {g : TDS} [ht : RefS K τ E t g] : RefN K τ E r t (nOf r g) := ⟨fun W0 A0 H0 L as D N R H σ ρ gσ gρ rows n c hr w ek h =>
  ht.go W0 (aL A0 L) (hL H0 L as) D { nx := fun ρ' => ρ'[r]? = ρ[r]? ∧ N rows ρ', rt := fun _ => False } R H σ ρ (gσ ++ gS as) (gρ ++ gD rows) n.bs c ⟨fun H1 σ1 ρ1 s1 q => w H1 σ1 ρ1 rows s1 (q.1.trans hr) q.2, fun _ _ _ _ _ _ q => q.elim, fun _ _ _ _ q => q.elim, fun _ _ _ _ q => q.elim⟩ (n.ek ek) h⟩
def nSeq (g h : TDN) : TDN := fun N R rows ρ => g (fun rows' ρ' => h N R rows' ρ') R rows ρ
instance {t u : TS} {g h : TDN} [ht : RefN K τ E r t g] [hu : RefN K τ E r u h] : RefN K τ E r (tSeq t u) (nSeq g h) := ⟨fun W0 A0 H0 L as D N R H σ ρ gσ gρ rows n c hr w ek q =>
  ht.go W0 A0 H0 L as { D with nx := u D } _ R H σ ρ gσ gρ rows n c hr (fun H1 σ1 ρ1 rows1 c1 hr1 q1 => hu.go W0 A0 H0 L as D N R H1 σ1 ρ1 gσ gρ rows1 n c1 hr1 w ek q1) ek q⟩
def nNext : TDN := fun N _ rows ρ => N rows ρ
instance : RefN K τ E r tNext nNext := ⟨fun W0 A0 H0 L as D N R H σ ρ gσ gρ rows n c hr w ek q => w H σ ρ rows c hr q⟩
def nIf (r : Nat) (fc : TDT) (g h : TDN) : TDN := fun N R rows ρ => fc (ρ.set r (.bl (rows.map PyData.list))) (fun b => match b with
  | true => g N R rows ρ
  | false => h N R rows ρ) R
instance {c : TT} {t u : TS} {fc : TDT} {g h : TDN} [hc : RefT K τ E c fc] [ht : RefN K τ E r t g] [hu : RefN K τ E r u h] : RefN K τ E r (tIfS c t u) (nIf r fc g h) := ⟨fun W0 A0 H0 L as D N R H σ ρ gσ gρ rows n c hr w ek q => by
  obtain ⟨W, A, c⟩ := c
  refine hc.go W _ H σ _ _ R _ (NC.view n c hr ek) q fun b H1 f1 i1 q1 => ?_
  have c1 : NR K W0 A0 H0 L as H1 σ ρ gσ gρ rows := ⟨W, A, c.step f1 i1⟩
  cases b with
  | true => exact iteT (ht.go W0 A0 H0 L as D N R H1 σ ρ gσ gρ rows n c1 hr w ek q1)
  | false => exact iteF (hu.go W0 A0 H0 L as D N R H1 σ ρ gσ gρ rows n c1 hr w ek q1)⟩
def nWhile (r : Nat) (fc : TDT) (g : TDN) : TDN := fun N R rows ρ => ∃ I : Nat → List (List PyData) → List Sl → Prop, (∃ m, I m rows ρ) ∧ ∀ m rows ρ, I m rows ρ → fc (ρ.set r (.bl (rows.map PyData.list))) (fun b => match b with
  | true => g (fun rows' ρ' => ∃ m', m' < m ∧ I m' rows' ρ') R rows ρ
  | false => N rows ρ) R
instance {c : TT} {t : TS} {fc : TDT} {g : TDN} [hc : RefT K τ E c fc] [ht : RefN K τ E r t g] : RefN K τ E r (tWhile c t) (nWhile r fc g) := ⟨fun W0 A0 H0 L as D N R H σ ρ gσ gρ rows n c hr w ek h => by
  obtain ⟨I, ⟨m, im⟩, h⟩ := h
  refine ⟨fun m σ H => ∃ ρ rows, NR K W0 A0 H0 L as H σ ρ gσ gρ rows ∧ ρ[r]? = some (.raw (.ref L)) ∧ I m rows ρ, ⟨m, ρ, rows, c, hr, im⟩, fun m σ H ⟨ρ, rows, c, hr, im⟩ => ?_⟩
  obtain ⟨W, A, c⟩ := c
  refine hc.go W _ H σ _ _ R _ (NC.view n c hr ek) (h m rows ρ im) fun k H1 f1 i1 q => ?_
  have c1 : NR K W0 A0 H0 L as H1 σ ρ gσ gρ rows := ⟨W, A, c.step f1 i1⟩
  cases k with
  | true =>
    refine iteT ⟨fun σ' H' => ∃ ρ' rows', NR K W0 A0 H0 L as H' σ' ρ' gσ gρ rows' ∧ ρ'[r]? = some (.raw (.ref L)) ∧ ∃ m', m' < m ∧ I m' rows' ρ', fun σ' H' ⟨ρ', rows', c', hr', m', l, z⟩ => ⟨m', l, ρ', rows', c', hr', z⟩, ?_⟩
    exact ht.go W0 A0 H0 L as _ (fun rows' ρ' => ∃ m', m' < m ∧ I m' rows' ρ') R H1 σ ρ gσ gρ rows n c1 hr (fun H2 σ2 ρ2 rows2 c2 hr2 z => ⟨ρ2, rows2, c2, hr2, z⟩) ek q
  | false => exact iteF (w H1 σ ρ rows c1 hr q)⟩
end
end Dl

namespace Dl
open PySem PySem.Spec PyProof.Rows L2
section
variable {K : PySem.W.Frag} {τ : List (Addr × Str)} {E : XK}
variable {W0 W : Wld τ} {A0 A : Addr → Prop} {H0 H : Hp} {L : Addr} {as : List Addr} {rows : List (List PyData)} {σ gσ : L2.St} {ρ gρ : List Sl} {R : Er → Prop} {r : Nat}
/-- a slot behind the slots grows -/
theorem Cor.mutG (c : Cor K W0 A0 H0 W A H σ ρ gσ gρ) {i : Nat} {p : Addr} {xs ys : List PyData} {us : List V} (hi : ρ.length ≤ i) (eA : (ρ ++ gρ)[i]? = some (.ml xs)) (eS : (σ ++ gσ)[i]? = some (some (.ref p))) (n0 : ¬ Ob H0 p) (r : RpAll K A H us ys) :
    Cor K W0 A0 H0 W A (upd H p (.lst us)) σ ρ gσ (gρ.set (i - ρ.length) (.ml ys)) := by
  obtain ⟨v, ev', p', vs, e1, e2, nB, aP, _⟩ := c.env.at_ _ _ eA
  rw [eS] at ev'
  cases ev'
  cases e1
  have g : Goes A A H (upd H p (.lst us)) := fun b o eb _ nb => ⟨(upd_ne fun (z : b = p) => nb (by rw [z]; exact aP)).trans eb, nb⟩
  have es : ρ ++ gρ.set (i - ρ.length) (.ml ys) = (ρ ++ gρ).set i (.ml ys) := by
    rw [List.set_append_right _ _ hi]
  refine ⟨c.wl, c.a0, ⟨c.bs.ba, fun a z => ?_, W.own H p _ _ c.bs.inv e2 (.lst _) (.lst _) nB⟩, ⟨fun b o eb t nb => ?_, fun b hb => ?_⟩, ?_, c.lg, c.new⟩
  · by_cases h : a = p
    · subst h
      exact ⟨_, upd_same, nt_lst⟩
    · obtain ⟨o, e1, t1⟩ := c.bs.dom a z
      exact ⟨o, (upd_ne h).trans e1, t1⟩
  · rw [upd_ne (ne_nob eb t n0)]
    exact c.fr.1 b o eb t nb
  · by_cases h : b = p
    · subst h
      exact ⟨_, upd_same, nt_lst⟩
    · obtain ⟨o, e1, t1⟩ := c.fr.2 b hb
      exact ⟨o, (upd_ne h).trans e1, t1⟩
  · rw [es]
    refine ⟨by rw [List.length_set]; exact c.env.len, fun j s ej => ?_, fun j k q t s ne f1 f0 f2 f3 f4 f5 => ?_⟩
    · rcases get_set ej with ⟨rfl, rfl, _⟩ | ⟨nj, ej⟩
      · exact ⟨_, eS, p, us, rfl, upd_same, nB, aP, r.go g⟩
      · obtain ⟨w, ew, q⟩ := c.env.at_ j s ej
        refine ⟨w, ew, ?_⟩
        have far : s.foot → ∀ q' : Addr, w = some (.ref q') → q' ≠ p := fun hf q' e1 z => by
          subst z
          subst e1
          exact c.env.dis i j q' _ _ nj eA trivial ej hf eS ew
        cases s with
        | un => exact q
        | d x =>
          obtain ⟨u, e1, r1⟩ := q
          exact ⟨u, e1, r1.go g⟩
        | ml zs =>
          obtain ⟨q', ws, f1, f2, f3, f4, f5⟩ := q
          exact ⟨q', ws, f1, (upd_ne (far trivial q' f1)).trans f2, f3, f4, f5.go g⟩
        | bl zs =>
          obtain ⟨q', ws, f1, f2, f3⟩ := q
          exact ⟨q', ws, f1, ⟨(upd_ne (far trivial q' f1)).trans f2.1, f2.2⟩, f3.go g⟩
        | st => exact q
        | scr ns => exact q
        | raw u => exact q
        | mo o =>
          obtain ⟨q', ws, f1, f2, f3, f4, f5⟩ := q
          exact ⟨q', ws, f1, (upd_ne (far trivial q' f1)).trans f2, f3, f4, f5.go g⟩
        | bo o =>
          obtain ⟨q', ws, f1, f2, f3, f4⟩ := q
          exact ⟨q', ws, f1, (upd_ne (far trivial q' f1)).trans f2, f3, f4.go g⟩
    · rcases get_set f1 with ⟨rfl, z, _⟩ | ⟨n1, f1⟩
      · rcases get_set f2 with ⟨z2, _, _⟩ | ⟨n2, f2⟩
        · exact ne z2
        · exact c.env.dis i k q _ s ne eA trivial f2 f3 f4 f5
      · rcases get_set f2 with ⟨rfl, z, _⟩ | ⟨n2, f2⟩
        · exact c.env.dis j i q t _ ne f1 f0 eA trivial f4 f5
        · exact c.env.dis j k q t s ne f1 f0 f2 f3 f4 f5
/-- xs[k].append(e) -/
def nApp (fk fe : TD) : TDN := fun N R rows ρ => fk ρ (fun s => ∃ (n : Nat) (row : List PyData), s = .d (.int (n : Int)) ∧ rows[n]? = some row ∧ fe ρ (fun s2 => row.length < sizeLine ∧ ∃ y, s2.dat = some y ∧ N (rows.set n (row ++ [y])) ρ) R) R
instance {tk te : TE} {fk fe : TD} [hk : RefE K τ E tk fk] [he : RefE K τ E te fe] : RefN K τ E r (tDrop (tBM K "list" rAppend (tOp (rIx K) (tVar r) tk) (tCons te tNil))) (nApp fk fe) := ⟨fun W0 A0 H0 L as D N R H σ ρ gσ gρ rows n c hr w ek h => by
  obtain ⟨W, A, c⟩ := c
  have ek' := n.ek ek
  obtain ⟨v, ev, hv⟩ := (c.env.pre c.lg).at_ _ _ hr
  have ev : σ[r]? = some (some (.ref L)) := by
    rw [ev, show v = some (.ref L) from hv]
  refine ⟨.ref L, ev, ?_⟩
  refine hk.go W A H σ ρ _ R _ (c.at_ ek') h fun u H1 s f1 i1 r1 q1 => ?_
  obtain ⟨m, row, rfl, er, q1⟩ := q1
  have c1 := c.step f1 i1
  have eL := n.at_L c1.fr
  obtain ⟨a, vs, ea, g1, g2, e1, _, _, rv⟩ := NC.ghost n.gl c1 er
  have eat : atI (as.map V.ref) (m : Int) = some (.ref a) := atI_nat (by rw [List.getElem?_map, ea]; rfl)
  have hu : u = .int (m : Int) := r1.flat (u := .int (m : Int)) rfl
  refine .inl ⟨L, as.map V.ref, (m : Int), .ref a, rfl, hu, SqL.of eL, eat, .inl ⟨rfl, _, SqL.of e1⟩, ?_⟩
  refine he.go W A H1 σ ρ _ R _ (c1.at_ ek') q1 fun x H2 s2 f2 i2 r2 q2 => ?_
  obtain ⟨hs, y, ey, q2⟩ := q2
  have c2 := c1.step f2 i2
  have rv2 := rv.go (goes_fr c1.bs.ba f2)
  have e2 := (NC.ghost n.gl c2 er)
  obtain ⟨a', vs', ea', g1', g2', e2, _, _, rv'⟩ := e2
  rw [ea] at ea'
  cases ea'
  have na : ¬ Ob (hL H0 L as) a := fun z => by
    rcases n.dn z with z | z
    · exact n.fresh a (List.mem_of_getElem? ea) z
    · exact n.nin (z ▸ List.mem_of_getElem? ea)
  refine ⟨a, vs', x, rfl, rfl, e2, by rw [rv'.length]; exact hs, ?_⟩
  refine w _ σ ρ (rows.set m (row ++ [y])) ⟨W, A, ?_⟩ hr q2
  have := c2.mutG (by omega) g1' g2' na (rv'.append (.one (r2.dat c1.bs ey)))
  rw [show ρ.length + gρ.length + m - ρ.length = gρ.length + m from by omega, List.set_append_right _ _ (by omega), show gρ.length + m - gρ.length = m from by omega, show (gD rows).set m (.ml (row ++ [y])) = gD (rows.set m (row ++ [y])) from (List.map_set).symm] at this
  exact this⟩
/-! ### the block: xs, ys = [a new list for ..], [..], then a statement -/
theorem NC.first {Hb G : Hp} (b : Bs W0 A0 H0) (gl : gσ.length = gρ.length) (c : Cor K W0 A0 H0 W A Hb σ ρ gσ gρ) (f : Fr W.B Hb G) (i : W.I G) (h : LF K A Hb G L as rows) : NB W0 A0 H0 L as gσ gρ ∧ NC K W0 A0 H0 L as W (AL A L as) G σ ρ gσ gρ rows := by
  have up : ∀ a, Ob H0 a → Ob Hb a := c.fr.2
  have nL : ¬ Ob H0 L := fun z => h.nL (up L z)
  have fG : Fr W0.B H0 G := c.wl.fr c.fr f
  have neL : ∀ a, A a → a ≠ L := fun a z e => c.bs.nA h.nL (e ▸ z)
  have tb : LamX.Tabs τ (hL H0 L as) := fun p hp => by
    obtain ⟨ps, h1, h2, h3⟩ := W0.tab _ b.inv p hp
    obtain ⟨ps', h1', _, _⟩ := W.tab _ i p hp
    have np : p.1 ≠ L := fun z => by
      rw [z, h.eL] at h1'
      cases h1'
    refine ⟨ps, (upd_ne np).trans h1, h2, fun pos cv hc => ?_⟩
    obtain ⟨cc, e1, e2⟩ := h3 pos cv hc
    exact ⟨cc, e1, (upd_ne (show cc ≠ L from fun z => nL (z ▸ ⟨_, e2, fun _ q => nomatch q⟩))).trans e2⟩
  have inL : W0.I (hL H0 L as) := W0.tbI _ _ b.inv (fun c o e t => (upd_ne (show c ≠ L from fun z => nL (z ▸ ⟨o, e, t⟩))).trans e) tb
  have hG : ∀ (j : Nat) (q : Addr) (s : Sl), gρ[j]? = some s → s.foot → gσ[j]? = some (some (.ref q)) → Ob Hb q := fun j q s e1 k e2 => by
    obtain ⟨v, ev, hv⟩ := c.env.at_ (ρ.length + j) s (by rw [List.getElem?_append_right (by omega), Nat.add_sub_cancel_left]; exact e1)
    rw [← c.lg, List.getElem?_append_right (by omega), Nat.add_sub_cancel_left, e2] at ev
    cases ev
    exact foot_ob hv k
  have n : NB W0 A0 H0 L as gσ gρ := ⟨b, nL, fun a ha z => h.fresh a ha (up a z), h.nin, ⟨fun a z => .inl (b.ba a z), fun a z => by
    rcases z with z | z
    · obtain ⟨o, e, t⟩ := b.dom a z
      exact ⟨o, (upd_ne (show a ≠ L from fun z => nL (z ▸ ⟨o, e, t⟩))).trans e, t⟩
    · subst z
      exact ⟨_, upd_same, nt_lst⟩, inL⟩, gl, fun j q s e1 k e2 z => h.nL (z ▸ hG j q s e1 k e2)⟩
  have obs : ∀ (j : Nat) (q : Addr) (s : Sl), (ρ ++ gρ)[j]? = some s → s.foot → (σ ++ gσ)[j]? = some (some (.ref q)) → Ob Hb q := fun j q s e1 k e2 => by
    obtain ⟨v, ev, hv⟩ := c.env.at_ j s e1
    rw [e2] at ev
    cases ev
    exact foot_ob hv k
  have hl := paired_len h.rows_
  have env1 := h.env c.bs f c.env
  have lN : (σ ++ gσ).length = (ρ ++ gρ).length := c.env.len
  refine ⟨n, ⟨fun a z => c.wl.up a z, fun a z => ?_, c.wl.inv⟩, fun a z => z.elim (fun z => .inl (c.a0 a z)) fun z => .inr (.inl z), h.bs c.bs f i, ⟨fun x o e t nb => ?_, fun x hx => ?_⟩, ?_, c.lg, fun j q s e1 k e2 z => ?_⟩
  · rcases c.wl.dn a z with z' | z'
    · exact .inl z'
    · refine .inr fun q => ?_
      rcases n.dn q with q | q
      · exact z' q
      · exact neL a (c.bs.ba a z) q
  · by_cases z : x = L
    · subst z
      rw [n.eL] at e
      cases e
      exact h.eL
    · exact fG.1 x o ((upd_ne z).symm.trans e) t nb
  · rcases n.dn hx with q | q
    · exact fG.2 x q
    · subst q
      exact ⟨_, h.eL, nt_lst⟩
  · rw [← List.append_assoc, ← List.append_assoc]
    have key : ∀ (k : Nat) (s : Sl), (gD rows)[k]? = some s → ∃ a vs row, as[k]? = some a ∧ s = .ml row ∧ (gS as)[k]? = some (some (.ref a)) ∧ G a = some (.lst vs) ∧ RpAll K (AL A L as) G vs row := fun k s e => by
      have e : (rows.map Sl.ml)[k]? = some s := e
      rw [List.getElem?_map] at e
      obtain ⟨row, er, rfl⟩ := Option.map_eq_some_iff.mp e
      obtain ⟨a, ea, vs, ev, rv⟩ := paired_at h.rows_ er
      exact ⟨a, vs, row, ea, rfl, by show (as.map _)[k]? = _; rw [List.getElem?_map, ea]; rfl, ev, rv⟩
    refine ⟨by simp only [List.length_append, gS, gD, List.length_map] at lN ⊢; omega, fun j s ej => ?_, fun j k q t s ne g1 g0 g2 g3 g4 g5 => ?_⟩
    · by_cases hj : j < (ρ ++ gρ).length
      · rw [List.getElem?_append_left hj] at ej
        rw [List.getElem?_append_left (by omega)]
        exact env1.at_ j s ej
      · rw [List.getElem?_append_right (by omega)] at ej
        rw [List.getElem?_append_right (by omega), lN]
        obtain ⟨a, vs, row, ea, rfl, e2, e3, rv⟩ := key _ _ ej
        have ma := List.mem_of_getElem? ea
        exact ⟨_, e2, a, vs, rfl, e3, c.bs.nB (h.fresh a ma), .inr (.inr ma), rv⟩
    · by_cases hj : j < (ρ ++ gρ).length
      · rw [List.getElem?_append_left hj] at g1
        rw [List.getElem?_append_left (by omega)] at g4
        by_cases hk : k < (ρ ++ gρ).length
        · rw [List.getElem?_append_left hk] at g2
          rw [List.getElem?_append_left (by omega)] at g5
          exact env1.dis j k q t s ne g1 g0 g2 g3 g4 g5
        · rw [List.getElem?_append_right (by omega)] at g2 g5
          rw [lN] at g5
          obtain ⟨a, vs, row, ea, rfl, e2, e3, rv⟩ := key _ _ g2
          rw [e2] at g5
          cases g5
          exact h.fresh _ (List.mem_of_getElem? ea) (obs j _ t g1 (own_foot g0) g4)
      · rw [List.getElem?_append_right (by omega)] at g1 g4
        rw [lN] at g4
        obtain ⟨a, vs, row, ea, rfl, e2, e3, rv⟩ := key _ _ g1
        rw [e2] at g4
        cases g4
        by_cases hk : k < (ρ ++ gρ).length
        · rw [List.getElem?_append_left hk] at g2
          rw [List.getElem?_append_left (by omega)] at g5
          exact h.fresh _ (List.mem_of_getElem? ea) (obs k _ s g2 g3 g5)
        · rw [List.getElem?_append_right (by omega)] at g2 g5
          rw [lN] at g5
          obtain ⟨a', vs', row', ea', rfl, e2', e3', rv'⟩ := key _ _ g2
          rw [e2'] at g5
          cases g5
          have hja := (List.getElem?_eq_some_iff.mp ea).1
          have := (List.getElem?_inj hja h.nd).mp (ea.trans ea'.symm)
          omega
  · rcases n.dn z with z' | z'
    · exact c.new j q s e1 k e2 z'
    · exact h.nL (z' ▸ obs j q s (by rw [List.getElem?_append_left (List.getElem?_eq_some_iff.mp e1).1]; exact e1) (own_foot k) (by rw [List.getElem?_append_left (List.getElem?_eq_some_iff.mp e2).1]; exact e2))
def tNst (r j : Nat) (wi : TI) (g : TG) (te : TE) (vs : List Nat) (t2 : TE) (w : TS) : TS := tSeq (tPar r j (tCons (tLc wi g tYes te vs) (tCons t2 tNil))) w
def dNst (r j : Nat) (fi : TDI) (fg : FG) (fe : TD) (vs : List Nat) (f2 : TD) (gw : TDN) : TDS := fun dd R ρ => fi ρ (fun ds => lcO fg fe (wipeD ρ vs) R (fun rows => f2 ρ (fun s => ∃ ys, s = .ml ys ∧ r < ρ.length ∧ r ≠ j ∧ ∀ L : Addr, gw (fun rows' ρ' => ρ'.all Sl.noB = true ∧ dd.nx (ρ'.set r (.ml (rows'.map PyData.list)))) R rows ((ρ.set r (.raw (.ref L))).set j (.ml ys))) R) ds []) R
instance {r j : Nat} {wi : TI} {g : TG} {te t2 : TE} {vs sl : List Nat} {w : TS} {fi : TDI} {fg : FG} {fe f2 : TD} {gw : TDN} [hi : RefJ K τ E wi fi] [hg : RefG K g fg sl] [he : RefE K τ E te fe] [inc : Inc sl vs] [h2 : RefE K τ E t2 f2] [hw : RefN K τ E r w gw] : RefS K τ E (tNst r j wi g te vs t2 w) (dNst r j fi fg fe vs f2 gw) := ⟨fun W0 A0 H0 D dd R H σ ρ gσ gρ b sr er ek h => by
  obtain ⟨W, A, c⟩ := sr
  have gl : gσ.length = gρ.length := by
    have := c.env.len
    simp only [List.length_append] at this
    have := c.lg
    omega
  unfold tNst tSeq
  show tPar r j _ _ σ H
  unfold tPar tCons tNil
  refine lc_own hi hg he inc (c.at_ ek) h fun Hb G L as rows fHb iHb f0 i0 hL0 q => ?_
  have c1 := c.step fHb iHb
  obtain ⟨n, cG⟩ := NC.first b gl c1 f0 i0 hL0
  refine h2.go W (AL A L as) G σ ρ _ R _ (cG.at_ (n.ek ek)) q fun v H2 s f2 i2 r2 q2 => ?_
  obtain ⟨ys, rfl, hr, hrj, q2⟩ := q2
  obtain ⟨p, us, rfl, np, e1, rr⟩ := r2
  refine ⟨.ref L, .ref p, rfl, ?_⟩
  have c2 := cG.set (i := r) (v := .ref L) (s := .raw (.ref L)) trivial rfl
  have c3 := c2.own (i := j) (s := .ml ys) f2 i2 np ⟨p, us, rfl, e1, cG.bs.nB np, .inr rfl, rr⟩ trivial
  refine hw.go W0 A0 H0 L as _ _ R H2 _ _ gσ gρ rows n ⟨W, _, c3⟩ (by rw [List.getElem?_set_ne (Ne.symm hrj), List.getElem?_set_self hr]) (fun H3 σ3 ρ3 rows3 s3 hr3 q3 => ?_) ek (q2 L)
  obtain ⟨W3, A3, s3⟩ := s3
  exact er.nx H3 σ3 _ (NC.done n s3 hr3 q3.1) q3.2⟩
theorem dNst_c {r j : Nat} {fi : TDI} {fg : FG} {fe f2 : TD} {vs : List Nat} {gw : TDN} {dd : DEnds} {ρ : List Sl} : dNst r j fi fg fe vs f2 gw dd R ρ = fi ρ (fun ds => lcO fg fe (wipeD ρ vs) R (fun rows => f2 ρ (fun s => ∃ ys, s = .ml ys ∧ r < ρ.length ∧ r ≠ j ∧ ∀ L : Addr, gw (fun rows' ρ' => ρ'.all Sl.noB = true ∧ dd.nx (ρ'.set r (.ml (rows'.map PyData.list)))) R rows ((ρ.set r (.raw (.ref L))).set j (.ml ys))) R) ds []) R := propext Iff.rfl
theorem pss_nst {X : Cx} {st1 st2 : Stmt} {rest : List Stmt} {u : TS} {r j : Nat} {wi : TI} {g : TG} {te t2 : TE} {vs : List Nat} {w : TS} (h1 : PS X st1 (tPar r j (tCons (tLc wi g tYes te vs) (tCons t2 tNil)))) (h2 : PS X st2 w) (h3 : PSs X rest u) : PSs X (st1 :: st2 :: rest) (tSeq (tNst r j wi g te vs t2 w) u) := show PSs X (st1 :: st2 :: rest) (tSeq (tSeq (tPar r j (tCons (tLc wi g tYes te vs) (tCons t2 tNil))) w) u) from ⟨fun pins s σ H D I h => (pss_cons h1 (pss_cons h2 h3)).run pins s σ H D I h⟩
end
end Dl

namespace Dl
open PySem PySem.Spec PyProof.Rows L2
section
variable {K : PySem.W.Frag} {τ : List (Addr × Str)} {E : XK}
/-! ### xs.remove(x), of data, where it is there -/
def rRemD (K : PySem.W.Frag) : V → List V → Hp → VK → Prop := fun x xs H Q => ∃ (l : Addr) (vs : List V) (y : V) (d : PyData) (ds : List PyData) (j : Nat), x = .ref l ∧ xs = [y] ∧ H l = some (.lst vs) ∧ DpAll K H vs ds ∧ Dp K H y d ∧ d.canLay0 = true ∧ PyData.canLayAll0 ds = true ∧ d.depth ≤ 60 ∧
  ds.findIdx? (fun z => PyData.eqv z d) = some j ∧ Q .non (upd H l (.lst (vs.eraseIdx j)))
theorem plain_all : ∀ {ds : List PyData}, PyData.canLayAll0 ds = true → PyData.plainAll ds = true
  | [], _ => by rw [PyData.plainAll]
  | d :: ds, h => by
    rw [PyData.canLayAll0, Bool.and_eq_true] at h
    rw [PyData.plainAll, PyData.plain_of_canLay0 d h.1, plain_all h.2]
    rfl
theorem mt_remD {X : Cx} (hu : X.A.units + 64 < cLine) : MtM X "list.remove" (rRemD X.K) := by
  intro pins s σ H x xs v us Q I rx rxs h
  obtain ⟨l, vs, y, d, ds, j, rfl, rfl, hH, pa, py, l1, l2, dd, ej, q⟩ := h
  cases rx
  obtain ⟨u, rfl, ru⟩ := rxs.one
  obtain ⟨z, its, n, r, hl, e⟩ := I.lstM hH
  obtain ⟨as, ra⟩ := Dp.readsAll I _ _ _ pa r
  obtain ⟨bs, rb⟩ := Dp.reads I _ _ _ py ru
  refine PySem.SeqAt.remove_list_data (j := j) (vs := its.toArray) (xs := ds) ⟨_, e, rfl, n, rfl⟩ (by simpa using ra) rb (plain_all l2) (PyData.plain_of_canLay0 d l1) (by have := Nat.min_le_right (PyData.depthAll ds) d.depth; omega) ej (by rw [List.size_toArray]; omega) ?_
  have rr := r.eraseIdx j
  refine ⟨.non, _, I.lset (its' := its.eraseIdx j) (t' := s.toks) hH e ?_ rr ?_, rfl, q⟩
  · show its.toArray.eraseIdxIfInBounds j = (its.eraseIdx j).toArray
    rw [List.eraseIdxIfInBounds_toArray]
  · have := List.length_eraseIdx_le vs j
    omega
theorem mt_remDK {X : Cx} (h : X.K = K) (hu : X.A.units + 64 < cLine) : MtM X "list.remove" (rRemD K) := by
  subst h
  exact mt_remD hu
theorem rpAll_erase {A : Addr → Prop} {H : Hp} : ∀ {vs : List V} {ds : List PyData} (j : Nat), RpAll K A H vs ds → RpAll K A H (vs.eraseIdx j) (ds.eraseIdx j)
  | _, _, _, .nil => .nil
  | _, _, 0, .cons _ r => r
  | _, _, j + 1, .cons h r => .cons h (rpAll_erase j r)
def dRem (i : Nat) (fe : TD) : TDS := fun dd R ρ => match (ρ[i]?).getD .un with
  | .ml xs => fe ρ (fun s => ∃ d, s.dat = some d ∧ d.canLay0 = true ∧ PyData.canLayAll0 xs = true ∧ d.depth ≤ 60 ∧ (xs.any fun z => PyData.eqv z d) = true ∧ dd.nx (ρ.set i (.ml (xs.eraseP fun z => PyData.eqv z d)))) R
  | _ => False
instance {i : Nat} {t : TE} {f : TD} [ht : RefE K τ E t f] : RefS K τ E (tDrop (tBM K "list" (rRemD K) (tVar i) (tCons t tNil))) (dRem i f) := ⟨fun W A0 H0 D dd R H σ ρ gσ gρ b sr er ek h => by
  obtain ⟨W', A, c⟩ := sr
  obtain ⟨xs, e, q⟩ := own_iff (P := fun xs => f ρ (fun s => ∃ d, s.dat = some d ∧ d.canLay0 = true ∧ PyData.canLayAll0 xs = true ∧ d.depth ≤ 60 ∧ (xs.any fun z => PyData.eqv z d) = true ∧ dd.nx (ρ.set i (.ml (xs.eraseP fun z => PyData.eqv z d)))) R) h
  obtain ⟨p, vs, ev, ep, nB, r0⟩ := c.own_at e
  refine ⟨.ref p, ev, .inl ⟨rfl, _, SqL.of ep⟩, ?_⟩
  refine ht.go W' A H σ ρ _ R _ (c.at_ ek) q fun v H1 s f1 i1 r1 q1 => ?_
  obtain ⟨d, ed, l1, l2, dd', hany, q2⟩ := q1
  have c1 := c.step f1 i1
  have r1' := r0.go (goes_fr c.bs.ba f1)
  rw [List.eraseP_eq_eraseIdx] at q2
  cases ef : xs.findIdx? (fun z => PyData.eqv z d) with
  | none =>
    obtain ⟨z, hz, hzd⟩ := List.any_eq_true.mp hany
    have := List.findIdx?_eq_none_iff.mp ef z hz
    rw [hzd] at this
    cases this
  | some j =>
    rw [ef] at q2
    refine ⟨p, vs, v, d, xs, j, rfl, rfl, f1.1 _ _ ep nt_lst nB, r1'.dp l2, (r1.dat c.bs ed).dp l1, l1, l2, dd', ef, ?_⟩
    exact er.nx _ _ _ ⟨W', A, c1.mut e ev (rpAll_erase j r1')⟩ q2⟩
theorem dRem_c {i : Nat} {fe : TD} {dd : DEnds} {R : Er → Prop} {ρ : List Sl} : dRem i fe dd R ρ = (match (ρ[i]?).getD .un with
  | .ml xs => fe ρ (fun s => ∃ d, s.dat = some d ∧ d.canLay0 = true ∧ PyData.canLayAll0 xs = true ∧ d.depth ≤ 60 ∧ (xs.any fun z => PyData.eqv z d) = true ∧ dd.nx (ρ.set i (.ml (xs.eraseP fun z => PyData.eqv z d)))) R
  | _ => False) := propext Iff.rfl
variable {r : Nat} {fc : TDT} {g h : TDN} {N : List (List PyData) → List Sl → Prop} {R : Er → Prop} {rows : List (List PyData)} {ρ : List Sl}
theorem nSeq_c : nSeq g h N R rows ρ = g (fun rows' ρ' => h N R rows' ρ') R rows ρ := propext Iff.rfl
def iteN (g h : TDN) (N : List (List PyData) → List Sl → Prop) (R : Er → Prop) (rows : List (List PyData)) (ρ : List Sl) : Bool → Prop := fun b => match b with
  | true => g N R rows ρ
  | false => h N R rows ρ
theorem nIf_c : nIf r fc g h N R rows ρ = fc (ρ.set r (.bl (rows.map PyData.list))) (iteN g h N R rows ρ) R := propext Iff.rfl
theorem iteN_t : iteN g h N R rows ρ true = g N R rows ρ := propext Iff.rfl
theorem iteN_f : iteN g h N R rows ρ false = h N R rows ρ := propext Iff.rfl
def whN (g : TDN) (N : List (List PyData) → List Sl → Prop) (I : Nat → List (List PyData) → List Sl → Prop) (m : Nat) (R : Er → Prop) (rows : List (List PyData)) (ρ : List Sl) : Bool → Prop := fun b => match b with
  | true => g (fun rows' ρ' => ∃ m', m' < m ∧ I m' rows' ρ') R rows ρ
  | false => N rows ρ
theorem nWhile_c : nWhile r fc g N R rows ρ = ∃ I : Nat → List (List PyData) → List Sl → Prop, (∃ m, I m rows ρ) ∧ ∀ m rows ρ, I m rows ρ → fc (ρ.set r (.bl (rows.map PyData.list))) (whN g N I m R rows ρ) R := propext Iff.rfl
theorem whN_t {I : Nat → List (List PyData) → List Sl → Prop} {m : Nat} : whN g N I m R rows ρ true = g (fun rows' ρ' => ∃ m', m' < m ∧ I m' rows' ρ') R rows ρ := propext Iff.rfl
theorem whN_f {I : Nat → List (List PyData) → List Sl → Prop} {m : Nat} : whN g N I m R rows ρ false = N rows ρ := propext Iff.rfl
theorem nApp_c {fk fe : TD} : nApp fk fe N R rows ρ = fk ρ (fun s => ∃ (n : Nat) (row : List PyData), s = .d (.int (n : Int)) ∧ rows[n]? = some row ∧ fe ρ (fun s2 => row.length < sizeLine ∧ ∃ y, s2.dat = some y ∧ N (rows.set n (row ++ [y])) ρ) R) R := propext Iff.rfl
theorem nOf_c {g : TDS} : nOf r g N R rows ρ = g { nx := fun ρ' => ρ'[r]? = ρ[r]? ∧ N rows ρ', rt := fun _ => False } R ρ := propext Iff.rfl
theorem nNext_c : nNext N R rows ρ = N rows ρ := propext Iff.rfl
end
end Dl

namespace Wy
open PySem PySem.Spec PyProof.Rows L2
/-- the law's call from its body at the caller's own surroundings; the script is tracked -/
theorem end_call0 {P : Program} {w : World} {K : PySem.W.Frag} {mg mb : Str → Option Value} {fa a : Addr} {st : Shared} {vs : List Value} {ns : List Int}
    (inK : K.In st.heap) (gl : st.heap.Ns mainGlobals mg) (bl : st.heap.Ns builtinsNs mb) (blt : ∀ x : Str, x ≠ "__name__" → mb x = bootBuiltins x) (lim : st.heap.NoLimit) (gen : st.gens = #[])
    (ha : st.heap.get? a = some { cls := .type "list", data := .seq vs.toArray }) (hi : IntsAre vs ns) (hl : ns.length ≤ sizeLine)
    (F : ∀ (base : Heap) (H : Hp), SqL K H a (ns.map V.int) → Env0 P w K mg base callerA [] st H →
      codeAny (model P w) callerA (.call (.ref fa) ⟨[.ref a], []⟩) (CR CX0 [] P w H st (fun v _ => v = .bl true) E0) st) :
    codeAny (model P w) callerA (.call (.ref fa) ⟨[.ref a], []⟩) (fun r t => r = .ok (.ret (.bool true)) ∧ OldK st.heap t.heap ∧ t.os = st.os ∧ AllBare t.gens) st := by
  have vals := vals_ints hi
  have nvs := hi.length
  obtain ⟨so, hso⟩ : ∃ so : Obj, so = { cls := .type "list", data := .seq vs.toArray } := ⟨_, rfl⟩
  rw [← hso] at ha
  obtain ⟨H, hH⟩ : ∃ H : Hp, H = fun b => if b = a ∧ K.lookup a = none then some (.frz so (.lst (ns.map V.int))) else none := ⟨_, rfl⟩
  have cases2 : ∀ b u, H b = some u → (b = a ∧ K.lookup a = none ∧ u = .frz so (.lst (ns.map V.int))) := fun b u e => by
    rw [hH] at e
    by_cases h2 : b = a ∧ K.lookup a = none
    · exact ⟨h2.1, h2.2, (Option.some.inj ((if_pos h2).symm.trans e)).symm⟩
    · exact nomatch (if_neg h2).symm.trans e
  have lsOk : ObjOk P w H st.heap a (.lst (ns.map V.int)) := by
    exact ⟨by rw [List.length_map]; exact hl, vs, _, vals, (hso ▸ ha : st.heap.get? a = some { cls := .type "list", data := .seq vs.toArray })⟩
  have hok : HOk P w H st.heap := fun b u e => by
    obtain ⟨rfl, _, rfl⟩ := cases2 b u e
    exact ⟨ha, lsOk⟩
  have apart : ∀ {b : Addr} {o : Obj}, st.heap.get? b = some o → (∀ x n, o.data ≠ .seq x n) → H b = none := fun {b o} e n1 => by
    cases q : H b with
    | none => rfl
    | some u =>
      obtain ⟨rfl, _, _⟩ := cases2 b u q
      rw [ha, hso] at e
      cases e
      exact absurd rfl (n1 _ _)
  have nsB : ∀ {b : Addr} {m : Str → Option Value}, st.heap.Ns b m → (hidT st.heap H).Ns b m := fun {b m} ⟨o, es, ep, e, d, r⟩ =>
    ⟨o, es, ep, hidT_get e (apart e (fun x n z => nomatch d.symm.trans z)), d, r⟩
  have inB : K.In (hidT st.heap H) := fun b o e => hidT_get (inK b o e) (by
    cases q : H b with
    | none => rfl
    | some u =>
      obtain ⟨rfl, n, _⟩ := cases2 b u q
      exact nomatch n.symm.trans e)
  have md : L2.Mod K mg (hidT st.heap H) := ⟨inB, nsB gl, ⟨mb, nsB bl, blt⟩, let ⟨mc, q1, q2⟩ := lim; ⟨mc, nsB q1, q2⟩⟩
  have sq : SqL K H a (ns.map V.int) := by
    cases q : K.lookup a with
    | some o =>
      have e := (inK a o q).symm.trans ha
      rw [hso] at e
      cases e
      exact .inr ⟨_, vs.toArray, _, q, rfl, rfl, rfl, by rw [List.size_toArray, nvs]; exact hl, by simpa using vals⟩
    | none =>
      refine .inl (.inr ⟨so, ?_⟩)
      rw [hH]
      exact if_pos ⟨rfl, q⟩
  have env : Env0 P w K mg (hidT st.heap H) callerA [] st H := ⟨rfl, md, fun b o e => of_hidT e, Nat.le_of_eq (hidT_size _ _), trivial, (fun b z => nomatch (show b ∈ ([] : List Addr) from z)), hok, .of_eq gen⟩
  refine codeAny_mono (F _ H sq env) fun r t h => ?_
  cases r with
  | error e => exact (show False from h).elim
  | ok fl =>
    cases fl with
    | next => exact (show False from h).elim
    | brk => exact (show False from h).elim
    | cont => exact (show False from h).elim
    | ret u =>
      obtain ⟨v, G, os, bare, un, okG, rv, q⟩ := h
      obtain rfl : v = .bl true := q
      obtain rfl : u = Value.bool true := rv
      have stays : ∀ b o, st.heap.get? b = some o → t.heap.get? b = some o := fun b o e => by
        cases q : H b with
        | none => exact un.keep b o e q (fun z => nomatch (show b ∈ ([] : List Addr) from z)) (by simp)
        | some u =>
          obtain ⟨rfl, _, rfl⟩ := cases2 b u q
          obtain ⟨e2, _⟩ := okG b _ (un.frzs b so _ q)
          rw [ha] at e
          cases e
          exact e2
      exact ⟨rfl, ⟨fun b o e => .inl (stays b o e), fun b o e => ⟨o, stays b o e⟩⟩, os, bare⟩
/-- what the law's def does from its place in the written part -/
def Runs0 (P : Program) (w : World) (K : PySem.W.Frag) (mg : Str → Option Value) (fa : Addr) : Prop := ∀ (base : Heap) (H : Hp) (s : Shared) (a : Addr) (ns : List Int), ns.length ≤ 63 → SqL K H a (ns.map V.int) → Env0 P w K mg base callerA [] s H →
  codeAny (model P w) callerA (.call (.ref fa) ⟨[.ref a], []⟩) (CR CX0 [] P w H s (fun v _ => v = .bl true) E0) s
theorem walk_end0 {l : PySem.W.OpenLaw} {q : Program} {loose : List Str} {XP : (Str → Option Value) → Heap → Prop} {YP : World → Heap → Prop} {d : DefRec} {K : Params → PySem.W.Frag}
    (most : l.most = some 63) (dflt : d.params.defaults = []) (inK : ∀ (w : World) (h : Heap), YP w h → (K w.params).In h)
    (F : ∀ (w : World) (mg : Str → Option Value) (fa : Addr) (h : Heap), (K w.params).In h → h.Ns mainGlobals mg → mg d.name = some (.ref fa) → Runs0 l.prog w (K w.params) mg fa) :
    PySem.W.WalkO q loose XP YP l.row.toRowW d [] (fun f vs => PySem.call f vs) := by
  refine Att.attach_call most dflt fun w s0 st mg mb fa o pm cd doc a vs ns G Y ho hd hcd hmg hobj hints hlen hg => ?_
  have KX := inK w _ Y
  have run := F w mg fa _ KX G.T.g hmg
  exact end_call0 KX G.T.g G.T.b G.T.builtins G.T.nolimit hg hobj hints (Nat.le_trans hlen (by decide)) fun base H sq env => run base H st a ns hlen sq env
end Wy

namespace Wy
open PySem Dl
/-! ### how many walks -/
def S {α : Type} (l : List α) (f : α → Int) : Int := (l.map f).sum
theorem S_nil {α : Type} (f : α → Int) : S [] f = 0 := rfl
theorem S_cons {α : Type} (x : α) (l : List α) (f : α → Int) : S (x :: l) f = f x + S l f := by
  unfold S
  rw [List.map_cons, List.sum_cons]
theorem S_congr {α : Type} {l : List α} {f g : α → Int} (h : ∀ x ∈ l, f x = g x) : S l f = S l g := by
  unfold S
  rw [List.map_congr_left h]
theorem S_add {α : Type} (l : List α) (f g : α → Int) : S l (fun x => f x + g x) = S l f + S l g := by
  induction l with
  | nil => rfl
  | cons x l ih =>
    rw [S_cons, S_cons, S_cons, ih]
    omega
theorem S_zero {α : Type} (l : List α) : S l (fun _ => 0) = 0 := by
  induction l with
  | nil => rfl
  | cons x l ih =>
    rw [S_cons, ih]
    rfl
theorem S_swap {α β : Type} (l : List α) (m : List β) (f : α → β → Int) : S l (fun x => S m (f x)) = S m (fun y => S l fun x => f x y) := by
  induction l with
  | nil =>
    show (0 : Int) = S m fun _ => 0
    rw [S_zero]
  | cons x l ih =>
    rw [S_cons, ih, ← S_add]
    exact S_congr fun y _ => by rw [S_cons]
theorem S_append {α : Type} (l m : List α) (f : α → Int) : S (l ++ m) f = S l f + S m f := by
  induction l with
  | nil =>
    rw [List.nil_append, S_nil]
    omega
  | cons x l ih =>
    rw [List.cons_append, S_cons, S_cons, ih]
    omega
theorem S_reverse {α : Type} (l : List α) (f : α → Int) : S l.reverse f = S l f := by
  induction l with
  | nil => rfl
  | cons x l ih =>
    rw [List.reverse_cons, S_append, ih, S_cons, S_cons, S_nil]
    omega
theorem S_map {α β : Type} (l : List α) (h : α → β) (f : β → Int) : S (l.map h) f = S l fun x => f (h x) := by
  unfold S
  rw [List.map_map]
  rfl
theorem S_ite {α : Type} (l : List α) (P : Prop) [Decidable P] (x : Int) (f : α → Int) : (if P then x + S l f else 0) = (if P then x else 0) + S l (fun r => if P then f r else 0) := by
  by_cases h : P
  · simp only [if_pos h]
  · simp only [if_neg h]
    rw [S_zero]
    rfl
/-- this road goes on from a place, with so much left -/
def On (q : Road) (a : Int) (c : Nat) : Prop := q.one = a ∧ 1 ≤ q.cost ∧ q.cost ≤ (c : Int)
instance (q : Road) (a : Int) (c : Nat) : Decidable (On q a c) := inferInstanceAs (Decidable (_ ∧ _ ∧ _))
theorem On.lt {q : Road} {a : Int} {c : Nat} (h : On q a c) : c - q.cost.toNat < c := by
  obtain ⟨_, h1, h2⟩ := h
  omega
def cnt (rs : List Road) (g : Int) (c : Nat) (a : Int) : Int :=
  (if c = 0 ∧ a = g then 1 else 0) + S rs fun q => if h : On q a c then cnt rs g (c - q.cost.toNat) q.other else 0
termination_by c
decreasing_by exact h.lt
theorem cnt_eq (rs : List Road) (g : Int) (c : Nat) (a : Int) : cnt rs g c a = (if c = 0 ∧ a = g then 1 else 0) + S rs fun q => if On q a c then cnt rs g (c - q.cost.toNat) q.other else 0 := by
  rw [cnt]
  rfl

theorem S_nonneg {α : Type} {l : List α} {f : α → Int} (h : ∀ x ∈ l, 0 ≤ f x) : 0 ≤ S l f := by
  induction l with
  | nil => exact Int.le_refl 0
  | cons x l ih =>
    rw [S_cons]
    have := h x List.mem_cons_self
    have := ih fun y hy => h y (List.mem_cons_of_mem _ hy)
    omega
theorem cnt_nonneg (rs : List Road) (g : Int) : ∀ (c : Nat) (a : Int), 0 ≤ cnt rs g c a := by
  intro c
  induction c using Nat.strongRecOn with
  | ind c ih =>
    intro a
    rw [cnt_eq]
    have : 0 ≤ S rs fun q => if On q a c then cnt rs g (c - q.cost.toNat) q.other else 0 := S_nonneg fun q _ => by
      by_cases h : On q a c
      · rw [if_pos h]
        exact ih _ h.lt _
      · rw [if_neg h]
        exact Int.le_refl 0
    split <;> omega
theorem cnt_zero (rs : List Road) (g a : Int) : cnt rs g 0 a = if a = g then 1 else 0 := by
  rw [cnt_eq]
  have : (S rs fun q => if On q a 0 then cnt rs g (0 - q.cost.toNat) q.other else 0) = 0 := by
    have e := S_congr (l := rs) (f := fun q => if On q a 0 then cnt rs g (0 - q.cost.toNat) q.other else 0) (g := fun _ => 0) fun q _ => if_neg fun h : On q a 0 => by
      obtain ⟨_, h1, h2⟩ := h
      omega
    rw [e, S_zero]
  rw [this]
  by_cases h : a = g
  · rw [if_pos ⟨rfl, h⟩, if_pos h]; rfl
  · rw [if_neg fun z => h z.2, if_neg h]; rfl
/-- the steps from a place with so much left: the road's number, how many walks by it -/
def stp (rs0 : List Road) (g a : Int) (c : Nat) : Nat → List Road → List (Nat × Int)
  | _, [] => []
  | i, q :: r => if q.one = a ∧ q.cost ≤ (c : Int) then (i, cnt rs0 g (c - q.cost.toNat) q.other) :: stp rs0 g a c (i + 1) r else stp rs0 g a c (i + 1) r
abbrev steps (rs : List Road) (g a : Int) (c : Nat) : List (Nat × Int) := stp rs g a c 0 rs
def sumL (l : List (Nat × Int)) : Int := S l (·.2)
theorem stp_sum {rs0 : List Road} {g a : Int} {c : Nat} : ∀ (i : Nat) (r : List Road), (∀ q ∈ r, 1 ≤ q.cost) → sumL (stp rs0 g a c i r) = S r fun q => if On q a c then cnt rs0 g (c - q.cost.toNat) q.other else 0
  | _, [], _ => rfl
  | i, q :: r, h => by
    have ih := stp_sum (rs0 := rs0) (g := g) (a := a) (c := c) (i + 1) r fun q' hq => h q' (List.mem_cons_of_mem _ hq)
    have h1 := h q List.mem_cons_self
    unfold stp
    rw [S_cons]
    by_cases k : q.one = a ∧ q.cost ≤ (c : Int)
    · rw [if_pos k, if_pos (show On q a c from ⟨k.1, h1, k.2⟩)]
      show S _ _ = _
      rw [S_cons]
      unfold sumL at ih
      rw [ih]
    · rw [if_neg k, if_neg (fun z : On q a c => k ⟨z.1, z.2.2⟩), ih]
      omega
theorem cnt_steps {rs : List Road} {g a : Int} {c : Nat} (h : ∀ q ∈ rs, 1 ≤ q.cost) (hc : 0 < c) : cnt rs g c a = sumL (steps rs g a c) := by
  rw [cnt_eq, stp_sum 0 rs h, if_neg (fun z => by omega)]
  omega
theorem stp_mem {rs0 : List Road} {g a : Int} {c : Nat} {j : Nat} {m : Int} : ∀ {i : Nat} {r : List Road}, (j, m) ∈ stp rs0 g a c i r → ∃ q, i ≤ j ∧ r[j - i]? = some q ∧ q.one = a ∧ q.cost ≤ (c : Int) ∧ m = cnt rs0 g (c - q.cost.toNat) q.other
  | _, [], h => nomatch h
  | i, q :: r, h => by
    unfold stp at h
    have next : (j, m) ∈ stp rs0 g a c (i + 1) r → ∃ q', i ≤ j ∧ (q :: r)[j - i]? = some q' ∧ q'.one = a ∧ q'.cost ≤ (c : Int) ∧ m = cnt rs0 g (c - q'.cost.toNat) q'.other := fun h => by
      obtain ⟨q', h1, h2, h3⟩ := stp_mem h
      refine ⟨q', by omega, ?_, h3⟩
      rw [show j - i = (j - (i + 1)) + 1 from by omega, List.getElem?_cons_succ]
      exact h2
    by_cases k : q.one = a ∧ q.cost ≤ (c : Int)
    · rw [if_pos k] at h
      rcases List.mem_cons.mp h with h | h
      · cases h
        exact ⟨q, Nat.le_refl _, by rw [Nat.sub_self]; rfl, k.1, k.2, rfl⟩
      · exact next h
    · rw [if_neg k] at h
      exact next h
theorem stp_has {rs0 : List Road} {g a : Int} {c : Nat} {q : Road} (h1 : q.one = a) (h2 : q.cost ≤ (c : Int)) : ∀ {i j : Nat} {r : List Road}, r[j]? = some q → (i + j, cnt rs0 g (c - q.cost.toNat) q.other) ∈ stp rs0 g a c i r
  | _, _, [], e => by simp at e
  | i, 0, q' :: r, e => by
    simp at e
    subst e
    unfold stp
    rw [if_pos ⟨h1, h2⟩]
    exact List.mem_cons_self
  | i, j + 1, q' :: r, e => by
    have ih := stp_has (rs0 := rs0) (g := g) h1 h2 (i := i + 1) (j := j) (r := r) (by simpa using e)
    rw [show i + 1 + j = i + (j + 1) from by omega] at ih
    unfold stp
    split
    · exact List.mem_cons_of_mem _ ih
    · exact ih
/-- rising numbers, none below 0 -/
inductive Ris : Nat → List (Nat × Int) → Prop
  | nil (i : Nat) : Ris i []
  | cons {i j : Nat} {m : Int} {l : List (Nat × Int)} : i ≤ j → 0 ≤ m → Ris (j + 1) l → Ris i ((j, m) :: l)
theorem Ris.mono {i j : Nat} {l : List (Nat × Int)} (h : Ris j l) (k : i ≤ j) : Ris i l := by
  cases h with
  | nil => exact .nil _
  | cons a b c => exact .cons (Nat.le_trans k a) b c
theorem stp_ris (rs0 : List Road) (g a : Int) (c : Nat) : ∀ (i : Nat) (r : List Road), Ris i (stp rs0 g a c i r)
  | i, [] => .nil i
  | i, q :: r => by
    have ih := stp_ris rs0 g a c (i + 1) r
    unfold stp
    split
    · exact .cons (Nat.le_refl _) (cnt_nonneg _ _ _ _) ih
    · exact ih.mono (Nat.le_succ _)
theorem Ris.sum {i : Nat} {l : List (Nat × Int)} (h : Ris i l) : 0 ≤ sumL l := by
  induction h with
  | nil => exact Int.le_refl 0
  | cons _ b _ ih =>
    unfold sumL at ih ⊢
    rw [S_cons]
    simp only
    omega
theorem Ris.nn {i : Nat} {l : List (Nat × Int)} (h : Ris i l) : ∀ p ∈ l, 0 ≤ p.2 := by
  induction h with
  | nil => exact fun _ z => nomatch z
  | cons _ b _ ih =>
    intro p hp
    rcases List.mem_cons.mp hp with rfl | hp
    · exact b
    · exact ih p hp
def pick : List (Nat × Int) → Int → Option (Nat × Int)
  | [], _ => none
  | (i, m) :: r, k => if k < m then some (i, k) else pick r (k - m)
/-- what lies below a road's number -/
def below (l : List (Nat × Int)) (i : Nat) : Int := S (l.filter fun p => decide (p.1 < i)) (·.2)
theorem below_none {l : List (Nat × Int)} {i j : Nat} (h : Ris j l) (k : i ≤ j) : below l i = 0 := by
  induction h with
  | nil => rfl
  | @cons i' j' m l a b c ih =>
    unfold below at ih ⊢
    rw [List.filter_cons_of_neg (by simp; omega)]
    exact ih (by omega)
theorem below_cons {l : List (Nat × Int)} {i j : Nat} {m : Int} (h : j < i) : below ((j, m) :: l) i = m + below l i := by
  unfold below
  rw [List.filter_cons_of_pos (by simpa using h), S_cons]
theorem pick_some {l : List (Nat × Int)} {i0 : Nat} (h : Ris i0 l) : ∀ {k : Int}, 0 ≤ k → k < sumL l → ∃ i m k', pick l k = some (i, k') ∧ (i, m) ∈ l ∧ 0 ≤ k' ∧ k' < m ∧ i0 ≤ i ∧ below l i + k' = k := by
  induction h with
  | nil =>
    intro k h0 h1
    have : sumL ([] : List (Nat × Int)) = 0 := rfl
    omega
  | @cons i0 j m l a b c ih =>
    intro k h0 h1
    unfold sumL at h1
    rw [S_cons] at h1
    unfold pick
    by_cases hk : k < m
    · rw [if_pos hk]
      refine ⟨j, m, k, rfl, List.mem_cons_self, h0, hk, a, ?_⟩
      rw [below_none (.cons (Nat.le_refl j) b c) (Nat.le_refl j)]
      omega
    · rw [if_neg hk]
      obtain ⟨i, m', k', e1, e2, e3, e4, e5, e6⟩ := ih (k := k - m) (by omega) (by unfold sumL; simp only at h1; omega)
      refine ⟨i, m', k', e1, List.mem_cons_of_mem _ e2, e3, e4, by omega, ?_⟩
      rw [below_cons (by omega)]
      omega
theorem below_lt {l : List (Nat × Int)} {i0 i : Nat} {m : Int} (h : Ris i0 l) (hm : (i, m) ∈ l) : 0 ≤ below l i ∧ below l i + m ≤ sumL l ∧ ∀ i', i < i' → below l i + m ≤ below l i' := by
  induction h with
  | nil => exact nomatch hm
  | @cons i0 j m' l a b c ih =>
    have hs := c.sum
    rcases List.mem_cons.mp hm with e | e
    · cases e
      rw [below_none (.cons (Nat.le_refl _) b c) (Nat.le_refl _)]
      refine ⟨Int.le_refl 0, ?_, fun i' hi => ?_⟩
      · unfold sumL at hs ⊢
        rw [S_cons]
        simp only
        omega
      · rw [below_cons hi]
        have : 0 ≤ below l i' := by
          unfold below
          refine S_nonneg fun p hp => ?_
          have hp := (List.mem_filter.mp hp).1
          exact c.nn p hp
        omega
    · have hj : j < i := by
        clear ih hm hs
        have : ∀ {i1 : Nat} {l : List (Nat × Int)}, Ris i1 l → (i, m) ∈ l → i1 ≤ i := by
          intro i1 l r
          induction r with
          | nil => intro z; exact nomatch z
          | cons a' _ _ ih2 =>
            intro z
            rcases List.mem_cons.mp z with z | z
            · cases z; exact a'
            · have := ih2 z; omega
        exact this c e
      obtain ⟨h1, h2, h3⟩ := ih e
      rw [below_cons hj]
      refine ⟨by omega, ?_, fun i' hi => ?_⟩
      · unfold sumL at h2 ⊢
        rw [S_cons]
        simp only
        omega
      · rw [below_cons (by omega)]
        have := h3 i' hi
        omega
/-- a walk to g of this cost, by its roads' numbers -/
def Wk (rs : List Road) (g : Int) : Nat → Int → List Nat → Prop
  | c, a, [] => c = 0 ∧ a = g
  | c, a, i :: w => ∃ q, rs[i]? = some q ∧ q.one = a ∧ q.cost ≤ (c : Int) ∧ Wk rs g (c - q.cost.toNat) q.other w
def rnk (rs : List Road) (g : Int) : Nat → Int → List Nat → Int
  | _, _, [] => 0
  | c, a, i :: w => below (steps rs g a c) i + (match rs[i]? with | some q => rnk rs g (c - q.cost.toNat) q.other w | none => 0)
theorem rnk_cons {rs : List Road} {g : Int} {c : Nat} {a : Int} {i : Nat} {w : List Nat} {q : Road} (e : rs[i]? = some q) : rnk rs g c a (i :: w) = below (steps rs g a c) i + rnk rs g (c - q.cost.toNat) q.other w := by
  show below _ _ + (match rs[i]? with | some q => rnk rs g (c - q.cost.toNat) q.other w | none => 0) = _
  rw [e]
theorem rnk_lt {rs : List Road} {g : Int} (h : ∀ q ∈ rs, 1 ≤ q.cost) : ∀ {w : List Nat} {c : Nat} {a : Int}, Wk rs g c a w → 0 ≤ rnk rs g c a w ∧ rnk rs g c a w < cnt rs g c a
  | [], c, a, ⟨h1, h2⟩ => by
    subst h1
    subst h2
    rw [cnt_zero, if_pos rfl]
    show (0 : Int) ≤ 0 ∧ (0 : Int) < 1
    omega
  | i :: w, c, a, ⟨q, e, h1, h2, h3⟩ => by
    obtain ⟨k0, k1⟩ := rnk_lt h h3
    have hq := h q (List.mem_of_getElem? e)
    rw [rnk_cons e, cnt_steps h (by omega)]
    have hm : (i, cnt rs g (c - q.cost.toNat) q.other) ∈ steps rs g a c := by
      have := stp_has (rs0 := rs) (g := g) h1 h2 (i := 0) e
      rw [Nat.zero_add] at this
      exact this
    obtain ⟨b1, b2, _⟩ := below_lt (l := steps rs g a c) (stp_ris rs g a c 0 rs) hm
    omega
theorem rnk_inj {rs : List Road} {g : Int} (h : ∀ q ∈ rs, 1 ≤ q.cost) : ∀ {w w' : List Nat} {c : Nat} {a : Int}, Wk rs g c a w → Wk rs g c a w' → rnk rs g c a w = rnk rs g c a w' → w = w'
  | [], [], _, _, _, _, _ => rfl
  | [], i :: w', c, a, ⟨h1, _⟩, ⟨q, e, _, h2, _⟩, _ => by
    have := h q (List.mem_of_getElem? e)
    omega
  | i :: w', [], c, a, ⟨q, e, _, h2, _⟩, ⟨h1, _⟩, _ => by
    have := h q (List.mem_of_getElem? e)
    omega
  | i :: w, j :: w', c, a, ⟨q, e, h1, h2, h3⟩, ⟨q', e', h1', h2', h3'⟩, er => by
    obtain ⟨k0, k1⟩ := rnk_lt h h3
    obtain ⟨k0', k1'⟩ := rnk_lt h h3'
    rw [rnk_cons e, rnk_cons e'] at er
    have hm : (i, cnt rs g (c - q.cost.toNat) q.other) ∈ steps rs g a c := by
      have := stp_has (rs0 := rs) (g := g) h1 h2 (i := 0) e
      rw [Nat.zero_add] at this
      exact this
    have hm' : (j, cnt rs g (c - q'.cost.toNat) q'.other) ∈ steps rs g a c := by
      have := stp_has (rs0 := rs) (g := g) h1' h2' (i := 0) e'
      rw [Nat.zero_add] at this
      exact this
    obtain ⟨_, _, b3⟩ := below_lt (l := steps rs g a c) (stp_ris rs g a c 0 rs) hm
    obtain ⟨_, _, b3'⟩ := below_lt (l := steps rs g a c) (stp_ris rs g a c 0 rs) hm'
    have ij : i = j := by
      rcases Nat.lt_trichotomy i j with z | z | z
      · have := b3 j z
        omega
      · exact z
      · have := b3' i z
        omega
    subst ij
    rw [e] at e'
    cases e'
    rw [rnk_inj h h3 h3' (by omega)]
/-- all walks of less cost -/
def tot (rs : List Road) (g a : Int) : Nat → Int
  | 0 => 0
  | n + 1 => tot rs g a n + cnt rs g n a
theorem tot_mono (rs : List Road) (g a : Int) {m n : Nat} (h : m ≤ n) : tot rs g a m ≤ tot rs g a n := by
  induction h with
  | refl => exact Int.le_refl _
  | step _ ih =>
    have := cnt_nonneg rs g ‹Nat› a
    show _ ≤ tot rs g a _ + cnt rs g _ a
    omega
theorem tot_inj {rs : List Road} {g a : Int} {m n : Nat} {k k' : Int} (h1 : 0 ≤ k) (h2 : k < cnt rs g m a) (h3 : 0 ≤ k') (h4 : k' < cnt rs g n a) (e : tot rs g a m + k = tot rs g a n + k') : m = n ∧ k = k' := by
  rcases Nat.lt_trichotomy m n with z | z | z
  · have := tot_mono rs g a (show m + 1 ≤ n from z)
    have : tot rs g a (m + 1) = tot rs g a m + cnt rs g m a := rfl
    omega
  · subst z
    exact ⟨rfl, by omega⟩
  · have := tot_mono rs g a (show n + 1 ≤ m from z)
    have : tot rs g a (n + 1) = tot rs g a n + cnt rs g n a := rfl
    omega
end Wy

namespace Wy
open PySem PySem.W Dl
/-! ### all walks, one behind the other -/
def outL (a : Int) : Nat → List Road → List (Nat × Road)
  | _, [] => []
  | i, r :: q => if r.one = a then (i, r) :: outL a (i + 1) q else outL a (i + 1) q
theorem outL_mem {a : Int} {j : Nat} {q : Road} : ∀ {i : Nat} {r : List Road}, (j, q) ∈ outL a i r ↔ i ≤ j ∧ r[j - i]? = some q ∧ q.one = a
  | i, [] => by simp [outL]
  | i, x :: r => by
    have ih := outL_mem (a := a) (j := j) (q := q) (i := i + 1) (r := r)
    have key : (j, q) ∈ outL a (i + 1) r ↔ i < j ∧ (x :: r)[j - i]? = some q ∧ q.one = a := by
      rw [ih]
      constructor
      · rintro ⟨h1, h2, h3⟩
        refine ⟨by omega, ?_, h3⟩
        rw [show j - i = (j - (i + 1)) + 1 from by omega, List.getElem?_cons_succ]
        exact h2
      · rintro ⟨h1, h2, h3⟩
        refine ⟨by omega, ?_, h3⟩
        rw [show j - i = (j - (i + 1)) + 1 from by omega, List.getElem?_cons_succ] at h2
        exact h2
    unfold outL
    by_cases h : x.one = a
    · rw [if_pos h, List.mem_cons, key]
      constructor
      · rintro (e | ⟨h1, h2⟩)
        · cases e
          exact ⟨Nat.le_refl _, by rw [Nat.sub_self]; rfl, h⟩
        · exact ⟨by omega, h2⟩
      · rintro ⟨h1, h2, h3⟩
        rcases Nat.lt_or_eq_of_le h1 with z | z
        · exact .inr ⟨z, h2, h3⟩
        · subst z
          rw [Nat.sub_self] at h2
          cases h2
          exact .inl rfl
    · rw [if_neg h, key]
      constructor
      · rintro ⟨h1, h2⟩
        exact ⟨by omega, h2⟩
      · rintro ⟨h1, h2, h3⟩
        rcases Nat.lt_or_eq_of_le h1 with z | z
        · exact ⟨z, h2, h3⟩
        · subst z
          rw [Nat.sub_self] at h2
          cases h2
          exact absurd h3 h
structure Nd where
  w : List Nat
  pl : Int
  c : Nat
def kids (rs : List Road) (m : Nat) (x : Nd) : List Nd := ((outL x.pl 0 rs).filter fun y => decide ((x.c : Int) + y.2.cost ≤ (m : Int))).map fun y => ⟨x.w ++ [y.1], y.2.other, x.c + y.2.cost.toNat⟩
def extF (rs : List Road) (m : Nat) : Nat → Nd → List Nd
  | 0, x => [x]
  | f + 1, x => x :: (kids rs m x).flatMap (extF rs m f)
def T (rs : List Road) (m : Nat) (x : Nd) : List Nd := extF rs m (m - x.c) x
theorem kids_c {rs : List Road} {m : Nat} (h1 : ∀ q ∈ rs, 1 ≤ q.cost) {x y : Nd} (h : y ∈ kids rs m x) : x.c < y.c ∧ y.c ≤ m := by
  unfold kids at h
  obtain ⟨z, hz, rfl⟩ := List.mem_map.mp h
  obtain ⟨hz, hc⟩ := List.mem_filter.mp hz
  obtain ⟨_, e, _⟩ := outL_mem.mp (show (z.1, z.2) ∈ outL x.pl 0 rs from hz)
  have := h1 _ (List.mem_of_getElem? e)
  have hc := of_decide_eq_true hc
  show x.c < x.c + z.2.cost.toNat ∧ x.c + z.2.cost.toNat ≤ m
  omega
theorem extF_eq {rs : List Road} {m : Nat} (h1 : ∀ q ∈ rs, 1 ≤ q.cost) : ∀ (f f' : Nat) (x : Nd), m - x.c ≤ f → m - x.c ≤ f' → extF rs m f x = extF rs m f' x
  | 0, 0, _, _, _ => rfl
  | 0, f' + 1, x, h, _ => by
    have : kids rs m x = [] := List.eq_nil_iff_forall_not_mem.mpr fun y hy => by
      have := kids_c h1 hy
      omega
    show [x] = x :: (kids rs m x).flatMap _
    rw [this]
    rfl
  | f + 1, 0, x, _, h => by
    have : kids rs m x = [] := List.eq_nil_iff_forall_not_mem.mpr fun y hy => by
      have := kids_c h1 hy
      omega
    show x :: (kids rs m x).flatMap _ = [x]
    rw [this]
    rfl
  | f + 1, f' + 1, x, h, h' => by
    show x :: (kids rs m x).flatMap _ = x :: (kids rs m x).flatMap _
    congr 1
    have : ∀ l : List Nd, (∀ y ∈ l, y ∈ kids rs m x) → l.flatMap (extF rs m f) = l.flatMap (extF rs m f') := by
      intro l
      induction l with
      | nil => intro _; rfl
      | cons y l ih =>
        intro hl
        have hy := kids_c h1 (hl y List.mem_cons_self)
        rw [List.flatMap_cons, List.flatMap_cons, ih fun z hz => hl z (List.mem_cons_of_mem _ hz), extF_eq h1 f f' y (by omega) (by omega)]
    exact this _ fun _ z => z
theorem T_eq {rs : List Road} {m : Nat} (h1 : ∀ q ∈ rs, 1 ≤ q.cost) (x : Nd) : T rs m x = x :: (kids rs m x).flatMap (T rs m) := by
  unfold T
  rw [extF_eq h1 (m - x.c) (m - x.c + 1) x (Nat.le_refl _) (by omega)]
  show x :: (kids rs m x).flatMap _ = _
  congr 1
  have : ∀ l : List Nd, (∀ y ∈ l, y ∈ kids rs m x) → l.flatMap (extF rs m (m - x.c)) = l.flatMap fun y => extF rs m (m - y.c) y := by
    intro l
    induction l with
    | nil => intro _; rfl
    | cons y l ih =>
      intro hl
      have hy := kids_c h1 (hl y List.mem_cons_self)
      rw [List.flatMap_cons, List.flatMap_cons, ih fun z hz => hl z (List.mem_cons_of_mem _ hz), extF_eq h1 _ (m - y.c) y (by omega) (Nat.le_refl _)]
  exact this _ fun _ z => z
theorem wk_c0 {rs : List Road} {g : Int} {a : Int} {w : List Nat} (h1 : ∀ q ∈ rs, 1 ≤ q.cost) (h : Wk rs g 0 a w) : w = [] := by
  cases w with
  | nil => rfl
  | cons i w =>
    obtain ⟨q, e, _, h2, _⟩ := h
    have := h1 q (List.mem_of_getElem? e)
    omega
theorem T_mem {rs : List Road} {m : Nat} (h1 : ∀ q ∈ rs, 1 ≤ q.cost) (d : Nat) : ∀ (x : Nd), m - x.c ≤ d → x.c ≤ m → ∀ y, y ∈ T rs m x ↔ ∃ v c', y.w = x.w ++ v ∧ y.c = x.c + c' ∧ y.c ≤ m ∧ Wk rs y.pl c' x.pl v := by
  induction d using Nat.strongRecOn with
  | ind d IH =>
    intro x hd hm y
    rw [T_eq h1, List.mem_cons, List.mem_flatMap]
    constructor
    · rintro (rfl | ⟨k, hk, hy⟩)
      · exact ⟨[], 0, by rw [List.append_nil], by omega, hm, rfl, rfl⟩
      · have hc := kids_c h1 hk
        have ih := (IH (m - k.c) (by omega) k (Nat.le_refl _) hc.2 y).mp hy
        obtain ⟨v, c', e1, e2, e3, e4⟩ := ih
        unfold kids at hk
        obtain ⟨z, hz, rfl⟩ := List.mem_map.mp hk
        obtain ⟨hz, hcz⟩ := List.mem_filter.mp hz
        obtain ⟨_, ez, oz⟩ := outL_mem.mp (show (z.1, z.2) ∈ outL x.pl 0 rs from hz)
        rw [Nat.sub_zero] at ez
        have hq := h1 _ (List.mem_of_getElem? ez)
        refine ⟨z.1 :: v, z.2.cost.toNat + c', ?_, ?_, e3, z.2, ez, oz, by omega, ?_⟩
        · rw [e1]
          show (x.w ++ [z.1]) ++ v = _
          rw [List.append_assoc]
          rfl
        · rw [e2]
          show x.c + z.2.cost.toNat + c' = _
          omega
        · rw [Nat.add_sub_cancel_left]
          exact e4
    · rintro ⟨v, c', e1, e2, e3, e4⟩
      cases v with
      | nil =>
        obtain ⟨rfl, e5⟩ := e4
        refine .inl ?_
        obtain ⟨yw, yp, yc⟩ := y
        obtain ⟨xw, xp, xc⟩ := x
        simp only [List.append_nil, Nat.add_zero] at e1 e2 e5
        rw [e1, e2, e5]
      | cons i v =>
        obtain ⟨q, eq, oq, cq, hv⟩ := e4
        have hq := h1 _ (List.mem_of_getElem? eq)
        refine .inr ⟨⟨x.w ++ [i], q.other, x.c + q.cost.toNat⟩, ?_, ?_⟩
        · unfold kids
          refine List.mem_map.mpr ⟨(i, q), List.mem_filter.mpr ⟨outL_mem.mpr ⟨Nat.zero_le _, by rw [Nat.sub_zero]; exact eq, oq⟩, decide_eq_true (show (x.c : Int) + q.cost ≤ (m : Int) by omega)⟩, rfl⟩
        · refine (IH (m - (x.c + q.cost.toNat)) (by omega) _ (Nat.le_refl _) (show x.c + q.cost.toNat ≤ m by omega) y).mpr ⟨v, c' - q.cost.toNat, ?_, ?_, e3, hv⟩
          · rw [e1]
            show _ = (x.w ++ [i]) ++ v
            rw [List.append_assoc]
            rfl
          · show y.c = x.c + q.cost.toNat + (c' - q.cost.toNat)
            omega
end Wy

namespace Wy
open PySem PySem.W Dl
def _root_.Dl.Road.rev (q : Road) : Road := ⟨q.other, q.one, q.cost, q.time⟩
theorem cnt_rev (rs : List Road) : ∀ (c : Nat) (g a : Int), cnt rs g c a = cnt (rs.map Dl.Road.rev) a c g := by
  intro c
  induction c using Nat.strongRecOn with
  | ind c ih =>
    intro g a
    rw [cnt_eq, cnt_eq (rs.map Dl.Road.rev), S_map]
    have e1 : (S rs fun q => if On q a c then cnt rs g (c - q.cost.toNat) q.other else 0) = (S rs fun q => if On q a c then (if c - q.cost.toNat = 0 ∧ g = q.other then 1 else 0) else 0) + S rs fun q => S rs fun r => if On q a c then (if On r.rev g (c - q.cost.toNat) then cnt (rs.map Dl.Road.rev) q.other (c - q.cost.toNat - r.cost.toNat) r.one else 0) else 0 := by
      rw [← S_add]
      refine S_congr fun q _ => ?_
      rw [← S_ite]
      by_cases h : On q a c
      · rw [if_pos h, if_pos h, ih _ h.lt, cnt_eq, S_map]
        rfl
      · rw [if_neg h, if_neg h]
    have e2 : (S rs fun r => if On r.rev g c then cnt (rs.map Dl.Road.rev) a (c - r.rev.cost.toNat) r.rev.other else 0) = (S rs fun r => if On r.rev g c then (if c - r.cost.toNat = 0 ∧ a = r.one then 1 else 0) else 0) + S rs fun r => S rs fun q => if On r.rev g c then (if On q a (c - r.cost.toNat) then cnt (rs.map Dl.Road.rev) q.other (c - q.cost.toNat - r.cost.toNat) r.one else 0) else 0 := by
      rw [← S_add]
      refine S_congr fun r _ => ?_
      rw [← S_ite]
      by_cases h : On r.rev g c
      · have hl : c - r.cost.toNat < c := h.lt
        rw [if_pos h, if_pos h]
        show cnt (rs.map Dl.Road.rev) a (c - r.cost.toNat) r.one = _
        rw [← ih _ hl, cnt_eq]
        congr 1
        refine S_congr fun q _ => ?_
        by_cases h2 : On q a (c - r.cost.toNat)
        · rw [if_pos h2, if_pos h2, ih _ (Nat.lt_trans h2.lt hl), Nat.sub_right_comm]
        · rw [if_neg h2, if_neg h2]
      · rw [if_neg h, if_neg h]
    rw [e1, e2, S_swap]
    have e3 : (S rs fun q => if On q a c then (if c - q.cost.toNat = 0 ∧ g = q.other then 1 else 0) else 0) = S rs fun r => if On r.rev g c then (if c - r.cost.toNat = 0 ∧ a = r.one then 1 else 0) else (0 : Int) := by
      refine S_congr fun q _ => ?_
      have i1 : (On q a c ∧ (c - q.cost.toNat = 0 ∧ g = q.other)) ↔ (On q.rev g c ∧ (c - q.cost.toNat = 0 ∧ a = q.one)) := by
        unfold On Dl.Road.rev
        dsimp only
        constructor
        · rintro ⟨⟨a1, a2, a3⟩, a4, a5⟩
          exact ⟨⟨a5.symm, a2, a3⟩, a4, a1.symm⟩
        · rintro ⟨⟨a1, a2, a3⟩, a4, a5⟩
          exact ⟨⟨a5.symm, a2, a3⟩, a4, a1.symm⟩
      by_cases h : On q a c ∧ (c - q.cost.toNat = 0 ∧ g = q.other)
      · have h2 := i1.mp h
        rw [if_pos h.1, if_pos h.2, if_pos h2.1, if_pos h2.2]
      · have h2 := fun z => h (i1.mpr z)
        have z1 : (if On q a c then (if c - q.cost.toNat = 0 ∧ g = q.other then (1 : Int) else 0) else 0) = 0 := by
          by_cases k : On q a c
          · rw [if_pos k, if_neg fun z => h ⟨k, z⟩]
          · rw [if_neg k]
        have z2 : (if On q.rev g c then (if c - q.cost.toNat = 0 ∧ a = q.one then (1 : Int) else 0) else 0) = 0 := by
          by_cases k : On q.rev g c
          · rw [if_pos k, if_neg fun z => h2 ⟨k, z⟩]
          · rw [if_neg k]
        rw [z1, z2]
    have e4 : (S rs fun r => S rs fun q => if On q a c then (if On r.rev g (c - q.cost.toNat) then cnt (rs.map Dl.Road.rev) q.other (c - q.cost.toNat - r.cost.toNat) r.one else 0) else 0) = S rs fun r => S rs fun q => if On r.rev g c then (if On q a (c - r.cost.toNat) then cnt (rs.map Dl.Road.rev) q.other (c - q.cost.toNat - r.cost.toNat) r.one else 0) else 0 := by
      refine S_congr fun r _ => S_congr fun q _ => ?_
      have i1 : (On q a c ∧ On r.rev g (c - q.cost.toNat)) ↔ (On r.rev g c ∧ On q a (c - r.cost.toNat)) := by
        unfold On Dl.Road.rev
        dsimp only
        constructor
        · rintro ⟨⟨a1, a2, a3⟩, a4, a5, a6⟩
          refine ⟨⟨a4, a5, ?_⟩, a1, a2, ?_⟩ <;> omega
        · rintro ⟨⟨a1, a2, a3⟩, a4, a5, a6⟩
          refine ⟨⟨a4, a5, ?_⟩, a1, a2, ?_⟩ <;> omega
      by_cases h : On q a c ∧ On r.rev g (c - q.cost.toNat)
      · have h2 := i1.mp h
        rw [if_pos h.1, if_pos h.2, if_pos h2.1, if_pos h2.2]
      · have h2 := fun z => h (i1.mpr z)
        by_cases k : On q a c
        · rw [if_pos k, if_neg fun z => h ⟨k, z⟩]
          by_cases k2 : On r.rev g c
          · rw [if_pos k2, if_neg fun z => h2 ⟨k2, z⟩]
          · rw [if_neg k2]
        · rw [if_neg k]
          by_cases k2 : On r.rev g c
          · rw [if_pos k2, if_neg fun z => h2 ⟨k2, z⟩]
          · rw [if_neg k2]
    rw [e3, e4]
    have e5 : (if c = 0 ∧ a = g then (1 : Int) else 0) = if c = 0 ∧ g = a then 1 else 0 := by
      by_cases h : c = 0 ∧ a = g
      · rw [if_pos h, if_pos ⟨h.1, h.2.symm⟩]
      · rw [if_neg h, if_neg fun z => h ⟨z.1, z.2.symm⟩]
    rw [e5]

theorem outL_pw (a : Int) : ∀ (i : Nat) (r : List Road), (outL a i r).Pairwise fun x y => x.1 < y.1
  | _, [] => List.Pairwise.nil
  | i, x :: r => by
    have ih := outL_pw a (i + 1) r
    unfold outL
    split
    · refine List.pairwise_cons.mpr ⟨fun y hy => ?_, ih⟩
      have := (outL_mem.mp (show (y.1, y.2) ∈ outL a (i + 1) r from hy)).1
      show i < y.1
      omega
    · exact ih
theorem T_nodup {rs : List Road} {m : Nat} (h1 : ∀ q ∈ rs, 1 ≤ q.cost) (d : Nat) : ∀ (x : Nd), m - x.c ≤ d → x.c ≤ m → (T rs m x).Nodup := by
  induction d using Nat.strongRecOn with
  | ind d IH =>
    intro x hd hm
    rw [T_eq h1, List.nodup_cons]
    refine ⟨fun h => ?_, ?_⟩
    · obtain ⟨k, hk, hy⟩ := List.mem_flatMap.mp h
      have hc := kids_c h1 hk
      obtain ⟨v, c', e1, e2, _⟩ := (T_mem h1 (m - k.c) k (Nat.le_refl _) hc.2 x).mp hy
      omega
    · unfold List.Nodup
      rw [List.pairwise_flatMap]
      refine ⟨fun k hk => ?_, ?_⟩
      · have hc := kids_c h1 hk
        exact IH (m - k.c) (by omega) k (Nat.le_refl _) hc.2
      · have pw : (kids rs m x).Pairwise fun k k' => ∃ i j, k.w = x.w ++ [i] ∧ k'.w = x.w ++ [j] ∧ i < j := by
          unfold kids
          rw [List.pairwise_map]
          exact ((outL_pw x.pl 0 rs).filter _).imp fun {y z} h => ⟨y.1, z.1, rfl, rfl, h⟩
        refine List.Pairwise.imp_of_mem (fun {k k'} hk hk' ⟨i, j, e1, e2, hij⟩ u hu v hv e => ?_) pw
        have hc := kids_c h1 hk
        have hc' := kids_c h1 hk'
        obtain ⟨v1, _, f1, _⟩ := (T_mem h1 (m - k.c) k (Nat.le_refl _) hc.2 u).mp hu
        obtain ⟨v2, _, f2, _⟩ := (T_mem h1 (m - k'.c) k' (Nat.le_refl _) hc'.2 v).mp hv
        rw [e, f2, e1, e2, List.append_assoc, List.append_assoc] at f1
        have := List.append_cancel_left f1
        rw [List.singleton_append, List.singleton_append] at this
        have := (List.cons.inj this).1
        omega
theorem tot_rec {rs : List Road} {g : Int} (h1 : ∀ q ∈ rs, 1 ≤ q.cost) (a : Int) : ∀ n : Nat, tot rs g a (n + 1) = (if a = g then 1 else 0) + S rs fun q => if q.one = a ∧ q.cost ≤ (n : Int) then tot rs g q.other (n + 1 - q.cost.toNat) else 0
  | 0 => by
    have e := S_congr (l := rs) (f := fun q => if q.one = a ∧ q.cost ≤ ((0 : Nat) : Int) then tot rs g q.other (0 + 1 - q.cost.toNat) else 0) (g := fun _ => 0) fun q hq => if_neg fun h : q.one = a ∧ q.cost ≤ ((0 : Nat) : Int) => by
      have := h1 q hq
      omega
    rw [e, S_zero]
    show 0 + cnt rs g 0 a = _
    rw [cnt_zero]
    omega
  | n + 1 => by
    show tot rs g a (n + 1) + cnt rs g (n + 1) a = _
    rw [tot_rec h1 a n, cnt_eq, if_neg (show ¬ (n + 1 = 0 ∧ a = g) from fun z => by omega)]
    have e := S_congr (l := rs) (f := fun q => if q.one = a ∧ q.cost ≤ ((n + 1 : Nat) : Int) then tot rs g q.other (n + 1 + 1 - q.cost.toNat) else 0) (g := fun q => (if q.one = a ∧ q.cost ≤ (n : Int) then tot rs g q.other (n + 1 - q.cost.toNat) else 0) + (if On q a (n + 1) then cnt rs g (n + 1 - q.cost.toNat) q.other else 0)) fun q hq => by
      have hc := h1 q hq
      by_cases k : q.one = a ∧ q.cost ≤ ((n + 1 : Nat) : Int)
      · rw [if_pos k, if_pos (show On q a (n + 1) from ⟨k.1, hc, k.2⟩), show n + 1 + 1 - q.cost.toNat = (n + 1 - q.cost.toNat) + 1 from by omega]
        show tot rs g q.other (n + 1 - q.cost.toNat) + cnt rs g (n + 1 - q.cost.toNat) q.other = _
        by_cases k2 : q.cost ≤ (n : Int)
        · rw [if_pos ⟨k.1, k2⟩]
        · rw [if_neg (fun z => k2 z.2), show n + 1 - q.cost.toNat = 0 from by omega]
          rfl
      · rw [if_neg k, if_neg (fun z : On q a (n + 1) => k ⟨z.1, z.2.2⟩), if_neg (fun z => k ⟨z.1, by omega⟩)]
        rfl
    rw [e, S_add]
    omega
def allT (rs : List Road) (p : Int) (a : Int) (n : Nat) : Int := S (List.range p.toNat) fun (pl : Nat) => tot rs (pl : Int) a n
theorem S_one {n : Nat} {a : Int} (h0 : 0 ≤ a) (ha : a < (n : Int)) : (S (List.range n) fun (pl : Nat) => if a = (pl : Int) then (1 : Int) else 0) = 1 := by
  induction n with
  | zero => omega
  | succ n ih =>
    rw [List.range_succ, S_append, S_cons, S_nil]
    by_cases e : a = (n : Int)
    · rw [if_pos e]
      have z := S_congr (l := List.range n) (f := fun (pl : Nat) => if a = (pl : Int) then (1 : Int) else 0) (g := fun _ => 0) fun pl hp => if_neg (by
        have := List.mem_range.mp hp
        omega)
      rw [z, S_zero]
      omega
    · rw [if_neg e, ih (by omega)]
      omega
theorem S_if {α : Type} (l : List α) (P : Prop) [Decidable P] (f : α → Int) : (S l fun x => if P then f x else 0) = if P then S l f else 0 := by
  by_cases h : P
  · simp only [if_pos h]
  · simp only [if_neg h]
    rw [S_zero]
theorem allT_rec {rs : List Road} {p : Int} (h1 : ∀ q ∈ rs, 1 ≤ q.cost) {a : Int} (a0 : 0 ≤ a) (a1 : a < p) (n : Nat) : allT rs p a (n + 1) = 1 + S rs fun q => if q.one = a ∧ q.cost ≤ (n : Int) then allT rs p q.other (n + 1 - q.cost.toNat) else 0 := by
  unfold allT
  rw [S_congr fun (pl : Nat) _ => tot_rec h1 a n, S_add, S_one (n := p.toNat) a0 (by omega), S_swap]
  congr 1
  exact S_congr fun q _ => S_if _ _ _
theorem S_filter {α : Type} (l : List α) (p : α → Bool) (f : α → Int) : S (l.filter p) f = S l fun x => if p x = true then f x else 0 := by
  induction l with
  | nil => rfl
  | cons x l ih =>
    rw [List.filter_cons, S_cons]
    cases e : p x with
    | true =>
      rw [if_pos rfl, S_cons, ih, if_pos rfl]
    | false =>
      rw [if_neg Bool.false_ne_true, ih, if_neg Bool.false_ne_true]
      omega
theorem outL_S (a : Int) (G : Road → Int) : ∀ (i : Nat) (r : List Road), (S (outL a i r) fun y => G y.2) = S r fun q => if q.one = a then G q else 0
  | _, [] => rfl
  | i, x :: r => by
    have ih := outL_S a G (i + 1) r
    unfold outL
    rw [S_cons]
    by_cases h : x.one = a
    · rw [if_pos h, if_pos h, S_cons, ih]
    · rw [if_neg h, if_neg h, ih]
      omega
theorem flat_len {α β : Type} (l : List α) (f : α → List β) : ((l.flatMap f).length : Int) = S l fun x => ((f x).length : Int) := by
  induction l with
  | nil => rfl
  | cons x l ih =>
    rw [List.flatMap_cons, List.length_append, S_cons, ← ih]
    omega
theorem T_len {rs : List Road} {p : Int} {m : Nat} (ok : NetOk p rs) (d : Nat) : ∀ (x : Nd), m - x.c ≤ d → x.c ≤ m → 0 ≤ x.pl → x.pl < p → ((T rs m x).length : Int) = allT rs p x.pl (m - x.c + 1) := by
  have h1 : ∀ q ∈ rs, 1 ≤ q.cost := fun q hq => (ok.all q hq).c1
  induction d using Nat.strongRecOn with
  | ind d IH =>
    intro x hd hm x0 x1
    rw [T_eq h1, List.length_cons, allT_rec h1 x0 x1]
    have e := flat_len (kids rs m x) (T rs m)
    have e2 : (S (kids rs m x) fun k => ((T rs m k).length : Int)) = S (kids rs m x) fun k => allT rs p k.pl (m - k.c + 1) := S_congr fun k hk => by
      have hc := kids_c h1 hk
      have hp : 0 ≤ k.pl ∧ k.pl < p := by
        unfold kids at hk
        obtain ⟨z, hz, rfl⟩ := List.mem_map.mp hk
        obtain ⟨_, ez, _⟩ := outL_mem.mp (show (z.1, z.2) ∈ outL x.pl 0 rs from (List.mem_filter.mp hz).1)
        have o := ok.all _ (List.mem_of_getElem? ez)
        exact ⟨o.t1, by have := o.t2; show z.2.other < p; omega⟩
      exact IH (m - k.c) (by omega) k (Nat.le_refl _) hc.2 hp.1 hp.2
    have e3 : (S (kids rs m x) fun k => allT rs p k.pl (m - k.c + 1)) = S rs fun q => if q.one = x.pl ∧ q.cost ≤ ((m - x.c : Nat) : Int) then allT rs p q.other (m - x.c + 1 - q.cost.toNat) else 0 := by
      unfold kids
      rw [S_map, S_filter]
      rw [outL_S x.pl (fun q => if decide ((x.c : Int) + q.cost ≤ (m : Int)) = true then allT rs p q.other (m - (x.c + q.cost.toNat) + 1) else 0) 0 rs]
      refine S_congr fun q hq => ?_
      have hc := h1 q hq
      by_cases k : q.one = x.pl
      · rw [if_pos k]
        by_cases k2 : (x.c : Int) + q.cost ≤ (m : Int)
        · rw [if_pos (decide_eq_true k2), if_pos ⟨k, by omega⟩, show m - (x.c + q.cost.toNat) + 1 = m - x.c + 1 - q.cost.toNat from by omega]
        · rw [if_neg (by rw [decide_eq_true_eq]; exact k2), if_neg (fun z => k2 (by omega))]
      · rw [if_neg k, if_neg (fun z => k z.1)]
    rw [e2, e3] at e
    omega
end Wy

namespace Wy
open PySem PySem.W Dl
theorem unrank {rs : List Road} {g : Int} (h1 : ∀ q ∈ rs, 1 ≤ q.cost) (c : Nat) : ∀ (a k : Int), 0 ≤ k → k < cnt rs g c a → ∃ w, Wk rs g c a w ∧ rnk rs g c a w = k := by
  induction c using Nat.strongRecOn with
  | ind c IH =>
    intro a k k0 k1
    cases c with
    | zero =>
      rw [cnt_zero] at k1
      by_cases e : a = g
      · rw [if_pos e] at k1
        exact ⟨[], ⟨rfl, e⟩, by show (0 : Int) = k; omega⟩
      · rw [if_neg e] at k1
        omega
    | succ c =>
      rw [cnt_steps h1 (Nat.succ_pos _)] at k1
      obtain ⟨i, m, k', _, hm, k0', k1', _, hb⟩ := pick_some (stp_ris rs g a (c + 1) 0 rs) k0 k1
      obtain ⟨q, _, eq, oq, cq, rfl⟩ := stp_mem hm
      rw [Nat.sub_zero] at eq
      have hq := h1 q (List.mem_of_getElem? eq)
      obtain ⟨w, hw, hr⟩ := IH (c + 1 - q.cost.toNat) (by omega) q.other k' k0' k1'
      exact ⟨i :: w, ⟨q, eq, oq, cq, hw⟩, by rw [rnk_cons eq, hr]; exact hb⟩
def num (rs : List Road) (g a : Int) (x : Nat × List Nat) : Int := tot rs g a x.1 + rnk rs g x.1 a x.2
theorem num_ex {rs : List Road} {g a : Int} (h1 : ∀ q ∈ rs, 1 ≤ q.cost) (v : Int) (v0 : 0 ≤ v) : ∀ n : Nat, v < tot rs g a n → ∃ c w, c < n ∧ Wk rs g c a w ∧ num rs g a (c, w) = v
  | 0, h => by
    have : tot rs g a 0 = 0 := rfl
    omega
  | n + 1, h => by
    by_cases k : v < tot rs g a n
    · obtain ⟨c, w, h2, h3⟩ := num_ex h1 v v0 n k
      exact ⟨c, w, by omega, h3⟩
    · have h : v < tot rs g a n + cnt rs g n a := h
      obtain ⟨w, hw, hr⟩ := unrank (g := g) h1 n a (v - tot rs g a n) (by omega) (by omega)
      exact ⟨n, w, by omega, hw, by show tot rs g a n + rnk rs g n a w = v; omega⟩
theorem num_inj {rs : List Road} {g a : Int} (h1 : ∀ q ∈ rs, 1 ≤ q.cost) {x y : Nat × List Nat} (hx : Wk rs g x.1 a x.2) (hy : Wk rs g y.1 a y.2) (e : num rs g a x = num rs g a y) : x = y := by
  obtain ⟨a0, a1⟩ := rnk_lt h1 hx
  obtain ⟨b0, b1⟩ := rnk_lt h1 hy
  obtain ⟨e1, e2⟩ := tot_inj a0 a1 b0 b1 e
  obtain ⟨c, w⟩ := x
  obtain ⟨c', w'⟩ := y
  simp only at e1
  subst e1
  have e3 : w = w' := rnk_inj h1 hx hy e2
  rw [e3]
abbrev cI (w : List Nat) : List Int := w.map fun (n : Nat) => (n : Int)
theorem rnk_lex {rs : List Road} {g : Int} (h1 : ∀ q ∈ rs, 1 ≤ q.cost) : ∀ {w w' : List Nat} {c : Nat} {a : Int}, Wk rs g c a w → Wk rs g c a w' → rnk rs g c a w < rnk rs g c a w' → cI w < cI w'
  | [], [], _, _, _, _, h => absurd h (Int.lt_irrefl _)
  | [], i :: w', c, a, ⟨h2, _⟩, ⟨q, e, _, h3, _⟩, _ => by
    have := h1 q (List.mem_of_getElem? e)
    omega
  | i :: w', [], c, a, ⟨q, e, _, h2, _⟩, ⟨h3, _⟩, _ => by
    have := h1 q (List.mem_of_getElem? e)
    omega
  | i :: w, j :: w', c, a, ⟨q, e, p1, p2, p3⟩, ⟨q', e', p1', p2', p3'⟩, er => by
    obtain ⟨k0, k1⟩ := rnk_lt h1 p3
    obtain ⟨k0', k1'⟩ := rnk_lt h1 p3'
    rw [rnk_cons e, rnk_cons e'] at er
    have hm : (i, cnt rs g (c - q.cost.toNat) q.other) ∈ steps rs g a c := by
      have := stp_has (rs0 := rs) (g := g) p1 p2 (i := 0) e
      rw [Nat.zero_add] at this
      exact this
    have hm' : (j, cnt rs g (c - q'.cost.toNat) q'.other) ∈ steps rs g a c := by
      have := stp_has (rs0 := rs) (g := g) p1' p2' (i := 0) e'
      rw [Nat.zero_add] at this
      exact this
    obtain ⟨_, _, b3⟩ := below_lt (l := steps rs g a c) (stp_ris rs g a c 0 rs) hm
    obtain ⟨_, _, b3'⟩ := below_lt (l := steps rs g a c) (stp_ris rs g a c 0 rs) hm'
    show ((i : Int) :: cI w) < ((j : Int) :: cI w')
    rw [List.cons_lt_cons_iff]
    rcases Nat.lt_trichotomy i j with z | z | z
    · exact .inl (by omega)
    · subst z
      rw [e] at e'
      cases e'
      exact .inr ⟨rfl, rnk_lex h1 p3 p3' (by omega)⟩
    · have := b3' i z
      omega
def wayD (w : List Nat) : PyData := .tuple ((cI w).map PyData.int)
def pairD (x : Nat × List Nat) : PyData := .tuple [.int (x.1 : Int), wayD x.2]
theorem eqv_ways : ∀ w w' : List Int, PyData.eqvAll (w.map PyData.int) (w'.map PyData.int) = true → w = w'
  | [], [], _ => rfl
  | [], _ :: _, h => by simp [PyData.eqvAll] at h
  | _ :: _, [], h => by simp [PyData.eqvAll] at h
  | x :: w, y :: w', h => by
    simp only [List.map_cons, PyData.eqvAll, Bool.and_eq_true] at h
    rw [eqv_int] at h
    rw [of_decide_eq_true h.1, eqv_ways w w' h.2]
theorem num_lt {rs : List Road} {g a : Int} (h1 : ∀ q ∈ rs, 1 ≤ q.cost) {x y : Nat × List Nat} (hx : Wk rs g x.1 a x.2) (hy : Wk rs g y.1 a y.2) (h : num rs g a x < num rs g a y) : dataLt (pairD x) (pairD y) = true := by
  obtain ⟨a0, a1⟩ := rnk_lt h1 hx
  obtain ⟨b0, b1⟩ := rnk_lt h1 hy
  unfold num at h
  unfold pairD
  rw [dataLt_pair (by simp [alike]) (by unfold wayD; simp only [alike]; exact alike_ints _ _), eqv_int, dataLt_int]
  rcases Nat.lt_trichotomy x.1 y.1 with z | z | z
  · rw [if_neg (by rw [decide_eq_true_eq]; omega)]
    exact decide_eq_true (by omega)
  · rw [if_pos (decide_eq_true (by rw [z]))]
    rw [z] at h
    have hl := rnk_lex h1 (by rw [← z]; exact hx) hy (by omega)
    rw [if_neg (fun e => by
      unfold wayD at e
      simp only [PyData.eqv] at e
      rw [eqv_ways _ _ e] at hl
      exact absurd hl (List.lt_irrefl _))]
    unfold wayD
    rw [dataLt_tuple]
    exact (dataLt_ints _ _).trans (decide_eq_true hl)
  · have := tot_mono rs g a (show y.1 + 1 ≤ x.1 from z)
    have : tot rs g a (y.1 + 1) = tot rs g a y.1 + cnt rs g y.1 a := rfl
    omega
theorem pos_of {l : List Int} (pw : l.Pairwise (· < ·)) (h0 : ∀ x ∈ l, 0 ≤ x) (hd : ∀ x ∈ l, ∀ v, 0 ≤ v → v < x → v ∈ l) (k : Nat) : ∀ x, l[k]? = some x → x = (k : Int) := by
  have lt : ∀ {i j : Nat} {x y : Int}, l[i]? = some x → l[j]? = some y → i < j → x < y := by
    intro i j x y ex ey hij
    have hi := (List.getElem?_eq_some_iff.mp ex)
    have hj := (List.getElem?_eq_some_iff.mp ey)
    have := List.pairwise_iff_getElem.mp pw i j hi.1 hj.1 hij
    rw [hi.2, hj.2] at this
    exact this
  induction k using Nat.strongRecOn with
  | ind k IH =>
    intro x e
    have hk := (List.getElem?_eq_some_iff.mp e).1
    have x0 := h0 x (List.mem_of_getElem? e)
    rcases Int.lt_trichotomy x (k : Int) with z | z | z
    · have hi : x.toNat < l.length := by omega
      have e1 := IH x.toNat (by omega) _ (List.getElem?_eq_getElem hi)
      have := lt (List.getElem?_eq_getElem hi) e (by omega)
      omega
    · exact z
    · obtain ⟨i, ei⟩ := List.getElem?_of_mem (hd x (List.mem_of_getElem? e) (k : Int) (by omega) z)
      rcases Nat.lt_trichotomy i k with y | y | y
      · have := IH i y _ ei
        omega
      · subst y
        rw [e] at ei
        cases ei
        rfl
      · have := lt e ei y
        omega
theorem sorted_num {rs : List Road} {g a : Int} (h1 : ∀ q ∈ rs, 1 ≤ q.cost) {m : Nat} {l : List (Nat × List Nat)} (hmem : ∀ x, x ∈ l ↔ (Wk rs g x.1 a x.2 ∧ x.1 ≤ m)) (nd : l.Nodup) (hs : l.Pairwise fun x y => dataLt (pairD y) (pairD x) = false) {k : Nat} {x : Nat × List Nat} (e : l[k]? = some x) : num rs g a x = (k : Int) := by
  have pw : (l.map (num rs g a)).Pairwise (· < ·) := by
    rw [List.pairwise_map]
    refine List.Pairwise.imp_of_mem (fun {x y} hx hy h => ?_) (hs.and nd)
    have wx := ((hmem x).mp hx).1
    have wy := ((hmem y).mp hy).1
    rcases Int.lt_trichotomy (num rs g a x) (num rs g a y) with z | z | z
    · exact z
    · exact absurd (num_inj h1 wx wy z) h.2
    · rw [num_lt h1 wy wx z] at h
      cases h.1
  refine pos_of pw ?_ ?_ k _ (by rw [List.getElem?_map, e]; rfl)
  · intro v hv
    obtain ⟨y, hy, rfl⟩ := List.mem_map.mp hv
    have := (rnk_lt h1 ((hmem y).mp hy).1).1
    have : 0 ≤ tot rs g a y.1 := tot_mono rs g a (Nat.zero_le _)
    unfold num
    omega
  · intro v hv u u0 u1
    obtain ⟨y, hy, rfl⟩ := List.mem_map.mp hv
    obtain ⟨wy, cy⟩ := (hmem y).mp hy
    have b1 := (rnk_lt h1 wy).2
    have : tot rs g a (y.1 + 1) = tot rs g a y.1 + cnt rs g y.1 a := rfl
    have := tot_mono rs g a (show y.1 + 1 ≤ m + 1 by omega)
    obtain ⟨c, w, hc, hw, he⟩ := num_ex (g := g) (a := a) h1 u u0 (m + 1) (by unfold num at u1; omega)
    exact List.mem_map.mpr ⟨(c, w), (hmem (c, w)).mpr ⟨hw, by show c ≤ m; omega⟩, he⟩
/-- those that end at g -/
def fin (g : Int) (l : List Nd) : List (Nat × List Nat) := (l.filter fun x => decide (x.pl = g)).map fun x => (x.c, x.w)
theorem fin_app (g : Int) (l m : List Nd) : fin g (l ++ m) = fin g l ++ fin g m := by
  unfold fin
  rw [List.filter_append, List.map_append]
theorem fin_mem {rs : List Road} {g a : Int} {m : Nat} (h1 : ∀ q ∈ rs, 1 ≤ q.cost) (x : Nat × List Nat) : x ∈ fin g (T rs m ⟨[], a, 0⟩) ↔ (Wk rs g x.1 a x.2 ∧ x.1 ≤ m) := by
  unfold fin
  rw [List.mem_map]
  constructor
  · rintro ⟨y, hy, rfl⟩
    obtain ⟨hy, hg⟩ := List.mem_filter.mp hy
    obtain ⟨v, c', e1, e2, e3, e4⟩ := (T_mem h1 m ⟨[], a, 0⟩ (Nat.sub_le _ _) (Nat.zero_le _) y).mp hy
    have hg := of_decide_eq_true hg
    simp only [List.nil_append, Nat.zero_add] at e1 e2
    rw [← e2, ← e1, hg] at e4
    exact ⟨e4, e3⟩
  · rintro ⟨hw, hc⟩
    refine ⟨⟨x.2, g, x.1⟩, List.mem_filter.mpr ⟨(T_mem h1 m ⟨[], a, 0⟩ (Nat.sub_le _ _) (Nat.zero_le _) _).mpr ⟨x.2, x.1, by simp, by simp, hc, hw⟩, decide_eq_true rfl⟩, rfl⟩
theorem fin_nodup {rs : List Road} {g a : Int} {m : Nat} (h1 : ∀ q ∈ rs, 1 ≤ q.cost) : (fin g (T rs m ⟨[], a, 0⟩)).Nodup := by
  have nd := T_nodup h1 m ⟨[], a, 0⟩ (Nat.sub_le _ _) (Nat.zero_le _)
  unfold fin List.Nodup
  rw [List.pairwise_map]
  refine List.Pairwise.imp_of_mem (fun {x y} hx hy h e => ?_) (List.Pairwise.filter _ nd)
  have gx := of_decide_eq_true (List.mem_filter.mp hx).2
  have gy := of_decide_eq_true (List.mem_filter.mp hy).2
  refine h ?_
  obtain ⟨xw, xp, xc⟩ := x
  obtain ⟨yw, yp, yc⟩ := y
  simp only [Prod.mk.injEq] at e gx gy
  rw [e.1, e.2, gx, gy]
theorem cnt_back (rs : List Road) (c : Nat) (g a : Int) : cnt rs g c a = (if c = 0 ∧ g = a then 1 else 0) + S rs fun q => if On q.rev g c then cnt rs q.one (c - q.cost.toNat) a else 0 := by
  rw [cnt_rev, cnt_eq, S_map]
  congr 1
  refine S_congr fun q _ => ?_
  by_cases h : On q.rev g c
  · rw [if_pos h, if_pos h, cnt_rev rs]
    rfl
  · rw [if_neg h, if_neg h]
end Wy

namespace Wy
open PySem PySem.W Dl
/-! ### fronts: of rows (cost, time, way) those that none beats -/
structure Rw where
  c : Int
  t : Int
  w : List Nat
def frow (r : Rw) : PyData := .tuple [.int r.c, .int r.t, wayD r.w]
theorem rowLt_nil : rowLt [] [] = false := dataLt_ints [] []
theorem alike_way (u v : List Nat) : alike (wayD u) (wayD v) = true := by
  unfold wayD
  simp only [alike]
  exact alike_ints _ _
theorem eqv_wayD (u v : List Nat) : PyData.eqv (wayD u) (wayD v) = decide (cI u = cI v) := by
  by_cases h : cI u = cI v
  · rw [decide_eq_true h]
    unfold wayD
    rw [h]
    simp only [PyData.eqv]
    induction cI v with
    | nil => simp [PyData.eqvAll]
    | cons n l ih =>
      have e : PyData.eqv (.int n) (.int n) = true := by
        rw [eqv_int]
        exact decide_eq_true rfl
      rw [List.map_cons]
      simp only [PyData.eqvAll, e, ih, Bool.and_self]
  · rw [decide_eq_false h]
    cases e : PyData.eqv (wayD u) (wayD v) with
    | false => rfl
    | true =>
      unfold wayD at e
      simp only [PyData.eqv] at e
      exact absurd (eqv_ways _ _ e) h
theorem lt_wayD (u v : List Nat) : dataLt (wayD u) (wayD v) = decide (cI u < cI v) := by
  unfold wayD
  rw [dataLt_tuple]
  exact dataLt_ints _ _
def RwLt (x y : Rw) : Prop := x.c < y.c ∨ (x.c = y.c ∧ (x.t < y.t ∨ (x.t = y.t ∧ cI x.w < cI y.w)))
theorem lt_rowD (x y : Rw) : dataLt (frow x) (frow y) = true ↔ RwLt x y := by
  have h0 := rowLt_nil
  unfold rowLt at h0
  unfold frow
  rw [dataLt_tuple, dataLt_cons (by simp [alike]), dataLt_cons (by simp [alike]), dataLt_cons (alike_way _ _), h0, eqv_int, eqv_int, eqv_wayD, dataLt_int, dataLt_int, lt_wayD]
  unfold RwLt
  by_cases h1 : x.c = y.c
  · rw [if_pos (decide_eq_true h1)]
    by_cases h2 : x.t = y.t
    · rw [if_pos (decide_eq_true h2)]
      by_cases h3 : cI x.w = cI y.w
      · rw [if_pos (decide_eq_true h3)]
        constructor
        · intro h
          cases h
        · rintro (h | ⟨_, h | ⟨_, h⟩⟩)
          · omega
          · omega
          · rw [h3] at h
            exact absurd h (List.lt_irrefl _)
      · rw [if_neg (by rw [decide_eq_true_eq]; exact h3), decide_eq_true_eq]
        exact ⟨fun h => .inr ⟨h1, .inr ⟨h2, h⟩⟩, fun h => by
          rcases h with h | ⟨_, h | ⟨_, h⟩⟩
          · omega
          · omega
          · exact h⟩
    · rw [if_neg (by rw [decide_eq_true_eq]; exact h2), decide_eq_true_eq]
      exact ⟨fun h => .inr ⟨h1, .inl h⟩, fun h => by
        rcases h with h | ⟨_, h | ⟨h, _⟩⟩
        · omega
        · exact h
        · exact absurd h h2⟩
  · rw [if_neg (by rw [decide_eq_true_eq]; exact h1), decide_eq_true_eq]
    exact ⟨fun h => .inl h, fun h => by
      rcases h with h | ⟨h, _⟩
      · exact h
      · exact absurd h h1⟩
/-- x is no worse than r -/
def Cov (x r : Rw) : Prop := x.c ≤ r.c ∧ x.t ≤ r.t ∧ (x.c = r.c → x.t = r.t → cI x.w ≤ cI r.w)
theorem Cov.refl (x : Rw) : Cov x x := ⟨Int.le_refl _, Int.le_refl _, fun _ _ => List.le_refl _⟩
theorem Cov.trans {x y z : Rw} (a : Cov x y) (b : Cov y z) : Cov x z := ⟨Int.le_trans a.1 b.1, Int.le_trans a.2.1 b.2.1, fun h1 h2 => by
  have := a.1
  have := b.1
  have := a.2.1
  have := b.2.1
  exact List.le_trans (a.2.2 (by omega) (by omega)) (b.2.2 (by omega) (by omega))⟩
theorem cI_inj : ∀ {u v : List Nat}, cI u = cI v → u = v
  | [], [], _ => rfl
  | [], _ :: _, h => by cases h
  | _ :: _, [], h => by cases h
  | x :: u, y :: v, h => by
    injection h with h1 h2
    have h1 : (x : Int) = (y : Int) := h1
    rw [cI_inj (u := u) (v := v) h2, show x = y from by omega]
def Rises (F : List Rw) : Prop := F.Pairwise fun x y => x.c < y.c ∧ y.t < x.t
theorem Rises.one {F : List Rw} (h : Rises F) {x y : Rw} (hx : x ∈ F) (hy : y ∈ F) (h1 : x.c ≤ y.c) (h2 : x.t ≤ y.t) : x = y := by
  induction F with
  | nil => cases hx
  | cons z F ih =>
    obtain ⟨hz, hF⟩ := List.pairwise_cons.mp h
    rcases List.mem_cons.mp hx with ex | hx2
    · rcases List.mem_cons.mp hy with ey | hy2
      · rw [ex, ey]
      · have := hz y hy2
        rw [← ex] at this
        omega
    · rcases List.mem_cons.mp hy with ey | hy2
      · have := hz x hx2
        rw [← ey] at this
        omega
      · exact ih hF hx2 hy2
theorem rises_ext : ∀ {F G : List Rw}, Rises F → Rises G → (∀ x, x ∈ F ↔ x ∈ G) → F = G
  | [], [], _, _, _ => rfl
  | [], y :: G, _, _, h => by
    have := (h y).mpr List.mem_cons_self
    cases this
  | x :: F, [], _, _, h => by
    have := (h x).mp List.mem_cons_self
    cases this
  | x :: F, y :: G, hF, hG, h => by
    obtain ⟨hx, hF'⟩ := List.pairwise_cons.mp hF
    obtain ⟨hy, hG'⟩ := List.pairwise_cons.mp hG
    have e : x = y := by
      rcases List.mem_cons.mp ((h x).mp List.mem_cons_self) with e | e
      · exact e
      · rcases List.mem_cons.mp ((h y).mpr List.mem_cons_self) with e' | e'
        · exact e'.symm
        · have := hx y e'
          have := hy x e
          omega
    subst e
    congr 1
    refine rises_ext hF' hG' fun z => ⟨fun hz => ?_, fun hz => ?_⟩
    · rcases List.mem_cons.mp ((h z).mp (List.mem_cons_of_mem _ hz)) with e | e
      · subst e
        have := hx z hz
        omega
      · exact e
    · rcases List.mem_cons.mp ((h z).mpr (List.mem_cons_of_mem _ hz)) with e | e
      · subst e
        have := hy z hz
        omega
      · exact e
/-- F is the front of what P tells of -/
structure Frt (P : Rw → Prop) (F : List Rw) : Prop where
  sound : ∀ r ∈ F, P r
  mono : Rises F
  cover : ∀ r, P r → ∃ x ∈ F, Cov x r
theorem Frt.sub {P : Rw → Prop} {F G : List Rw} (hF : Frt P F) (hG : Frt P G) {x : Rw} (hx : x ∈ F) : x ∈ G := by
  obtain ⟨y, hy, cy⟩ := hG.cover x (hF.sound x hx)
  obtain ⟨z, hz, cz⟩ := hF.cover y (hG.sound y hy)
  have czx := cz.trans cy
  have e := hF.mono.one hz hx czx.1 czx.2.1
  subst e
  have e1 : y.c = z.c := by
    have := cy.1
    have := cz.1
    omega
  have e2 : y.t = z.t := by
    have := cy.2.1
    have := cz.2.1
    omega
  have e3 : y.w = z.w := cI_inj (List.le_antisymm (cy.2.2 e1 e2) (cz.2.2 e1.symm e2.symm))
  obtain ⟨yc, yt, yw⟩ := y
  obtain ⟨zc, zt, zw⟩ := z
  simp only at e1 e2 e3
  rw [← e1, ← e2, ← e3]
  exact hy
theorem Frt.uniq {P : Rw → Prop} {F G : List Rw} (hF : Frt P F) (hG : Frt P G) : F = G := rises_ext hF.mono hG.mono fun x => ⟨fun h => hF.sub hG h, fun h => hG.sub hF h⟩
theorem Frt.congr {P P' : Rw → Prop} {F : List Rw} (h : Frt P F) (e : ∀ r, P r ↔ P' r) : Frt P' F := ⟨fun r hr => (e r).mp (h.sound r hr), h.mono, fun r hr => h.cover r ((e r).mpr hr)⟩
/-- one more row, no less than all of them -/
theorem frt_first (r : Rw) : Frt (fun x => x ∈ [r]) [r] := ⟨fun x hx => hx, List.pairwise_singleton _ _, fun x hx => ⟨r, List.mem_cons_self, by rw [List.mem_singleton.mp hx]; exact Cov.refl _⟩⟩
theorem frt_nil {P : Rw → Prop} (h : ∀ r, ¬ P r) : Frt P [] := ⟨(fun r hr => nomatch hr), List.Pairwise.nil, fun r hr => absurd hr (h r)⟩
theorem le_of_not {x r : Rw} (h : ¬ RwLt r x) : x.c ≤ r.c ∧ (x.c = r.c → x.t ≤ r.t ∧ (x.t = r.t → cI x.w ≤ cI r.w)) := by
  unfold RwLt at h
  refine ⟨?_, fun e => ⟨?_, fun e2 => ?_⟩⟩
  · by_cases k : r.c < x.c
    · exact absurd (.inl k) h
    · omega
  · by_cases k : r.t < x.t
    · exact absurd (.inr ⟨e.symm, .inl k⟩) h
    · omega
  · by_cases k : cI r.w < cI x.w
    · exact absurd (.inr ⟨e.symm, .inr ⟨e2.symm, k⟩⟩) h
    · exact k
theorem frt_put {L init : List Rw} {y r : Rw} (h : Frt (fun x => x ∈ L) (init ++ [y])) (hs : ∀ x ∈ L, ¬ RwLt r x) (ht : r.t < y.t) : Frt (fun x => x ∈ L ++ [r]) (init ++ [y] ++ [r]) := by
  have low : ∀ x ∈ init ++ [y], y.t ≤ x.t := fun x hx => by
    rcases List.mem_append.mp hx with hx | hx
    · have := (List.pairwise_append.mp h.mono).2.2 x hx y List.mem_cons_self
      omega
    · rw [List.mem_singleton.mp hx]
      exact Int.le_refl _
  refine ⟨fun x hx => ?_, ?_, fun x hx => ?_⟩
  · rcases List.mem_append.mp hx with hx | hx
    · exact List.mem_append_left _ (h.sound x hx)
    · exact List.mem_append_right _ hx
  · refine List.pairwise_append.mpr ⟨h.mono, List.pairwise_singleton _ _, fun x hx z hz => ?_⟩
    rw [List.mem_singleton.mp hz]
    have l1 := low x hx
    obtain ⟨l2, l3⟩ := le_of_not (hs x (h.sound x hx))
    refine ⟨?_, by omega⟩
    by_cases e : x.c = r.c
    · have := (l3 e).1
      omega
    · omega
  · rcases List.mem_append.mp hx with hx | hx
    · obtain ⟨z, hz, cz⟩ := h.cover x hx
      exact ⟨z, List.mem_append_left _ hz, cz⟩
    · rw [List.mem_singleton.mp hx]
      exact ⟨r, List.mem_append_right _ List.mem_cons_self, Cov.refl _⟩
theorem frt_skip {L init : List Rw} {y r : Rw} (h : Frt (fun x => x ∈ L) (init ++ [y])) (hs : ∀ x ∈ L, ¬ RwLt r x) (ht : ¬ r.t < y.t) : Frt (fun x => x ∈ L ++ [r]) (init ++ [y]) := by
  refine ⟨fun x hx => List.mem_append_left _ (h.sound x hx), h.mono, fun x hx => ?_⟩
  rcases List.mem_append.mp hx with hx | hx
  · exact h.cover x hx
  · rw [List.mem_singleton.mp hx]
    have hy : y ∈ init ++ [y] := List.mem_append_right _ List.mem_cons_self
    obtain ⟨l2, l3⟩ := le_of_not (hs y (h.sound y hy))
    exact ⟨y, hy, l2, by omega, fun e1 e2 => (l3 e1).2 e2⟩
/-! ### ways -/
def Pa (rs : List Road) (g : Int) : Int → List Nat → Int → Int → Prop
  | a, [], c, t => a = g ∧ c = 0 ∧ t = 0
  | a, i :: w, c, t => ∃ q, rs[i]? = some q ∧ q.one = a ∧ Pa rs g q.other w (c - q.cost) (t - q.time)
/-- the places behind the first one -/
def plc (rs : List Road) : List Nat → List Int
  | [] => []
  | i :: w => match rs[i]? with
    | some q => q.other :: plc rs w
    | none => []
structure PP (rs : List Road) (g : Int) (k : Nat) (a : Int) (r : Rw) : Prop where
  pa : Pa rs g a r.w r.c r.t
  len : r.w.length ≤ k
def extR (i : Nat) (q : Road) (x : Rw) : Rw := ⟨q.cost + x.c, q.time + x.t, i :: x.w⟩
/-- what lies in a place's rows in a round -/
def InRow (rs : List Road) (F : Int → List Rw) (a : Int) (r : Rw) : Prop := r ∈ F a ∨ ∃ i q x, rs[i]? = some q ∧ q.one = a ∧ x ∈ F q.other ∧ r = extR i q x
theorem cons_le {i : Nat} {u v : List Nat} (h : cI u ≤ cI v) : cI (i :: u) ≤ cI (i :: v) := by
  show ¬ ((i : Int) :: cI v) < ((i : Int) :: cI u)
  rw [List.cons_lt_cons_iff]
  rintro (z | ⟨_, z⟩)
  · exact absurd z (Int.lt_irrefl _)
  · exact h z
theorem frt_round {p : Int} {rs : List Road} (ok : NetOk p rs) {g : Int} {k : Nat} {F : Int → List Rw} (hF : ∀ v, 0 ≤ v → v < p → Frt (PP rs g k v) (F v)) {a : Int} (a0 : 0 ≤ a) (a1 : a < p) {G : List Rw} (hG : Frt (InRow rs F a) G) : Frt (PP rs g (k + 1) a) G := by
  refine ⟨fun r hr => ?_, hG.mono, fun r hr => ?_⟩
  · rcases hG.sound r hr with h | ⟨i, q, x, e, eo, hx, rfl⟩
    · have := (hF a a0 a1).sound r h
      exact ⟨this.pa, Nat.le_succ_of_le this.len⟩
    · have o := ok.all q (List.mem_of_getElem? e)
      have := (hF q.other o.t1 (by have := o.t2; omega)).sound x hx
      refine ⟨⟨q, e, eo, ?_⟩, Nat.succ_le_succ this.len⟩
      show Pa rs g q.other x.w (q.cost + x.c - q.cost) (q.time + x.t - q.time)
      rw [show q.cost + x.c - q.cost = x.c from by omega, show q.time + x.t - q.time = x.t from by omega]
      exact this.pa
  · obtain ⟨c, t, w⟩ := r
    by_cases hl : w.length ≤ k
    · obtain ⟨x, hx, cx⟩ := (hF a a0 a1).cover ⟨c, t, w⟩ ⟨hr.pa, hl⟩
      obtain ⟨y, hy, cy⟩ := hG.cover x (.inl hx)
      exact ⟨y, hy, cy.trans cx⟩
    · cases w with
      | nil => exact absurd (Nat.zero_le _) hl
      | cons i w =>
        obtain ⟨q, e, eo, hp⟩ := hr.pa
        have o := ok.all q (List.mem_of_getElem? e)
        have hk := hr.len
        obtain ⟨x, hx, cx⟩ := (hF q.other o.t1 (by have := o.t2; omega)).cover ⟨c - q.cost, t - q.time, w⟩ ⟨hp, by have : (i :: w).length ≤ k + 1 := hk; rw [List.length_cons] at this; show w.length ≤ k; omega⟩
        obtain ⟨y, hy, cy⟩ := hG.cover (extR i q x) (.inr ⟨i, q, x, e, eo, hx, rfl⟩)
        refine ⟨y, hy, cy.trans ⟨?_, ?_, fun e1 e2 => ?_⟩⟩
        · have : x.c ≤ c - q.cost := cx.1
          show q.cost + x.c ≤ c
          omega
        · have : x.t ≤ t - q.time := cx.2.1
          show q.time + x.t ≤ t
          omega
        · have e1 : q.cost + x.c = c := e1
          have e2 : q.time + x.t = t := e2
          exact cons_le (cx.2.2 (by show x.c = c - q.cost; omega) (by show x.t = t - q.time; omega))
/-- a way that is at a place has a rest from there on -/
theorem pa_rest {rs : List Road} {g : Int} (hc : ∀ q ∈ rs, 1 ≤ q.cost ∧ 0 ≤ q.time) {b : Int} : ∀ {w : List Nat} {a c t : Int}, Pa rs g a w c t → b ∈ a :: plc rs w → ∃ w' c' t', Pa rs g b w' c' t' ∧ c' ≤ c ∧ t' ≤ t ∧ (∃ u, w = u ++ w') ∧ ∃ u, a :: plc rs w = u ++ (b :: plc rs w')
  | [], a, c, t, h, hb => by
    have e : b = a := List.mem_singleton.mp hb
    subst e
    exact ⟨[], c, t, h, Int.le_refl _, Int.le_refl _, ⟨[], rfl⟩, ⟨[], rfl⟩⟩
  | i :: w, a, c, t, h, hb => by
    rcases List.mem_cons.mp hb with e | hb
    · subst e
      exact ⟨i :: w, c, t, h, Int.le_refl _, Int.le_refl _, ⟨[], rfl⟩, ⟨[], rfl⟩⟩
    · obtain ⟨q, e, eo, hp⟩ := h
      have pe : plc rs (i :: w) = q.other :: plc rs w := by
        show (match rs[i]? with
          | some q => q.other :: plc rs w
          | none => []) = _
        rw [e]
      rw [pe] at hb
      obtain ⟨w', c', t', h1, h2, h3, ⟨u, h4⟩, ⟨u', h5⟩⟩ := pa_rest hc hp hb
      obtain ⟨q1, q2⟩ := hc q (List.mem_of_getElem? e)
      exact ⟨w', c', t', h1, by omega, by omega, ⟨i :: u, by rw [h4]; rfl⟩, ⟨a :: u', by rw [pe, h5]; rfl⟩⟩
def Smp (rs : List Road) (a : Int) (w : List Nat) : Prop := (a :: plc rs w).Nodup
theorem pa_simple {rs : List Road} {g : Int} (hc : ∀ q ∈ rs, 1 ≤ q.cost ∧ 0 ≤ q.time) : ∀ {w : List Nat} {a c t : Int}, Pa rs g a w c t → ∃ w' c' t', Pa rs g a w' c' t' ∧ Smp rs a w' ∧ c' ≤ c ∧ t' ≤ t ∧ (w' = w ∧ c' = c ∧ t' = t ∨ c' < c)
  | [], a, c, t, h => ⟨[], c, t, h, List.pairwise_singleton _ _, Int.le_refl _, Int.le_refl _, .inl ⟨rfl, rfl, rfl⟩⟩
  | i :: w, a, c, t, ⟨q, e, eo, hp⟩ => by
    obtain ⟨w', c', t', h1, h2, h3, h4, h5⟩ := pa_simple hc hp
    obtain ⟨q1, q2⟩ := hc q (List.mem_of_getElem? e)
    have pe : plc rs (i :: w') = q.other :: plc rs w' := by
      show (match rs[i]? with
        | some q => q.other :: plc rs w'
        | none => []) = _
      rw [e]
    by_cases hb : a ∈ q.other :: plc rs w'
    · obtain ⟨w2, c2, t2, k1, k2, k3, _, ⟨u, k5⟩⟩ := pa_rest hc h1 hb
      refine ⟨w2, c2, t2, k1, ?_, by omega, by omega, .inr (by omega)⟩
      unfold Smp at h2 ⊢
      rw [k5] at h2
      exact (List.pairwise_append.mp h2).2.1
    · refine ⟨i :: w', c' + q.cost, t' + q.time, ⟨q, e, eo, ?_⟩, ?_, by omega, by omega, ?_⟩
      · rw [Int.add_sub_cancel, Int.add_sub_cancel]
        exact h1
      · unfold Smp
        rw [pe]
        exact List.nodup_cons.mpr ⟨hb, h2⟩
      · rcases h5 with ⟨rfl, h6, h7⟩ | h6
        · exact .inl ⟨rfl, by omega, by omega⟩
        · exact .inr (by omega)
theorem nodup_le : ∀ (l : List Int) (n : Nat), l.Nodup → (∀ x ∈ l, 0 ≤ x ∧ x < (n : Int)) → l.length ≤ n
  | l, 0, _, h => by
    cases l with
    | nil => exact Nat.le_refl _
    | cons x l =>
      have := h x List.mem_cons_self
      omega
  | l, n + 1, nd, h => by
    have h1 := nodup_le (l.erase (n : Int)) n (nd.erase _) fun x hx => by
      have hm := (nd.mem_erase_iff (a := x)).mp hx
      have := h x hm.2
      have := hm.1
      omega
    by_cases hm : (n : Int) ∈ l
    · rw [List.length_erase_of_mem hm] at h1
      omega
    · rw [List.erase_of_not_mem hm] at h1
      omega
theorem plc_in {p : Int} {rs : List Road} (ok : NetOk p rs) : ∀ (w : List Nat), ∀ x ∈ plc rs w, 0 ≤ x ∧ x < p
  | [], x, h => nomatch h
  | i :: w, x, h => by
    have h : x ∈ (match rs[i]? with
      | some q => q.other :: plc rs w
      | none => []) := h
    cases e : rs[i]? with
    | none =>
      rw [e] at h
      cases h
    | some q =>
      rw [e] at h
      have o := ok.all q (List.mem_of_getElem? e)
      rcases List.mem_cons.mp h with rfl | h
      · have := o.t1
        have := o.t2
        exact ⟨o.t1, by omega⟩
      · exact plc_in ok w x h
theorem plc_len {rs : List Road} {g : Int} : ∀ {w : List Nat} {a c t : Int}, Pa rs g a w c t → (plc rs w).length = w.length
  | [], _, _, _, _ => rfl
  | i :: w, a, c, t, ⟨q, e, _, hp⟩ => by
    have pe : plc rs (i :: w) = q.other :: plc rs w := by
      show (match rs[i]? with
        | some q => q.other :: plc rs w
        | none => []) = _
      rw [e]
    rw [pe, List.length_cons, List.length_cons, plc_len hp]
theorem simple_len {p : Int} {rs : List Road} (ok : NetOk p rs) {g a c t : Int} (a0 : 0 ≤ a) (a1 : a < p) {w : List Nat} (h : Pa rs g a w c t) (hs : Smp rs a w) : (w.length : Int) ≤ p - 1 := by
  have := nodup_le (a :: plc rs w) p.toNat hs fun x hx => by
    rcases List.mem_cons.mp hx with rfl | hx
    · omega
    · have := plc_in ok w x hx
      omega
  rw [List.length_cons, plc_len h] at this
  omega
theorem net_ct {p : Int} {rs : List Road} (ok : NetOk p rs) : ∀ q ∈ rs, 1 ≤ q.cost ∧ 0 ≤ q.time := fun q hq => ⟨(ok.all q hq).c1, (ok.all q hq).m1⟩
/-- all ways; the simple ones among them -/
def PAll (rs : List Road) (g a : Int) (r : Rw) : Prop := Pa rs g a r.w r.c r.t
theorem frt_all {p : Int} {rs : List Road} (ok : NetOk p rs) {g a : Int} (a0 : 0 ≤ a) (a1 : a < p) {k : Nat} (hk : p - 1 ≤ (k : Int)) {F : List Rw} (h : Frt (PP rs g k a) F) : Frt (PAll rs g a) F := by
  refine ⟨fun r hr => (h.sound r hr).pa, h.mono, fun r hr => ?_⟩
  obtain ⟨w', c', t', h1, h2, h3, h4, h5⟩ := pa_simple (net_ct ok) hr
  have := simple_len ok a0 a1 h1 h2
  obtain ⟨x, hx, cx⟩ := h.cover ⟨c', t', w'⟩ ⟨h1, by show w'.length ≤ k; omega⟩
  refine ⟨x, hx, cx.trans ⟨h3, h4, fun e1 e2 => ?_⟩⟩
  rcases h5 with ⟨e, _⟩ | h5
  · show cI w' ≤ cI r.w
    rw [e]
    exact List.le_refl _
  · have e1 : c' = r.c := e1
    omega
theorem Frt.simple {p : Int} {rs : List Road} (ok : NetOk p rs) {g a : Int} {F : List Rw} (h : Frt (PAll rs g a) F) {r : Rw} (hr : r ∈ F) : Smp rs a r.w := by
  obtain ⟨w', c', t', h1, h2, h3, h4, h5⟩ := pa_simple (net_ct ok) (h.sound r hr)
  rcases h5 with ⟨e, _⟩ | h5
  · rw [← e]
    exact h2
  · obtain ⟨x, hx, cx⟩ := h.cover ⟨c', t', w'⟩ h1
    have l1 : x.c ≤ c' := cx.1
    have l2 : x.t ≤ t' := cx.2.1
    have e := h.mono.one hx hr (by omega) (by omega)
    rw [e] at l1
    omega
theorem frt_simple {p : Int} {rs : List Road} (ok : NetOk p rs) {g a : Int} {F : List Rw} (h : Frt (PAll rs g a) F) : Frt (fun r => PAll rs g a r ∧ Smp rs a r.w) F := ⟨fun r hr => ⟨h.sound r hr, h.simple ok hr⟩, h.mono, fun r hr => h.cover r hr.1⟩
theorem pa_zero {rs : List Road} {g a c t : Int} (h : PP rs g 0 a ⟨c, t, w⟩) : a = g ∧ c = 0 ∧ t = 0 ∧ w = [] := by
  have hl := h.len
  cases w with
  | nil =>
    obtain ⟨h1, h2, h3⟩ := h.pa
    exact ⟨h1, h2, h3, rfl⟩
  | cons i w => exact absurd hl (by show ¬ (i :: w).length ≤ 0; rw [List.length_cons]; omega)
theorem frt_start (rs : List Road) (g a : Int) : Frt (PP rs g 0 a) (if a = g then [⟨0, 0, []⟩] else []) := by
  by_cases h : a = g
  · rw [if_pos h]
    refine ⟨fun r hr => ?_, List.pairwise_singleton _ _, fun r hr => ?_⟩
    · rw [List.mem_singleton.mp hr]
      exact ⟨⟨h, rfl, rfl⟩, Nat.le_refl _⟩
    · obtain ⟨c, t, w⟩ := r
      obtain ⟨_, rfl, rfl, rfl⟩ := pa_zero hr
      exact ⟨_, List.mem_cons_self, Cov.refl _⟩
  · rw [if_neg h]
    exact frt_nil fun r hr => by
      obtain ⟨c, t, w⟩ := r
      exact h (pa_zero hr).1
end Wy

namespace Wy
open PySem PySem.W Dl
/-! ### the front that sorted rows make -/
def unbS (F : List Rw) (r : Rw) : List Rw := match F.getLast? with
  | none => [r]
  | some y => if r.t < y.t then F ++ [r] else F
def unb (L : List Rw) : List Rw := L.foldl unbS []
theorem unb_take {L : List Rw} {i : Nat} {r : Rw} (e : L[i]? = some r) : unb (L.take (i + 1)) = unbS (unb (L.take i)) r := by
  unfold unb
  rw [List.take_add_one, e]
  show List.foldl unbS [] (L.take i ++ [r]) = _
  rw [List.foldl_append]
  rfl
theorem unb_frt {L : List Rw} (hs : L.Pairwise fun x y => ¬ RwLt y x) : ∀ n : Nat, n ≤ L.length → Frt (fun x => x ∈ L.take n) (unb (L.take n)) ∧ (0 < n → unb (L.take n) ≠ [])
  | 0, _ => ⟨by
    rw [List.take_zero]
    exact frt_nil fun r hr => (nomatch hr), fun h => absurd h (Nat.lt_irrefl _)⟩
  | n + 1, h => by
    obtain ⟨ih, ne⟩ := unb_frt hs n (by omega)
    have e : L[n]? = some L[n] := List.getElem?_eq_getElem h
    have hr : ∀ x ∈ L.take n, ¬ RwLt L[n] x := fun x hx => by
      obtain ⟨j, hj⟩ := List.getElem?_of_mem hx
      have hjl := (List.getElem?_eq_some_iff.mp hj).1
      rw [List.length_take] at hjl
      rw [List.getElem?_take, if_pos (by omega)] at hj
      obtain ⟨hj2, ej⟩ := List.getElem?_eq_some_iff.mp hj
      rw [← ej]
      exact List.pairwise_iff_getElem.mp hs j n hj2 h (by omega)
    rw [unb_take e, List.take_add_one, e]
    generalize L[n] = r at hr
    show Frt (fun x => x ∈ L.take n ++ [r]) _ ∧ _
    unfold unbS
    cases el : (unb (L.take n)).getLast? with
    | none =>
      have z : unb (L.take n) = [] := List.getLast?_eq_none_iff.mp el
      have n0 : n = 0 := Nat.eq_zero_of_not_pos fun hp => ne hp z
      subst n0
      rw [List.take_zero, List.nil_append]
      exact ⟨frt_first r, fun _ z => nomatch z⟩
    | some y =>
      obtain ⟨init, ei⟩ := List.getLast?_eq_some_iff.mp el
      rw [ei] at ih ⊢
      dsimp only
      by_cases ht : r.t < y.t
      · rw [if_pos ht]
        exact ⟨frt_put ih hr ht, fun _ z => by simp at z⟩
      · rw [if_neg ht]
        exact ⟨frt_skip ih hr ht, fun _ z => by simp at z⟩
def sortR (L : List Rw) : List Rw := L.mergeSort (dataLe false frow)
theorem sortR_perm (L : List Rw) : (sortR L).Perm L := List.mergeSort_perm _ _
theorem sortR_pw (L : List Rw) : (sortR L).Pairwise fun x y => ¬ RwLt y x := by
  refine (sort_pairwise (sortLe_total _ false _) L).imp fun {x y} h k => ?_
  have h : (!dataLt (frow y) (frow x)) = true := h
  rw [(lt_rowD y x).mpr k] at h
  cases h
theorem sortR_frt (L : List Rw) : Frt (fun x => x ∈ L) (unb (sortR L)) := by
  have := (unb_frt (sortR_pw L) (sortR L).length (Nat.le_refl _)).1
  rw [List.take_length] at this
  exact this.congr fun r => (sortR_perm L).mem_iff
/-! ### the rounds -/
def exts (F : Int → List Rw) (a : Int) : Nat → List Road → List Rw
  | _, [] => []
  | i, q :: r => (if q.one = a then (F q.other).map (extR i q) else []) ++ exts F a (i + 1) r
theorem exts_snoc (F : Int → List Rw) (a : Int) (q : Road) : ∀ (i : Nat) (r : List Road), exts F a i (r ++ [q]) = exts F a i r ++ if q.one = a then (F q.other).map (extR (i + r.length) q) else []
  | i, [] => by
    show (if q.one = a then _ else []) ++ [] = [] ++ _
    rw [List.append_nil, List.nil_append]
    rfl
  | i, x :: r => by
    rw [List.cons_append]
    unfold exts
    rw [exts_snoc F a q (i + 1) r, List.length_cons, show i + 1 + r.length = i + (r.length + 1) from by omega, List.append_assoc]
theorem exts_mem {F : Int → List Rw} {a : Int} {x : Rw} : ∀ {i : Nat} {r : List Road}, x ∈ exts F a i r ↔ ∃ j q y, r[j]? = some q ∧ q.one = a ∧ y ∈ F q.other ∧ x = extR (i + j) q y
  | i, [] => ⟨(fun h => nomatch h), fun ⟨j, q, y, e, _⟩ => by simp at e⟩
  | i, q :: r => by
    unfold exts
    rw [List.mem_append, exts_mem (i := i + 1) (r := r)]
    constructor
    · rintro (h | ⟨j, q', y, e, h⟩)
      · by_cases k : q.one = a
        · rw [if_pos k] at h
          obtain ⟨y, hy, rfl⟩ := List.mem_map.mp h
          exact ⟨0, q, y, rfl, k, hy, rfl⟩
        · rw [if_neg k] at h
          cases h
      · exact ⟨j + 1, q', y, by simpa using e, by rw [show i + (j + 1) = i + 1 + j from by omega]; exact h⟩
    · rintro ⟨j, q', y, e, k, hy, rfl⟩
      cases j with
      | zero =>
        simp at e
        subst e
        left
        rw [if_pos k]
        exact List.mem_map.mpr ⟨y, hy, rfl⟩
      | succ j =>
        right
        exact ⟨j, q', y, by simpa using e, k, hy, by rw [show i + (j + 1) = i + 1 + j from by omega]⟩
def rowsOf (rs : List Road) (F : Int → List Rw) (a : Int) : List Rw := F a ++ exts F a 0 rs
theorem rowsOf_mem {rs : List Road} {F : Int → List Rw} {a : Int} {x : Rw} : x ∈ rowsOf rs F a ↔ InRow rs F a x := by
  unfold rowsOf
  rw [List.mem_append, exts_mem]
  constructor
  · rintro (h | ⟨j, q, y, e, k, hy, rfl⟩)
    · exact .inl h
    · exact .inr ⟨j, q, y, e, k, hy, by rw [Nat.zero_add]⟩
  · rintro (h | ⟨j, q, y, e, k, hy, rfl⟩)
    · exact .inl h
    · exact .inr ⟨j, q, y, e, k, hy, by rw [Nat.zero_add]⟩
def frontN (rs : List Road) (g : Int) : Nat → Int → List Rw
  | 0, a => if a = g then [⟨0, 0, []⟩] else []
  | k + 1, a => unb (sortR (rowsOf rs (frontN rs g k) a))
theorem frontN_frt {p : Int} {rs : List Road} (ok : NetOk p rs) (g : Int) : ∀ (k : Nat) (a : Int), 0 ≤ a → a < p → Frt (PP rs g k a) (frontN rs g k a)
  | 0, a, _, _ => frt_start rs g a
  | k + 1, a, a0, a1 => frt_round ok (fun v v0 v1 => frontN_frt ok g k v v0 v1) a0 a1 ((sortR_frt _).congr fun r => rowsOf_mem)
/-- the front of a place -/
def frontF (p : Int) (rs : List Road) (g a : Int) : List Rw := frontN rs g (p - 1).toNat a
theorem frontF_frt {p : Int} {rs : List Road} (ok : NetOk p rs) (g : Int) {a : Int} (a0 : 0 ≤ a) (a1 : a < p) : Frt (PAll rs g a) (frontF p rs g a) := frt_all ok a0 a1 (by omega) (frontN_frt ok g _ a a0 a1)
/-! ### how many -/
theorem rises_len : ∀ {F : List Rw} {lo hi : Int}, Rises F → (∀ x ∈ F, lo ≤ x.c ∧ x.c ≤ hi) → lo ≤ hi + 1 → (F.length : Int) ≤ hi - lo + 1
  | [], lo, hi, _, _, h => by
    show (0 : Int) ≤ _
    omega
  | x :: F, lo, hi, h, hb, _ => by
    obtain ⟨hx, hF⟩ := List.pairwise_cons.mp h
    have bx := hb x List.mem_cons_self
    have := rises_len (lo := x.c + 1) (hi := hi) hF (fun y hy => by
      have := hx y hy
      have := hb y (List.mem_cons_of_mem _ hy)
      omega) (by omega)
    rw [List.length_cons]
    omega
theorem pa_bound {p : Int} {rs : List Road} (ok : NetOk p rs) {g : Int} : ∀ {w : List Nat} {a c t : Int}, Pa rs g a w c t → 0 ≤ c ∧ c ≤ 99 * (w.length : Int) ∧ 0 ≤ t ∧ t ≤ 99 * (w.length : Int) ∧ ∀ n ∈ w, n < rs.length
  | [], a, c, t, ⟨_, h1, h2⟩ => by
    subst h1
    subst h2
    exact ⟨by omega, by simp, by omega, by simp, fun _ h => nomatch h⟩
  | i :: w, a, c, t, ⟨q, e, _, hp⟩ => by
    obtain ⟨h1, h2, h3, h4, h5⟩ := pa_bound ok hp
    have o := ok.all q (List.mem_of_getElem? e)
    have := o.c1
    have := o.c2
    have := o.m1
    have := o.m2
    rw [List.length_cons]
    refine ⟨by omega, by omega, by omega, by omega, fun n hn => ?_⟩
    rcases List.mem_cons.mp hn with rfl | hn
    · exact (List.getElem?_eq_some_iff.mp e).1
    · exact h5 n hn
structure RwOk (r : Rw) : Prop where
  c0 : 0 ≤ r.c
  c1 : r.c ≤ 1000
  t0 : 0 ≤ r.t
  t1 : r.t ≤ 1000
  len : r.w.length ≤ 10
  num : ∀ n ∈ r.w, n < 30
theorem pp_ok {p : Int} {rs : List Road} (ok : NetOk p rs) {g a : Int} {k : Nat} (hk : k ≤ 9) {r : Rw} (h : PP rs g k a r) : RwOk r := by
  obtain ⟨h1, h2, h3, h4, h5⟩ := pa_bound ok h.pa
  have := h.len
  have l30 := ok.len
  exact ⟨h1, by omega, h3, by omega, by omega, fun n hn => by have := h5 n hn; omega⟩
theorem frontN_ok {p : Int} {rs : List Road} (ok : NetOk p rs) {g a : Int} (a0 : 0 ≤ a) (a1 : a < p) {k : Nat} (hk : k ≤ 9) : (∀ r ∈ frontN rs g k a, RwOk r) ∧ (frontN rs g k a).length ≤ 1001 := by
  have F := frontN_frt ok g k a a0 a1
  have h := fun r hr => pp_ok ok hk (F.sound r hr)
  refine ⟨h, ?_⟩
  have := rises_len (lo := 0) (hi := 1000) F.mono (fun x hx => ⟨(h x hx).c0, (h x hx).c1⟩) (by omega)
  omega
theorem exts_len {F : Int → List Rw} {a : Int} {n : Nat} : ∀ {i : Nat} {r : List Road}, (∀ q ∈ r, (F q.other).length ≤ n) → (exts F a i r).length ≤ r.length * n
  | _, [], _ => Nat.zero_le _
  | i, q :: r, h => by
    have ih := exts_len (F := F) (a := a) (i := i + 1) (r := r) fun x hx => h x (List.mem_cons_of_mem _ hx)
    have h0 := h q List.mem_cons_self
    unfold exts
    rw [List.length_append, List.length_cons, Nat.succ_mul]
    split
    · rw [List.length_map]
      omega
    · rw [List.length_nil]
      omega
end Wy

namespace Wy
open PySem PySem.W Dl
/-! ### pairs, fences -/
abbrev Pr := Int × Int
def prD (x : Pr) : PyData := .tuple [.int x.1, .int x.2]
def isPr : PyData → Bool
  | .tuple [.int a, .int b] => decide (0 ≤ a) && decide (0 ≤ b)
  | _ => false
def toPr : PyData → Pr
  | .tuple [.int a, .int b] => (a, b)
  | _ => (0, 0)
theorem isPr_eq {d : PyData} (h : isPr d = true) : d = prD (toPr d) ∧ 0 ≤ (toPr d).1 ∧ 0 ≤ (toPr d).2 := by
  unfold isPr at h
  split at h
  · rw [Bool.and_eq_true] at h
    exact ⟨rfl, of_decide_eq_true h.1, of_decide_eq_true h.2⟩
  · cases h
theorem prs_eq : ∀ {xs : List PyData}, xs.all isPr = true → xs = (xs.map toPr).map prD
  | [], _ => rfl
  | x :: xs, h => by
    rw [List.all_cons, Bool.and_eq_true] at h
    rw [List.map_cons, List.map_cons, ← prs_eq h.2, ← (isPr_eq h.1).1]
theorem toPr_prD (x : Pr) : toPr (prD x) = x := rfl
theorem map_toPr (ps : List Pr) : (ps.map prD).map toPr = ps := by
  rw [List.map_map]
  exact List.map_id ps
theorem all_isPr {ps : List Pr} (h : ∀ x ∈ ps, 0 ≤ x.1 ∧ 0 ≤ x.2) : (ps.map prD).all isPr = true := by
  rw [List.all_eq_true]
  intro d hd
  obtain ⟨x, hx, rfl⟩ := List.mem_map.mp hd
  show (decide (0 ≤ x.1) && decide (0 ≤ x.2)) = true
  rw [decide_eq_true (h x hx).1, decide_eq_true (h x hx).2]
  rfl
def ltPr (x y : Pr) : Bool := decide (x.1 < y.1 ∨ (x.1 = y.1 ∧ x.2 < y.2))
theorem ltPr_trans {x y z : Pr} (h1 : ltPr x y = true) (h2 : ltPr y z = true) : ltPr x z = true := by
  have h1 := of_decide_eq_true h1
  have h2 := of_decide_eq_true h2
  exact decide_eq_true (by omega)
def risP (ps : List Pr) : Bool := (ps.zip (ps.drop 1)).all fun q => ltPr q.1 q.2
theorem risP_pw : ∀ {ps : List Pr}, risP ps = true → ps.Pairwise fun x y => ltPr x y = true
  | [], _ => .nil
  | [x], _ => List.pairwise_singleton _ _
  | x :: y :: r, h => by
    have h : (ltPr x y && risP (y :: r)) = true := h
    rw [Bool.and_eq_true] at h
    have ih := risP_pw (ps := y :: r) h.2
    refine List.pairwise_cons.mpr ⟨fun z hz => ?_, ih⟩
    rcases List.mem_cons.mp hz with rfl | hz
    · exact h.1
    · exact ltPr_trans h.1 ((List.pairwise_cons.mp ih).1 z hz)
theorem risP_of : ∀ {ps : List Pr}, ps.Pairwise (fun x y => ltPr x y = true) → risP ps = true
  | [], _ => rfl
  | [x], _ => rfl
  | x :: y :: r, h => by
    obtain ⟨h1, h2⟩ := List.pairwise_cons.mp h
    show (ltPr x y && risP (y :: r)) = true
    rw [h1 y List.mem_cons_self, risP_of h2]
    rfl
theorem pw_fst {ps : List Pr} (h : ps.Pairwise fun x y => ltPr x y = true) : ps.Pairwise fun x y => x.1 ≤ y.1 := h.imp fun {x y} k => by
  have := of_decide_eq_true k
  omega
def rpB : PyData → Bool
  | .tuple xs => xs.all isPr && risP (xs.map toPr)
  | _ => false
def prsOf : PyData → List Pr
  | .tuple xs => xs.map toPr
  | _ => []
theorem rpB_eq {d : PyData} (h : rpB d = true) : d = .tuple ((prsOf d).map prD) ∧ (prsOf d).Pairwise (fun x y => ltPr x y = true) ∧ ∀ x ∈ prsOf d, 0 ≤ x.1 ∧ 0 ≤ x.2 := by
  unfold rpB at h
  split at h
  · rename_i xs
    rw [Bool.and_eq_true] at h
    refine ⟨?_, risP_pw h.2, fun x hx => ?_⟩
    · show PyData.tuple xs = .tuple ((xs.map toPr).map prD)
      rw [← prs_eq h.1]
    · obtain ⟨d, hd, rfl⟩ := List.mem_map.mp (show x ∈ xs.map toPr from hx)
      exact (isPr_eq (List.all_eq_true.mp h.1 d hd)).2
  · cases h
theorem rpB_of {ps : List Pr} (h0 : ∀ x ∈ ps, 0 ≤ x.1 ∧ 0 ≤ x.2) (h1 : ps.Pairwise fun x y => ltPr x y = true) : rpB (.tuple (ps.map prD)) = true := by
  show ((ps.map prD).all isPr && risP ((ps.map prD).map toPr)) = true
  rw [all_isPr h0, map_toPr, risP_of h1]
  rfl
def insB (ps : List Pr) (c t : Int) (os : List Pr) : Bool := ps.all fun x => os.any fun o => decide (o.1 ≤ x.1 + c) && decide (o.2 ≤ x.2 + t)
def fenB (p : Int) (rs : List Road) (a : Int) : PyData → Bool
  | .tuple xs => decide ((xs.length : Int) = p) && (xs.all rpB && ((prsOf (xs.getD a.toNat .none)).contains ((0 : Int), (0 : Int)) && rs.all fun q => insB (prsOf (xs.getD q.one.toNat .none)) q.cost q.time (prsOf (xs.getD q.other.toNat .none))))
  | _ => false
/-! ### the least time -/
def minS (m : Option Int) (o : Pr) : Option Int := some (match m with
  | none => o.2
  | some x => if o.2 < x then o.2 else x)
def minT (os : List Pr) : Option Int := os.foldl minS none
theorem minT_take {os : List Pr} {k : Nat} {o : Pr} (e : os[k]? = some o) : minT (os.take (k + 1)) = minS (minT (os.take k)) o := by
  unfold minT
  rw [List.take_add_one, e]
  show List.foldl minS none (os.take k ++ [o]) = _
  rw [List.foldl_append]
  rfl
theorem minT_spec (s : Int) : ∀ os : List Pr, (match minT os with
  | none => true
  | some m => decide (m > s)) = !(os.any fun o => decide (o.2 ≤ s)) := by
  have key : ∀ (os : List Pr) (m : Option Int), (match os.foldl minS m with
    | none => true
    | some m => decide (m > s)) = ((match m with
    | none => true
    | some m => decide (m > s)) && !(os.any fun o => decide (o.2 ≤ s))) := by
    intro os
    induction os with
    | nil => intro m; simp
    | cons o os ih =>
      intro m
      rw [List.foldl_cons, ih, List.any_cons]
      have e : (match minS m o with
        | none => true
        | some m => decide (m > s)) = ((match m with
        | none => true
        | some m => decide (m > s)) && !decide (o.2 ≤ s)) := by
        unfold minS
        cases m with
        | none =>
          dsimp only
          by_cases h : o.2 ≤ s
          · rw [decide_eq_true h, decide_eq_false (by omega)]
            rfl
          · rw [decide_eq_false h, decide_eq_true (by omega)]
            rfl
        | some x =>
          dsimp only
          by_cases h : o.2 ≤ s
          · rw [decide_eq_true h, decide_eq_false (by split <;> omega)]
            simp
          · rw [decide_eq_false h]
            by_cases k : x > s
            · rw [decide_eq_true k, decide_eq_true (by split <;> omega)]
              rfl
            · rw [decide_eq_false k, decide_eq_false (by split <;> omega)]
              rfl
      rw [e, Bool.not_or, Bool.and_assoc]
  intro os
  have := key os none
  rw [Bool.true_and] at this
  exact this
/-! ### the front's pairs -/
def prOf (r : Rw) : Pr := (r.c, r.t)
/-- pairs: the front of what P tells of -/
structure PFr (P : Int → Int → Prop) (F : List Pr) : Prop where
  sound : ∀ x ∈ F, P x.1 x.2
  mono : F.Pairwise fun x y => x.1 < y.1 ∧ y.2 < x.2
  cover : ∀ c t, P c t → ∃ x ∈ F, x.1 ≤ c ∧ x.2 ≤ t
theorem PFr.one {F : List Pr} (h : F.Pairwise fun x y => x.1 < y.1 ∧ y.2 < x.2) {x y : Pr} (hx : x ∈ F) (hy : y ∈ F) (h1 : x.1 ≤ y.1) (h2 : x.2 ≤ y.2) : x = y := by
  induction F with
  | nil => cases hx
  | cons z F ih =>
    obtain ⟨hz, hF⟩ := List.pairwise_cons.mp h
    rcases List.mem_cons.mp hx with ex | hx2
    · rcases List.mem_cons.mp hy with ey | hy2
      · rw [ex, ey]
      · have := hz y hy2
        rw [← ex] at this
        omega
    · rcases List.mem_cons.mp hy with ey | hy2
      · have := hz x hx2
        rw [← ey] at this
        omega
      · exact ih hF hx2 hy2
theorem pfr_ext : ∀ {F G : List Pr}, (F.Pairwise fun x y => x.1 < y.1 ∧ y.2 < x.2) → (G.Pairwise fun x y => x.1 < y.1 ∧ y.2 < x.2) → (∀ x, x ∈ F ↔ x ∈ G) → F = G
  | [], [], _, _, _ => rfl
  | [], y :: G, _, _, h => by
    have := (h y).mpr List.mem_cons_self
    cases this
  | x :: F, [], _, _, h => by
    have := (h x).mp List.mem_cons_self
    cases this
  | x :: F, y :: G, hF, hG, h => by
    obtain ⟨hx, hF'⟩ := List.pairwise_cons.mp hF
    obtain ⟨hy, hG'⟩ := List.pairwise_cons.mp hG
    have e : x = y := by
      rcases List.mem_cons.mp ((h x).mp List.mem_cons_self) with e | e
      · exact e
      · rcases List.mem_cons.mp ((h y).mpr List.mem_cons_self) with e' | e'
        · exact e'.symm
        · have := hx y e'
          have := hy x e
          omega
    subst e
    congr 1
    refine pfr_ext hF' hG' fun z => ⟨fun hz => ?_, fun hz => ?_⟩
    · rcases List.mem_cons.mp ((h z).mp (List.mem_cons_of_mem _ hz)) with e | e
      · subst e
        have := hx z hz
        omega
      · exact e
    · rcases List.mem_cons.mp ((h z).mpr (List.mem_cons_of_mem _ hz)) with e | e
      · subst e
        have := hy z hz
        omega
      · exact e
theorem PFr.sub {P : Int → Int → Prop} {F G : List Pr} (hF : PFr P F) (hG : PFr P G) {x : Pr} (hx : x ∈ F) : x ∈ G := by
  obtain ⟨y, hy, y1, y2⟩ := hG.cover _ _ (hF.sound x hx)
  obtain ⟨z, hz, z1, z2⟩ := hF.cover _ _ (hG.sound y hy)
  have e := PFr.one hF.mono hz hx (by omega) (by omega)
  subst e
  have e1 : y.1 = z.1 := by omega
  have e2 : y.2 = z.2 := by omega
  rw [← Prod.ext (x := y) (y := z) e1 e2]
  exact hy
theorem PFr.uniq {P : Int → Int → Prop} {F G : List Pr} (hF : PFr P F) (hG : PFr P G) : F = G := pfr_ext hF.mono hG.mono fun x => ⟨fun h => hF.sub hG h, fun h => hG.sub hF h⟩
theorem PFr.congr {P P' : Int → Int → Prop} {F : List Pr} (h : PFr P F) (e : ∀ c t, P c t ↔ P' c t) : PFr P' F := ⟨fun x hx => (e _ _).mp (h.sound x hx), h.mono, fun c t hp => h.cover c t ((e c t).mpr hp)⟩
/-- there is a way of this cost and time -/
def PW (rs : List Road) (g a : Int) (c t : Int) : Prop := ∃ w, Pa rs g a w c t
theorem pfr_of {rs : List Road} {g a : Int} {F : List Rw} (h : Frt (PAll rs g a) F) : PFr (PW rs g a) (F.map prOf) := by
  refine ⟨fun x hx => ?_, ?_, fun c t ⟨w, hw⟩ => ?_⟩
  · obtain ⟨r, hr, rfl⟩ := List.mem_map.mp hx
    exact ⟨r.w, h.sound r hr⟩
  · rw [List.pairwise_map]
    exact h.mono
  · obtain ⟨x, hx, cx⟩ := h.cover ⟨c, t, w⟩ hw
    exact ⟨prOf x, List.mem_map.mpr ⟨x, hx, rfl⟩, cx.1, cx.2.1⟩
theorem PFr.lt {P : Int → Int → Prop} {F : List Pr} (h : PFr P F) : F.Pairwise fun x y => ltPr x y = true := h.mono.imp fun {x y} k => decide_eq_true (.inl k.1)
/-! ### the other way about -/
theorem pa_snoc {rs : List Road} {g b : Int} {i : Nat} {q : Road} (e : rs[i]? = some q) (eo : q.one = b) (eg : q.other = g) : ∀ {w : List Nat} {a c t : Int}, Pa rs b a w c t → Pa rs g a (w ++ [i]) (c + q.cost) (t + q.time)
  | [], a, c, t, ⟨h1, h2, h3⟩ => ⟨q, e, by omega, eg, by show c + q.cost - q.cost = 0; omega, by show t + q.time - q.time = 0; omega⟩
  | j :: w, a, c, t, ⟨q', e', o', hp⟩ => by
    refine ⟨q', e', o', ?_⟩
    have := pa_snoc e eo eg hp
    rw [show c + q.cost - q'.cost = c - q'.cost + q.cost from by omega, show t + q.time - q'.time = t - q'.time + q.time from by omega]
    exact this
theorem pa_rev {rs : List Road} : ∀ {w : List Nat} {g a c t : Int}, Pa rs g a w c t → Pa (rs.map Dl.Road.rev) a g w.reverse c t
  | [], g, a, c, t, ⟨h1, h2, h3⟩ => ⟨h1.symm, h2, h3⟩
  | i :: w, g, a, c, t, ⟨q, e, o, hp⟩ => by
    have ih := pa_rev hp
    rw [List.reverse_cons]
    have := pa_snoc (rs := rs.map Dl.Road.rev) (i := i) (q := q.rev) (g := a) (b := q.other) (by rw [List.getElem?_map, e]; rfl) rfl o ih
    rw [show c - q.cost + q.rev.cost = c from by show c - q.cost + q.cost = c; omega, show t - q.time + q.rev.time = t from by show t - q.time + q.time = t; omega] at this
    exact this
theorem rev_rev (rs : List Road) : (rs.map Dl.Road.rev).map Dl.Road.rev = rs := by
  rw [List.map_map]
  exact List.map_id rs
theorem pw_rev (rs : List Road) (g a c t : Int) : PW (rs.map Dl.Road.rev) g a c t ↔ PW rs a g c t := by
  constructor
  · rintro ⟨w, h⟩
    have := pa_rev h
    rw [rev_rev] at this
    exact ⟨_, this⟩
  · rintro ⟨w, h⟩
    exact ⟨_, pa_rev h⟩
theorem rev_ok {p : Int} {rs : List Road} (ok : NetOk p rs) : NetOk p (rs.map Dl.Road.rev) := by
  refine ⟨ok.p1, ok.p2, by rw [List.length_map]; exact ok.len, fun q hq => ?_⟩
  obtain ⟨r, hr, rfl⟩ := List.mem_map.mp hq
  have o := ok.all r hr
  exact ⟨o.t1, o.t2, o.o1, o.o2, fun h => o.ne h.symm, o.c1, o.c2, o.m1, o.m2⟩
/-- the fence of a start: its pairs at a place -/
def fnP (p : Int) (rs : List Road) (s v : Int) : List Pr := (frontF p (rs.map Dl.Road.rev) s v).map prOf
theorem fnP_fr {p : Int} {rs : List Road} (ok : NetOk p rs) (s : Int) {v : Int} (v0 : 0 ≤ v) (v1 : v < p) : PFr (PW rs v s) (fnP p rs s v) := (pfr_of (frontF_frt (rev_ok ok) s v0 v1)).congr fun c t => pw_rev rs s v c t
def fnD (p : Int) (rs : List Road) (s : Int) : PyData := .tuple ((List.range p.toNat).map fun (v : Nat) => .tuple ((fnP p rs s (v : Int)).map prD))
theorem pw_pos {p : Int} {rs : List Road} (ok : NetOk p rs) {g a c t : Int} (h : PW rs g a c t) : 0 ≤ c ∧ 0 ≤ t := by
  obtain ⟨w, h⟩ := h
  obtain ⟨h1, _, h2, _⟩ := pa_bound ok h
  exact ⟨h1, h2⟩
theorem getD_range {α : Type} (f : Nat → α) (d : α) {n j : Nat} (h : j < n) : ((List.range n).map f).getD j d = f j := by
  rw [List.getD_eq_getElem?_getD, List.getElem?_map, List.getElem?_range h]
  rfl
theorem fence_holds {p : Int} {rs : List Road} (ok : NetOk p rs) {s : Int} (s0 : 0 ≤ s) (s1 : s < p) : fenB p rs s (fnD p rs s) = true := by
  have p1 := ok.p1
  have at_ : ∀ v : Int, 0 ≤ v → v < p → prsOf (((List.range p.toNat).map fun (v : Nat) => PyData.tuple ((fnP p rs s (v : Int)).map prD)).getD v.toNat .none) = fnP p rs s v := fun v v0 v1 => by
    rw [getD_range _ _ (show v.toNat < p.toNat by omega), show ((v.toNat : Nat) : Int) = v from by omega]
    exact map_toPr _
  unfold fnD
  show (decide ((((List.range p.toNat).map fun (v : Nat) => PyData.tuple ((fnP p rs s (v : Int)).map prD)).length : Int) = p) && (((List.range p.toNat).map fun (v : Nat) => PyData.tuple ((fnP p rs s (v : Int)).map prD)).all rpB && ((prsOf (((List.range p.toNat).map fun (v : Nat) => PyData.tuple ((fnP p rs s (v : Int)).map prD)).getD s.toNat .none)).contains ((0 : Int), (0 : Int)) && rs.all fun q => insB (prsOf (((List.range p.toNat).map fun (v : Nat) => PyData.tuple ((fnP p rs s (v : Int)).map prD)).getD q.one.toNat .none)) q.cost q.time (prsOf (((List.range p.toNat).map fun (v : Nat) => PyData.tuple ((fnP p rs s (v : Int)).map prD)).getD q.other.toNat .none))))) = true
  rw [List.length_map, List.length_range, decide_eq_true (show ((p.toNat : Nat) : Int) = p by omega), Bool.true_and]
  have h1 : ((List.range p.toNat).map fun (v : Nat) => PyData.tuple ((fnP p rs s (v : Int)).map prD)).all rpB = true := by
    rw [List.all_eq_true]
    intro d hd
    obtain ⟨v, hv, rfl⟩ := List.mem_map.mp hd
    have := List.mem_range.mp hv
    have F := fnP_fr ok s (v := (v : Int)) (by omega) (by omega)
    exact rpB_of (fun x hx => pw_pos ok (F.sound x hx)) F.lt
  rw [h1, Bool.true_and, at_ s s0 s1]
  have F := fnP_fr ok s s0 s1
  have h2 : (fnP p rs s s).contains ((0 : Int), (0 : Int)) = true := by
    obtain ⟨x, hx, x1, x2⟩ := F.cover 0 0 ⟨[], rfl, rfl, rfl⟩
    have := pw_pos ok (F.sound x hx)
    rw [List.contains_iff_mem, ← Prod.ext (x := x) (y := ((0 : Int), (0 : Int))) (by show x.1 = 0; omega) (by show x.2 = 0; omega)]
    exact hx
  rw [h2, Bool.true_and, List.all_eq_true]
  intro q hq
  have o := ok.all q hq
  have o2 := o.o2
  have t2 := o.t2
  rw [at_ q.one o.o1 (by omega), at_ q.other o.t1 (by omega)]
  unfold insB
  rw [List.all_eq_true]
  intro x hx
  obtain ⟨w, hw⟩ := (fnP_fr ok s o.o1 (by omega)).sound x hx
  obtain ⟨i, hi⟩ := List.getElem?_of_mem hq
  obtain ⟨y, hy, y1, y2⟩ := (fnP_fr ok s o.t1 (by omega)).cover _ _ ⟨_, pa_snoc hi rfl rfl hw⟩
  rw [List.any_eq_true]
  exact ⟨y, hy, by rw [decide_eq_true y1, decide_eq_true y2]; rfl⟩
end Wy

namespace Wy
open PySem PySem.W Dl
/-! ### the law's own pairs: the least of the rows, again and again -/
structure Tri where
  c : Int
  t : Int
  v : Int
deriving DecidableEq
def trD (x : Tri) : PyData := .tuple [.int x.c, .int x.t, .int x.v]
theorem trD_inj {x y : Tri} (h : trD x = trD y) : x = y := by
  unfold trD at h
  simp at h
  cases x
  cases y
  simp_all
theorem eqv_tr (x y : Tri) : PyData.eqv (trD x) (trD y) = decide (x = y) := by
  unfold trD
  simp only [PyData.eqv, PyData.eqvAll, Bool.and_true]
  cases x
  cases y
  simp only [Tri.mk.injEq]
  rw [Bool.decide_and, Bool.decide_and]
  rfl
/-- by cost, then by time -/
def LeK (x y : Tri) : Prop := x.c < y.c ∨ (x.c = y.c ∧ x.t ≤ y.t)
theorem LeK.refl (x : Tri) : LeK x x := .inr ⟨rfl, Int.le_refl _⟩
theorem LeK.trans {x y z : Tri} (h : LeK x y) (k : LeK y z) : LeK x z := by
  unfold LeK at *
  omega
theorem lt_tr (x y : Tri) : (dataLt (trD x) (trD y) = true → LeK x y) ∧ (dataLt (trD x) (trD y) = false → LeK y x) := by
  unfold trD
  have h0 := rowLt_nil
  unfold rowLt at h0
  rw [dataLt_tuple, dataLt_cons (by simp [alike]), dataLt_cons (by simp [alike]), dataLt_cons (by simp [alike]), h0, eqv_int, eqv_int, eqv_int, dataLt_int, dataLt_int, dataLt_int]
  unfold LeK
  by_cases h1 : x.c = y.c
  · by_cases h2 : x.t = y.t
    · simp [h1, h2]
    · simp only [h1, h2, decide_true, decide_false, if_true, if_false, Bool.false_eq_true, decide_eq_true_eq, decide_eq_false_iff_not]
      exact ⟨fun h => .inr ⟨trivial, by omega⟩, fun h => .inr ⟨trivial, by omega⟩⟩
  · simp only [h1, decide_false, if_false, Bool.false_eq_true, decide_eq_true_eq, decide_eq_false_iff_not]
    exact ⟨fun h => .inl h, fun h => by omega⟩
theorem min_tr : ∀ (ps : List Tri) (p : Tri), ∃ m, (m = p ∨ m ∈ ps) ∧ minD (trD p) (ps.map trD) = trD m ∧ LeK m p ∧ ∀ r ∈ ps, LeK m r
  | [], p => ⟨p, .inl rfl, rfl, .refl p, fun _ h => nomatch h⟩
  | r :: ps, p => by
    cases e : dataLt (trD r) (trD p) with
    | true =>
      obtain ⟨m, h1, h2, h3, h4⟩ := min_tr ps r
      refine ⟨m, ?_, ?_, h3.trans ((lt_tr r p).1 e), fun x hx => ?_⟩
      · rcases h1 with rfl | h1
        · exact .inr List.mem_cons_self
        · exact .inr (List.mem_cons_of_mem _ h1)
      · unfold minD at h2 ⊢
        rw [List.map_cons, List.foldl_cons, e, if_pos rfl]
        exact h2
      · rcases List.mem_cons.mp hx with rfl | hx
        · exact h3
        · exact h4 x hx
    | false =>
      obtain ⟨m, h1, h2, h3, h4⟩ := min_tr ps p
      refine ⟨m, ?_, ?_, h3, fun x hx => ?_⟩
      · rcases h1 with rfl | h1
        · exact .inl rfl
        · exact .inr (List.mem_cons_of_mem _ h1)
      · unfold minD at h2 ⊢
        rw [List.map_cons, List.foldl_cons, e, if_neg Bool.false_ne_true]
        exact h2
      · rcases List.mem_cons.mp hx with rfl | hx
        · exact h3.trans ((lt_tr x p).2 e)
        · exact h4 x hx
/-! ### what is found -/
/-- covered by the pairs -/
def CovP (F : List Pr) (c t : Int) : Prop := ∃ y ∈ F, y.1 ≤ c ∧ y.2 ≤ t
def covB (F : List Pr) (c t : Int) : Bool := F.any fun y => decide (y.1 ≤ c) && decide (y.2 ≤ t)
theorem covB_iff {F : List Pr} {c t : Int} : covB F c t = true ↔ CovP F c t := by
  unfold covB CovP
  rw [List.any_eq_true]
  simp only [Bool.and_eq_true, decide_eq_true_eq]
/-- a row by a road -/
def extT (q : Road) (m : Tri) : Tri := ⟨m.c + q.cost, m.t + q.time, q.other⟩
def extsT (m : Tri) (rs : List Road) : List Tri := (rs.filter fun q => decide (q.one = m.v)).map fun q => extT q m
theorem extsT_snoc (m : Tri) (rs : List Road) (q : Road) : extsT m (rs ++ [q]) = extsT m rs ++ if q.one = m.v then [extT q m] else [] := by
  unfold extsT
  rw [List.filter_append, List.map_append]
  by_cases h : q.one = m.v
  · rw [if_pos h, List.filter_cons_of_pos (by rw [decide_eq_true h])]
    rfl
  · rw [if_neg h, List.filter_cons_of_neg (by rw [decide_eq_false h]; exact Bool.false_ne_true)]
    rfl
structure Fnd (p : Int) (rs : List Road) (s : Int) (f : Nat → List Pr) (rows : List Tri) : Prop where
  snd : ∀ r ∈ rows, 0 ≤ r.v ∧ r.v < p ∧ PW rs r.v s r.c r.t
  sub : ∀ v : Nat, (v : Int) < p → ∀ x ∈ f v, x ∈ fnP p rs s v
  mono : ∀ v : Nat, (f v).Pairwise fun x y => x.1 < y.1 ∧ y.2 < x.2
  go : ∀ v : Nat, (v : Int) < p → ∀ x ∈ f v, ∀ q ∈ rs, q.one = (v : Int) → extT q ⟨x.1, x.2, v⟩ ∈ rows ∨ CovP (f q.other.toNat) (x.1 + q.cost) (x.2 + q.time)
  st : (⟨0, 0, s⟩ : Tri) ∈ rows ∨ CovP (f s.toNat) 0 0
  le : ∀ v : Nat, (v : Int) < p → ∀ x ∈ f v, ∀ r ∈ rows, LeK ⟨x.1, x.2, v⟩ r
/-- a way, from its end -/
theorem pa_last {rs : List Road} {g : Int} : ∀ {w : List Nat} {a c t : Int}, Pa rs g a w c t → (w = [] ∧ a = g ∧ c = 0 ∧ t = 0) ∨ ∃ w' i q, w = w' ++ [i] ∧ rs[i]? = some q ∧ q.other = g ∧ Pa rs q.one a w' (c - q.cost) (t - q.time)
  | [], a, c, t, ⟨h1, h2, h3⟩ => .inl ⟨rfl, h1, h2, h3⟩
  | i :: w, a, c, t, ⟨q, e, o, hp⟩ => by
    rcases pa_last hp with ⟨h1, h2, h3, h4⟩ | ⟨w', j, q', h1, h2, h3, h4⟩
    · exact .inr ⟨[], i, q, by rw [h1]; rfl, e, h2, o.symm, h3, h4⟩
    · refine .inr ⟨i :: w', j, q', by rw [h1]; rfl, h2, h3, q, e, o, ?_⟩
      rw [show c - q'.cost - q.cost = c - q.cost - q'.cost from by omega, show t - q'.time - q.time = t - q.time - q'.time from by omega]
      exact h4
/-- what comes ahead of all rows is covered -/
theorem Fnd.cov {p : Int} {rs : List Road} {s : Int} {f : Nat → List Pr} {rows : List Tri} (ok : NetOk p rs) (s0 : 0 ≤ s) (s1 : s < p) (h : Fnd p rs s f rows) : ∀ (n : Nat) {w : List Nat} {v c t : Int}, w.length = n → Pa rs v s w c t → (∀ r ∈ rows, ¬ LeK r ⟨c, t, v⟩) → CovP (f v.toNat) c t := by
  intro n
  induction n with
  | zero =>
    intro w v c t hn hp hr
    obtain rfl := List.eq_nil_of_length_eq_zero hn
    obtain ⟨h1, h2, h3⟩ := hp
    subst h1
    subst h2
    subst h3
    rcases h.st with h | h
    · exact absurd (LeK.refl _) (hr _ h)
    · exact h
  | succ n ih =>
    intro w v c t hn hp hr
    rcases pa_last hp with ⟨h1, _⟩ | ⟨w', i, q, h1, h2, h3, h4⟩
    · rw [h1] at hn
      cases hn
    · rw [h1, List.length_append, List.length_singleton] at hn
      have hq := List.mem_of_getElem? h2
      have o := ok.all q hq
      have c1 := o.c1
      have m1 := o.m1
      have o2 := o.o2
      have o1 := o.o1
      obtain ⟨y, hy, y1, y2⟩ := ih (by omega) h4 fun r hr' k => hr r hr' (k.trans (by unfold LeK; dsimp only; omega))
      rcases h.go q.one.toNat (by omega) y hy q hq (by omega) with k | ⟨z, hz, z1, z2⟩
      · refine absurd ?_ (hr _ k)
        unfold LeK extT
        dsimp only
        omega
      · rw [← h3]
        exact ⟨z, hz, by omega, by omega⟩
theorem Fnd.fin {p : Int} {rs : List Road} {s : Int} {f : Nat → List Pr} (ok : NetOk p rs) (s0 : 0 ≤ s) (s1 : s < p) (h : Fnd p rs s f []) {v : Nat} (v1 : (v : Int) < p) : f v = fnP p rs s v := by
  have F := fnP_fr ok s (v := (v : Int)) (by omega) v1
  refine PFr.uniq (P := PW rs v s) ⟨fun x hx => F.sound x (h.sub v v1 x hx), h.mono v, fun c t ⟨w, hw⟩ => ?_⟩ F
  obtain ⟨y, hy, y1, y2⟩ := h.cov ok s0 s1 w.length rfl hw fun r hr => nomatch hr
  exact ⟨y, hy, y1, y2⟩
theorem Fnd.start {p : Int} {rs : List Road} {s : Int} (s0 : 0 ≤ s) (s1 : s < p) : Fnd p rs s (fun _ => []) [⟨0, 0, s⟩] :=
  ⟨fun r hr => by
    rw [List.mem_singleton.mp hr]
    exact ⟨s0, s1, [], rfl, rfl, rfl⟩, (fun _ _ _ h => nomatch h), fun _ => .nil, (fun _ _ _ h => nomatch h), .inl (List.mem_singleton.mpr rfl), (fun _ _ _ h => nomatch h)⟩
/-- the least row is covered: it goes -/
theorem Fnd.drop {p : Int} {rs : List Road} {s : Int} {f : Nat → List Pr} {rows : List Tri} (h : Fnd p rs s f rows) {m : Tri} (hm : m ∈ rows) (hc : CovP (f m.v.toNat) m.c m.t) (s0 : 0 ≤ s) : Fnd p rs s f (rows.erase m) := by
  refine ⟨fun r hr => h.snd r (List.mem_of_mem_erase hr), h.sub, h.mono, fun v v1 x hx q hq ho => ?_, ?_, fun v v1 x hx r hr => h.le v v1 x hx r (List.mem_of_mem_erase hr)⟩
  · rcases h.go v v1 x hx q hq ho with k | k
    · by_cases e : extT q ⟨x.1, x.2, v⟩ = m
      · rw [← e] at hc
        exact .inr hc
      · exact .inl ((List.mem_erase_of_ne e).mpr k)
    · exact .inr k
  · rcases h.st with k | k
    · by_cases e : (⟨0, 0, s⟩ : Tri) = m
      · rw [← e] at hc
        exact .inr hc
      · exact .inl ((List.mem_erase_of_ne e).mpr k)
    · exact .inr k
/-- one more found -/
def updF (f : Nat → List Pr) (m : Tri) : Nat → List Pr := fun v => if v = m.v.toNat then f v ++ [(m.c, m.t)] else f v
theorem updF_at {f : Nat → List Pr} {m : Tri} : updF f m m.v.toNat = f m.v.toNat ++ [(m.c, m.t)] := if_pos rfl
theorem updF_ne {f : Nat → List Pr} {m : Tri} {v : Nat} (h : v ≠ m.v.toNat) : updF f m v = f v := if_neg h
theorem updF_sub {f : Nat → List Pr} {m : Tri} {v : Nat} {x : Pr} (h : x ∈ f v) : x ∈ updF f m v := by
  by_cases e : v = m.v.toNat
  · subst e
    rw [updF_at]
    exact List.mem_append_left _ h
  · rw [updF_ne e]
    exact h
theorem updF_mem {f : Nat → List Pr} {m : Tri} {v : Nat} {x : Pr} (h : x ∈ updF f m v) : x ∈ f v ∨ (v = m.v.toNat ∧ x = (m.c, m.t)) := by
  by_cases e : v = m.v.toNat
  · subst e
    rw [updF_at] at h
    rcases List.mem_append.mp h with h | h
    · exact .inl h
    · exact .inr ⟨rfl, List.mem_singleton.mp h⟩
  · rw [updF_ne e] at h
    exact .inl h
theorem CovP.up {f : Nat → List Pr} {m : Tri} {v : Nat} {c t : Int} (h : CovP (f v) c t) : CovP (updF f m v) c t := by
  obtain ⟨y, hy, k⟩ := h
  exact ⟨y, updF_sub hy, k⟩
theorem Fnd.grow {p : Int} {rs : List Road} {s : Int} {f : Nat → List Pr} {rows : List Tri} (ok : NetOk p rs) (h : Fnd p rs s f rows) {m : Tri} (hm : m ∈ rows) (hle : ∀ r ∈ rows, LeK m r) (hc : ¬ CovP (f m.v.toNat) m.c m.t) (s0 : 0 ≤ s) (s1 : s < p) :
    Fnd p rs s (updF f m) (rows.erase m ++ extsT m rs) := by
  obtain ⟨v0, v1, hw⟩ := h.snd m hm
  have hvn : ((m.v.toNat : Nat) : Int) = m.v := by omega
  have F := fnP_fr ok s v0 v1
  have onD : (m.c, m.t) ∈ fnP p rs s m.v := by
    obtain ⟨z, hz, z1, z2⟩ := F.cover _ _ hw
    by_cases e : z = (m.c, m.t)
    · rw [← e]
      exact hz
    · refine absurd ?_ hc
      obtain ⟨w', hw'⟩ := F.sound z hz
      have ne : ¬ (z.1 = m.c ∧ z.2 = m.t) := fun k => e (Prod.ext k.1 k.2)
      obtain ⟨y, hy, y1, y2⟩ := h.cov ok s0 s1 w'.length rfl hw' fun r hr k => by
        have := (hle r hr).trans k
        unfold LeK at this
        dsimp only at this
        omega
      exact ⟨y, hy, by omega, by omega⟩
  have inr_ : ∀ q ∈ rs, q.one = m.v → extT q m ∈ rows.erase m ++ extsT m rs := fun q hq ho => by
    refine List.mem_append_right _ ?_
    unfold extsT
    exact List.mem_map.mpr ⟨q, List.mem_filter.mpr ⟨hq, by rw [decide_eq_true ho]⟩, rfl⟩
  have keep : ∀ r ∈ rows, r ∈ rows.erase m ++ extsT m rs ∨ r = m := fun r hr => by
    by_cases e : r = m
    · exact .inr e
    · exact .inl (List.mem_append_left _ ((List.mem_erase_of_ne e).mpr hr))
  have new : CovP (updF f m m.v.toNat) m.c m.t := ⟨(m.c, m.t), by rw [updF_at]; exact List.mem_append_right _ (List.mem_singleton.mpr rfl), Int.le_refl _, Int.le_refl _⟩
  have old : ∀ v : Nat, (v : Int) < p → ∀ x ∈ updF f m v, LeK ⟨x.1, x.2, v⟩ m := fun v k x hx => by
    rcases updF_mem hx with hx | ⟨rfl, rfl⟩
    · exact h.le v k x hx m hm
    · exact .inr ⟨rfl, Int.le_refl _⟩
  refine ⟨fun r hr => ?_, fun v k x hx => ?_, fun v => ?_, fun v k x hx q hq ho => ?_, ?_, fun v k x hx r hr => ?_⟩
  · rcases List.mem_append.mp hr with hr | hr
    · exact h.snd r (List.mem_of_mem_erase hr)
    · unfold extsT at hr
      obtain ⟨q, hq, rfl⟩ := List.mem_map.mp hr
      obtain ⟨hq, ho⟩ := List.mem_filter.mp hq
      have ho := of_decide_eq_true ho
      have o := ok.all q hq
      have t2 := o.t2
      obtain ⟨w, hw⟩ := hw
      obtain ⟨i, hi⟩ := List.getElem?_of_mem hq
      refine ⟨o.t1, by show q.other < p; omega, _, pa_snoc hi ho rfl hw⟩
  · rcases updF_mem hx with hx | ⟨rfl, rfl⟩
    · exact h.sub v k x hx
    · rw [hvn]
      exact onD
  · by_cases e : v = m.v.toNat
    · subst e
      rw [updF_at]
      refine List.pairwise_append.mpr ⟨h.mono _, List.pairwise_singleton _ _, fun x hx y hy => ?_⟩
      rw [List.mem_singleton.mp hy]
      have := h.le _ (by omega) x hx m hm
      have nc : ¬ (x.1 ≤ m.c ∧ x.2 ≤ m.t) := fun k => hc ⟨x, hx, k.1, k.2⟩
      unfold LeK at this
      dsimp only at this ⊢
      omega
    · rw [updF_ne e]
      exact h.mono v
  · rcases updF_mem hx with hx | ⟨rfl, rfl⟩
    · rcases h.go v k x hx q hq ho with k | k
      · rcases keep _ k with k | k
        · exact .inl k
        · refine .inr ?_
          rw [← k] at new
          rw [← k]
          exact new
      · exact .inr k.up
    · refine .inl ?_
      have := inr_ q hq (by omega)
      unfold extT at this ⊢
      exact this
  · rcases h.st with k | k
    · rcases keep _ k with k | k
      · exact .inl k
      · refine .inr ?_
        rw [← k] at new
        rw [← k]
        exact new
    · exact .inr k.up
  · refine (old v k x hx).trans ?_
    rcases List.mem_append.mp hr with hr | hr
    · exact hle r (List.mem_of_mem_erase hr)
    · unfold extsT at hr
      obtain ⟨q, hq, rfl⟩ := List.mem_map.mp hr
      obtain ⟨hq, ho⟩ := List.mem_filter.mp hq
      have o := ok.all q hq
      have c1 := o.c1
      have m1 := o.m1
      unfold LeK extT
      dsimp only
      omega
/-! ### it ends -/
/-- what is yet to be found, in the first n places -/
def leftF (D f : Nat → List Pr) : Nat → Nat
  | 0 => 0
  | n + 1 => leftF D f n + ((D n).length - (f n).length)
theorem leftF_same {D f : Nat → List Pr} {m : Tri} : ∀ {n : Nat}, n ≤ m.v.toNat → leftF D (updF f m) n = leftF D f n
  | 0, _ => rfl
  | n + 1, h => by
    unfold leftF
    rw [leftF_same (by omega), updF_ne (by omega)]
theorem leftF_upd {D f : Nat → List Pr} {m : Tri} (hl : (f m.v.toNat).length < (D m.v.toNat).length) : ∀ {n : Nat}, m.v.toNat < n → leftF D (updF f m) n + 1 = leftF D f n
  | 0, h => absurd h (Nat.not_lt_zero _)
  | n + 1, h => by
    unfold leftF
    by_cases e : n = m.v.toNat
    · subst e
      rw [leftF_same (Nat.le_refl _), updF_at, List.length_append, List.length_singleton]
      omega
    · have := leftF_upd hl (n := n) (by omega)
      rw [updF_ne e]
      omega
theorem leftF_le {D f : Nat → List Pr} {b : Nat} : ∀ {n : Nat}, (∀ v < n, (D v).length ≤ b) → leftF D f n ≤ n * b
  | 0, _ => by simp [leftF]
  | n + 1, h => by
    have := leftF_le (D := D) (f := f) (b := b) (n := n) fun v hv => h v (by omega)
    have := h n (by omega)
    unfold leftF
    rw [Nat.succ_mul]
    omega
theorem mono_nodup {F : List Pr} (h : F.Pairwise fun x y => x.1 < y.1 ∧ y.2 < x.2) : F.Nodup := h.imp fun {x y} k e => by
  rw [e] at k
  omega
theorem nd_len {α : Type} [BEq α] [LawfulBEq α] : ∀ {F G : List α}, F.Nodup → (∀ x ∈ F, x ∈ G) → F.length ≤ G.length
  | [], _, _, _ => Nat.zero_le _
  | x :: F, G, h, hs => by
    obtain ⟨n1, n2⟩ := List.nodup_cons.mp h
    have hx := hs x List.mem_cons_self
    have ih := nd_len (G := G.erase x) n2 fun y hy => (List.mem_erase_of_ne (show y ≠ x from fun e => n1 (e ▸ hy))).mpr (hs y (List.mem_cons_of_mem _ hy))
    rw [List.length_erase_of_mem hx] at ih
    have := List.length_pos_of_mem hx
    rw [List.length_cons]
    omega
theorem sub_len {F G : List Pr} (h : F.Pairwise fun x y => x.1 < y.1 ∧ y.2 < x.2) (hs : ∀ x ∈ F, x ∈ G) : F.length ≤ G.length := nd_len (mono_nodup h) hs
theorem fnP_len {p : Int} {rs : List Road} (ok : NetOk p rs) (s : Int) {v : Int} (v0 : 0 ≤ v) (v1 : v < p) : (fnP p rs s v).length ≤ 1001 := by
  unfold fnP frontF
  rw [List.length_map]
  have p2 := ok.p2
  exact (frontN_ok (rev_ok ok) v0 v1 (by omega)).2
theorem Fnd.lt {p : Int} {rs : List Road} {s : Int} {f : Nat → List Pr} {rows : List Tri} (ok : NetOk p rs) (h : Fnd p rs s f rows) {v : Nat} (v1 : (v : Int) < p) : (f v).length ≤ (fnP p rs s v).length := sub_len (h.mono v) (h.sub v v1)
theorem extsT_len (m : Tri) (rs : List Road) : (extsT m rs).length ≤ rs.length := by
  unfold extsT
  rw [List.length_map]
  exact List.length_filter_le _ _
end Wy

set_option synthInstance.maxHeartbeats 2000000
set_option synthInstance.maxSize 100000
namespace Wy
open PySem PySem.Spec PyProof.Rows L2 Dl
def topS (i : Nat) : Stmt := PySem.Challenge.pw_waysranked_k52_least_fences.main.body.getD i (.Pass ⟨0, 0, 0, 0⟩)
abbrev s_is_whole : Stmt := topS 6
abbrev s_is_within : Stmt := topS 7
abbrev s_is_tuple_of : Stmt := topS 15
abbrev s_is_road_among : Stmt := topS 16
abbrev s_is_net : Stmt := topS 14
abbrev s_check_net : Stmt := topS 17
abbrev s_check_place : Stmt := topS 18
abbrev s_unbeaten : Stmt := topS 22
abbrev s_fronts_to : Stmt := topS 21
abbrev s_fence_of : Stmt := topS 20
abbrev s__law_cell_at : Stmt := topS 24
abbrev s__law_state : Stmt := topS 25
abbrev s__law_take : Stmt := topS 26
abbrev s__law_net : Stmt := topS 27
abbrev s__law_pairs : Stmt := topS 28
/-- a def of the text, where it stands, how its arguments bind -/
structure Df (K : PySem.W.Frag) (mg : Str → Option Value) (x : Str) (st : Stmt) (ps : List Str) (f : Addr) (fd : FuncData) : Prop where
  F : Fun K x x st f fd
  b : Binds K fd ps []
  g : mg x = some (.ref f)
/-- a class of refusals without an __init__ of its own -/
structure Ex (K : PySem.W.Frag) (mg : Str → Option Value) (x : Str) (C : Addr) : Prop where
  g : mg x = some (.ref C)
  x : PySem.W.excIn K C [.type "ValueError", .type "Exception", .type "BaseException", .type "object"] "ValueError.__new__" = true
  k : PySem.W.keepIn K (.ref C) = true
  b : PySem.W.subIn K (.ref C) (.type "BaseException") = some true
  t : PySem.W.typeIn K (.ref C) = some (.type "type")
/-- a def that can be called by its name, with its promise -/
structure Cb (P : Program) (w : World) (K : PySem.W.Frag) (mg : Str → Option Value) (base : Heap) (CX : CXT) (k : Nat) (x : Str) (ps : List Str) (sp : Sp) : Prop where
  ex : ∃ f fd, FnOk P w K mg base CX k f fd ps sp ∧ mg x = some (.ref f) ∧ PySem.W.keepIn K (.ref f) = true ∧ Binds K fd ps []
theorem pe_cb {X : Cx} {CX : CXT} {E : XK} {k : Nat} {ps : List Str} {sp : Sp} {x : Str} {p pos : Pos} {e : Expr} {es : List Expr} {t : TA} (h : Cb X.prog X.w X.K X.mg X.base CX k x ps sp) (hr : Room k X.A) (hg : Gl X x) (hx : Passes CX X E) (ha : PA X (e :: es) t)
    (hdb : (x == ("__debug__" : Str)) = false := by decide) (he : starEach (e :: es) X.env = (false, eval e X.env) :: starEach es X.env := by rfl) (hpl : (backTo pos (starEach es X.env)).any (·.1) = false := by rfl) : PE X (.Call (.Name x p) (e :: es) [] pos) (tCall sp [] E t) := by
  obtain ⟨f, fd, F, hm, hk, hb⟩ := h.ex
  exact pe_call F hr hg hm hk hb .nil hx ha hdb he hpl
theorem Cb.imp {P : Program} {w : World} {K : PySem.W.Frag} {mg : Str → Option Value} {base : Heap} {CX : CXT} {k : Nat} {x : Str} {ps : List Str} {sp sp' : Sp} (h : Cb P w K mg base CX k x ps sp) (i : ∀ vs H Q E, sp' vs H Q E → sp vs H Q E) : Cb P w K mg base CX k x ps sp' := by
  obtain ⟨f, fd, F, r⟩ := h.ex
  exact ⟨f, fd, F.imp i, r⟩
structure Tx (K : PySem.W.Frag) (mg : Str → Option Value) (C : Nat → Addr) : Prop where
  len : mg "len" = none
  isinstance : mg "isinstance" = none
  all : mg "all" = none
  sorted : mg "sorted" = none
  max : mg "max" = none
  min : mg "min" = none
  int : mg "int" = none
  list : mg "list" = none
  tuple : mg "tuple" = none
  range : mg "range" = none
  enumerate : mg "enumerate" = none
  repr : mg "repr" = none
  bool : mg "bool" = none
  ValueError : mg "ValueError" = none
  h_is_whole : ∃ f fd, Df K mg "is_whole" s_is_whole ["thing"] f fd
  h_is_within : ∃ f fd, Df K mg "is_within" s_is_within ["thing", "low", "high"] f fd
  h_is_tuple_of : ∃ f fd, Df K mg "is_tuple_of" s_is_tuple_of ["thing", "many"] f fd
  h_is_road_among : ∃ f fd, Df K mg "is_road_among" s_is_road_among ["places", "thing"] f fd
  h_is_net : ∃ f fd, Df K mg "is_net" s_is_net ["thing"] f fd
  h_check_net : ∃ f fd, Df K mg "check_net" s_check_net ["thing"] f fd
  h_check_place : ∃ f fd, Df K mg "check_place" s_check_place ["net", "thing"] f fd
  h_unbeaten : ∃ f fd, Df K mg "unbeaten" s_unbeaten ["rows"] f fd
  h_fronts_to : ∃ f fd, Df K mg "fronts_to" s_fronts_to ["net", "goal"] f fd
  h_fence_of : ∃ f fd, Df K mg "fence_of" s_fence_of ["net", "start"] f fd
  h__law_cell_at : ∃ f fd, Df K mg "_law_cell_at" s__law_cell_at ["_law_script", "_law_k"] f fd
  h__law_state : ∃ f fd, Df K mg "_law_state" s__law_state ["_law_script", "_law_k"] f fd
  h__law_take : ∃ f fd, Df K mg "_law_take" s__law_take ["_law_state_here", "_law_far"] f fd
  h__law_net : ∃ f fd, Df K mg "_law_net" s__law_net ["_law_state_here", "_law_most", "_law_far"] f fd
  h__law_pairs : ∃ f fd, Df K mg "_law_pairs" s__law_pairs ["_law_net_here", "_law_start"] f fd
  c_MOST_PLACES : ∃ t, mg "MOST_PLACES" = some (.int 10 t)
  c_MOST_ROADS : ∃ t, mg "MOST_ROADS" = some (.int 30 t)
  c_LEAST_COST : ∃ t, mg "LEAST_COST" = some (.int 1 t)
  c_MOST_COST : ∃ t, mg "MOST_COST" = some (.int 99 t)
  c_MOST_TIME : ∃ t, mg "MOST_TIME" = some (.int 99 t)
  e_NoNet : Ex K mg "NoNet" (C 0)
  e_NoPlace : Ex K mg "NoPlace" (C 1)
section
variable {P : Program} {w : World} {K : PySem.W.Frag} {mg : Str → Option Value} {base : Heap} {C : Nat → Addr}
theorem sc__law_take : FnScope ["_law_state_here", "_law_far", "_law_found", "_law_stirred"] ["_law_state_here", "_law_far"] (defScope s__law_take) := ⟨rfl, rfl, rfl, by decide +kernel, rfl, by decide +kernel, by decide +kernel⟩
theorem ok_take {f : Addr} {fd : FuncData} {k : Nat} (D : Df K mg "_law_take" s__law_take ["_law_state_here", "_law_far"] f fd) : FnOk P w K mg base CX0 (k + 1) f fd ["_law_state_here", "_law_far"] spTake := by
  refine D.F.ok sc__law_take (fun vs H Q E h => ?_) (fun cdv A outer s H vs Q E hr h => ?_)
  · obtain ⟨_, _, rfl, _⟩ := h
    rfl
  · obtain ⟨z, m, rfl, ⟨x, y, e, hx, hy, hy2⟩, hm, hm2, q⟩ := h
    refine ⟨_, pss_cons (ps_if (pt_cmpR op_gt (pe_ix ix_list (pv 0) pe_int (fun _ _ => rfl)) pe_int (nomark _))
        (pss_cons (ps_set (i := 2) sc__law_take.nd rfl (.inl rfl) (pe_op op_mod (pe_ix ix_list (pv 0) pe_int (fun _ _ => rfl)) (pv 1)))
        (pss_cons (ps_asg (pe_op op_fdiv (pe_ix ix_list (pv 0) pe_int (fun _ _ => rfl)) (pv 1)) (pg_sub (pv 0) pe_int set_list))
        (pss_one (ps_ret (pv 2))))) pss_nil)
      (pss_cons (ps_asg (pe_op op_mod (pe_op op_add (pe_op op_mul (pe_ix ix_list (pv 0) pe_int (fun _ _ => rfl)) pe_int) pe_int) pe_int) (pg_sub (pv 0) pe_int set_list))
      (pss_cons (ps_set (i := 3) sc__law_take.nd rfl (.inl rfl) (pe_op op_mod (pe_op op_add (pe_op op_add (pe_op op_mul (pe_ix ix_list (pv 0) pe_int (fun _ _ => rfl)) (pe_ix ix_list (pv 0) pe_int (fun _ _ => rfl))) (pe_op op_mul pe_int (pe_ix ix_list (pv 0) pe_int (fun _ _ => rfl)))) pe_int) pe_int))
      (pss_cons (ps_set (i := 3) sc__law_take.nd rfl (.inl rfl) (pe_op op_mod (pe_op op_add (pe_op op_mul (pv 3) (pv 3)) (pe_op op_mul pe_int (pv 3))) pe_int))
      (pss_one (ps_ret (pe_op op_mod (pe_op op_fdiv (pv 3) pe_int) (pv 1))))))), ?_⟩
    refine ⟨.ref z, rfl, z, _, 0, _, rfl, rfl, SqL.of e, rfl, x, 0, rfl, rfl, _, rfl, ite2 (fun c => ?_) (fun c => ?_)⟩
    · refine ⟨.ref z, rfl, z, _, 0, _, rfl, rfl, SqL.of e, rfl, .int m, rfl, x, m, rfl, rfl, hm, ?_⟩
      refine ⟨.ref z, rfl, z, _, 0, _, rfl, rfl, SqL.of e, rfl, .int m, rfl, x, m, rfl, rfl, ⟨hm, hm2⟩, ?_⟩
      refine ⟨.ref z, rfl, z, _, 0, 0, rfl, rfl, e, rfl, ?_⟩
      refine ⟨.int (x % m), rfl, q _ _ .self ⟨x / m, y, upd_same, Int.ediv_nonneg hx (Int.le_of_lt hm), hy, hy2⟩ (Int.emod_nonneg _ (by omega)) (Int.emod_lt_of_pos _ hm)⟩
    · have b1 := Int.emod_nonneg (y * 48271 + 29) (show (2147483647 : Int) ≠ 0 by decide)
      have b2 := Int.emod_lt_of_pos (y * 48271 + 29) (show (0 : Int) < 2147483647 by decide)
      refine ⟨.ref z, rfl, z, _, 1, _, rfl, rfl, SqL.of e, rfl, y, 48271, rfl, rfl, .inr ⟨by decide, by decide⟩, _, _, rfl, rfl, _, 2147483647, rfl, rfl, (by show (0 : Int) < 2147483647; decide), ?_⟩
      refine ⟨.ref z, rfl, z, _, 1, 1, rfl, rfl, e, rfl, ?_⟩
      have e2 : (upd H z (.lst [.int x, .int ((y * 48271 + 29) % 2147483647)])) z = some (.lst [.int x, .int ((y * 48271 + 29) % 2147483647)]) := upd_same
      obtain ⟨y2, ey⟩ : ∃ y2, y2 = (y * 48271 + 29) % 2147483647 := ⟨_, rfl⟩
      rw [← ey] at b1 b2 e2
      show (fun H0 : Hp => _) (upd H z (.lst [.int x, .int ((y * 48271 + 29) % 2147483647)]))
      rw [← ey]
      refine ⟨.ref z, rfl, z, _, 1, _, rfl, rfl, SqL.of e2, rfl, .ref z, rfl, z, _, 1, _, rfl, rfl, SqL.of e2, rfl, y2, y2, rfl, rfl, .inl ⟨by omega, by omega⟩, .ref z, rfl, z, _, 1, _, rfl, rfl, SqL.of e2, rfl, 39373, y2, rfl, rfl, .inl ⟨by decide, by decide⟩, _, _, rfl, rfl, _, 7, rfl, rfl, _, 2147483629, rfl, rfl, (by show (0 : Int) < 2147483629; decide), ?_⟩
      have c1 := Int.emod_nonneg (y2 * y2 + 39373 * y2 + 7) (show (2147483629 : Int) ≠ 0 by decide)
      have c2 := Int.emod_lt_of_pos (y2 * y2 + 39373 * y2 + 7) (show (0 : Int) < 2147483629 by decide)
      have d1 : -(2 : Int) ^ 64 < (y2 * y2 + 39373 * y2 + 7) % 2147483629 := Int.lt_of_lt_of_le (by decide) c1
      have d2 : (y2 * y2 + 39373 * y2 + 7) % 2147483629 < (2 : Int) ^ 64 := Int.lt_trans c2 (by decide)
      refine ⟨_, rfl, _, rfl, _, _, rfl, rfl, .inl ⟨d1, d2⟩, _, rfl, 16807, _, rfl, rfl, .inl ⟨by decide, by decide⟩, _, _, rfl, rfl, _, 2147483587, rfl, rfl, (by show (0 : Int) < 2147483587; decide), ?_⟩
      refine ⟨_, rfl, _, 8, rfl, rfl, ⟨by decide, by decide⟩, .int m, rfl, _, m, rfl, rfl, hm, ?_⟩
      exact q _ _ .self ⟨x, y2, e2, hx, b1, b2⟩ (Int.emod_nonneg _ (by omega)) (Int.emod_lt_of_pos _ hm)
theorem sc__law_cell_at : FnScope ["_law_script", "_law_k"] ["_law_script", "_law_k"] (defScope s__law_cell_at) := ⟨rfl, rfl, rfl, by decide +kernel, rfl, by decide +kernel, by decide +kernel⟩
def spCell (K : PySem.W.Frag) : Sp := fun vs H Q _ => ∃ (a : Addr) (ns : List Int) (i : Nat), vs = [.ref a, .int (i : Int)] ∧ SqL K H a (ns.map V.int) ∧ ∀ n, Q (.int n) H
theorem ok_cell {f : Addr} {fd : FuncData} {k : Nat} (D : Df K mg "_law_cell_at" s__law_cell_at ["_law_script", "_law_k"] f fd) (ml : mg "len" = none) : FnOk P w K mg base CX0 (k + 1) f fd ["_law_script", "_law_k"] (spCell K) := by
  refine D.F.ok sc__law_cell_at (fun vs H Q E h => ?_) (fun cdv A outer s H vs Q E hr h => ?_)
  · obtain ⟨_, _, _, rfl, _⟩ := h
    rfl
  · obtain ⟨a, ns, i, rfl, hS, q⟩ := h
    refine ⟨_, pss_cons (ps_if (pt_cmpR op_lt (pv 1) (pe_callB call_len_seq (by rfl) ml PySem.boot_len (pa_cons (pv 0) pa_nil)) (nomark _))
        (pss_one (ps_ret (pe_ix ix_list (pv 0) (pv 1) (fun _ _ => rfl)))) pss_nil) (pss_one (ps_ret pe_int)), ?_⟩
    refine ⟨.int i, rfl, .ref a, rfl, a, _, rfl, .inl hS, _, _, rfl, rfl, _, rfl, ite2 (fun c => ?_) (fun c => ?_)⟩
    · have c' : (i : Int) < ((ns.map V.int).length : Int) := of_decide_eq_true c
      rw [List.length_map] at c'
      have hi : i < ns.length := by omega
      refine ⟨.ref a, rfl, .int i, rfl, a, _, i, .int ns[i], rfl, rfl, hS, atI_nat ?_, q _⟩
      rw [List.getElem?_map, List.getElem?_eq_getElem hi]
      rfl
    · exact q _
theorem sc__law_state : FnScope ["_law_script", "_law_k", "_law_cell"] ["_law_script", "_law_k"] (defScope s__law_state) := ⟨rfl, rfl, rfl, by decide +kernel, rfl, by decide +kernel, by decide +kernel⟩
theorem ok_state {f fC : Addr} {fd fdC : FuncData} {k : Nat} (D : Df K mg "_law_state" s__law_state ["_law_script", "_law_k"] f fd) (DC : Df K mg "_law_cell_at" s__law_cell_at ["_law_script", "_law_k"] fC fdC) (ml : mg "len" = none) (mm : mg "max" = none) : FnOk P w K mg base CX0 (k + 2) f fd ["_law_script", "_law_k"] (spState K) := by
  have G : FnOk P w K mg base CX0 (k + 1) fC fdC ["_law_script", "_law_k"] (spCell K) := ok_cell DC ml
  refine D.F.ok sc__law_state (fun vs H Q E h => ?_) (fun cdv A outer s H vs Q E hr h => ?_)
  · obtain ⟨_, _, _, rfl, _⟩ := h
    rfl
  · obtain ⟨a, ns, i, rfl, hS, q⟩ := h
    refine ⟨_, pss_cons (ps_set (i := 2) sc__law_state.nd rfl (.inl rfl) (pe_call G hr (by rfl) DC.g DC.F.kp DC.b .nil pass0 (pa_cons (pv 0) (pa_cons (pv 1) pa_nil))))
      (pss_one (ps_ret (pe_lst (pa_cons (pe_callB (call_max2 rfl) (by rfl) mm (by decide +kernel) (pa_cons pe_int (pa_cons (pe_op op_sub (pv 2) (pe_op op_pow pe_int pe_int)) pa_nil)))
        (pa_cons (pe_op op_mod (pv 2) pe_int) pa_nil))))), ?_⟩
    refine ⟨.ref a, rfl, .int i, rfl, a, ns, i, rfl, hS, fun n => ?_⟩
    refine ⟨.int n, rfl, 10, 18, rfl, rfl, ⟨by decide, by decide, by decide⟩, n, _, rfl, rfl, 0, _, rfl, .int n, rfl, n, 2147483647, rfl, rfl, (by show (0 : Int) < 2147483647; decide), by show 2 ≤ sizeLine; decide, fun z hz => ?_⟩
    refine q _ z (same_new hz) hz ⟨_, _, upd_same, ?_, Int.emod_nonneg _ (by decide), Int.emod_lt_of_pos _ (by decide)⟩
    split <;> omega
theorem c__law_take (T : Tx K mg C) : Cb P w K mg base CX0 1 "_law_take" ["_law_state_here", "_law_far"] (spD K [] sdTake) := by
  obtain ⟨f, fd, D⟩ := T.h__law_take
  exact ⟨f, fd, (ok_take (k := 0) D).imp take_imp, D.g, D.F.kp, D.b⟩
theorem c__law_state (T : Tx K mg C) : Cb P w K mg base CX0 2 "_law_state" ["_law_script", "_law_k"] (spState K) := by
  obtain ⟨f, fd, D⟩ := T.h__law_state
  obtain ⟨fC, dC, DC⟩ := T.h__law_cell_at
  exact ⟨f, fd, ok_state (k := 0) D DC T.len T.max, D.g, D.F.kp, D.b⟩
end
end Wy

set_option synthInstance.maxHeartbeats 2000000
set_option synthInstance.maxSize 100000
namespace Wy
open PySem PySem.Spec PyProof.Rows L2 Dl
section
variable {P : Program} {w : World} {K : PySem.W.Frag} {mg : Str → Option Value} {base : Heap} {C : Nat → Addr}
theorem sc_is_whole : FnScope ["thing"] ["thing"] (defScope s_is_whole) := ⟨rfl, rfl, rfl, by decide +kernel, rfl, by decide +kernel, by decide +kernel⟩
def sd_is_whole : SpD := fun ss Qd _ => ∃ x, ss = [.d x] ∧ Qd (.d (.bool (wholeD x)))
theorem c_is_whole (T : Tx K mg C) : Cb P w K mg base CX0 1 "is_whole" ["thing"] (spD K [] sd_is_whole) := by
  obtain ⟨f, fd, D⟩ := T.h_is_whole
  refine ⟨f, fd, okD (k := 0) D.F sc_is_whole (fun ss Qd R h => ?_) (fun cdv A outer s H E hr => ⟨_, (pss_one (ps_ret (pe_and (pe_callB (call_isiQ (K := K) rfl) (by rfl) T.isinstance (by decide +kernel) (pa_cons (pv 0) (pa_cons (pe_bltn (v := .ty "int") (by rfl) T.int (by decide +kernel) rfl) pa_nil))) (pe_one (pe_not (pe_callB (call_isiQ (K := K) rfl) (by rfl) T.isinstance (by decide +kernel) (pa_cons (pv 0) (pa_cons (pe_bltn (v := .ty "bool") (by rfl) T.bool (by decide +kernel) rfl) pa_nil)))))))), ?_⟩), D.g, D.F.kp, D.b⟩
  · obtain ⟨_, rfl, _⟩ := h
    rfl
  · refine ⟨_, fun τ => inferInstance, fun ss Qd R h => ?_⟩
    obtain ⟨x, rfl, q⟩ := h
    cases x with
    | int i => exact ⟨.inl rfl, .inr (.inl rfl), q⟩
    | bool b => exact ⟨.inl rfl, .inr (.inl rfl), q⟩
    | _ => exact ⟨.inl rfl, q⟩
theorem sc_is_within : FnScope ["thing", "low", "high"] ["thing", "low", "high"] (defScope s_is_within) := ⟨rfl, rfl, rfl, by decide +kernel, rfl, by decide +kernel, by decide +kernel⟩
def sd_is_within : SpD := fun ss Qd _ => ∃ x, ∃ lo hi : Int, ss = [.d x, .d (.int lo), .d (.int hi)] ∧ Qd (.d (.bool (withinD lo hi x)))
theorem c_is_within (T : Tx K mg C) : Cb P w K mg base CX0 2 "is_within" ["thing", "low", "high"] (spD K [] sd_is_within) := by
  obtain ⟨f, fd, D⟩ := T.h_is_within
  refine ⟨f, fd, okD (k := 1) D.F sc_is_within (fun ss Qd R h => ?_) (fun cdv A outer s H E hr => ⟨_, (pss_one (ps_ret (pe_and (pe_cb (c_is_whole (K := K) T) (hr.mono (by decide)) (by rfl) pass0 (pa_cons (pv 0) pa_nil)) (pe_one (pe_chain op_le op_le (pv 1) (pv 0) (pv 2)))))), ?_⟩), D.g, D.F.kp, D.b⟩
  · obtain ⟨_, _, _, rfl, _⟩ := h
    rfl
  · refine ⟨_, fun τ => inferInstance, fun ss Qd R h => ?_⟩
    obtain ⟨x, lo, hi, rfl, q⟩ := h
    refine ⟨x, rfl, ?_⟩
    cases x with
    | int i =>
      have e : withinD lo hi (.int i) = (decide (lo ≤ i) && decide (i ≤ hi)) := rfl
      rw [e] at q
      show (match decide (lo ≤ i) with | true => _ | false => _)
      cases h1 : decide (lo ≤ i) with
      | true =>
        rw [h1] at q
        exact q
      | false =>
        rw [h1] at q
        exact q
    | _ => exact q
theorem sc_is_tuple_of : FnScope ["thing", "many"] ["thing", "many"] (defScope s_is_tuple_of) := ⟨rfl, rfl, rfl, by decide +kernel, rfl, by decide +kernel, by decide +kernel⟩
def sd_is_tuple_of : SpD := fun ss Qd _ => ∃ x, ∃ n : Int, ss = [.d x, .d (.int n)] ∧ Qd (.d (.bool (tupD n x)))
theorem c_is_tuple_of (T : Tx K mg C) : Cb P w K mg base CX0 1 "is_tuple_of" ["thing", "many"] (spD K [] sd_is_tuple_of) := by
  obtain ⟨f, fd, D⟩ := T.h_is_tuple_of
  refine ⟨f, fd, okD (k := 0) D.F sc_is_tuple_of (fun ss Qd R h => ?_) (fun cdv A outer s H E hr => ⟨_, (pss_one (ps_ret (pe_and (pe_callB (call_isiQ (K := K) rfl) (by rfl) T.isinstance (by decide +kernel) (pa_cons (pv 0) (pa_cons (pe_bltn (v := .ty "tuple") (by rfl) T.tuple (by decide +kernel) rfl) pa_nil))) (pe_one (pe_cmpR (op_eqK (K := K) rfl hr.units) (pe_callB (call_lenK (K := K) rfl) (by rfl) T.len PySem.boot_len (pa_cons (pv 0) pa_nil)) (pv 1) (nomark _)))))), ?_⟩), D.g, D.F.kp, D.b⟩
  · obtain ⟨_, _, rfl, _⟩ := h
    rfl
  · refine ⟨_, fun τ => inferInstance, fun ss Qd R h => ?_⟩
    obtain ⟨x, n, rfl, q⟩ := h
    cases x with
    | tuple xs =>
      refine ⟨.inr (.inr (.inl rfl)), sh_int _, sh_int _, ?_⟩
      rw [eqv_int]
      exact q
    | _ => exact ⟨.inr (.inr (.inl rfl)), q⟩
theorem sc_is_road_among : FnScope ["places", "thing", "one", "other", "cost", "time"] ["places", "thing"] (defScope s_is_road_among) := ⟨rfl, rfl, rfl, by decide +kernel, rfl, by decide +kernel, by decide +kernel⟩
def sd_is_road_among : SpD := fun ss Qd _ => ∃ x, ∃ p : Int, ss = [.d (.int p), .d x] ∧ Qd (.d (.bool (roadD p x)))
theorem c_is_road_among (T : Tx K mg C) : Cb P w K mg base CX0 3 "is_road_among" ["places", "thing"] (spD K [] sd_is_road_among) := by
  obtain ⟨f, fd, D⟩ := T.h_is_road_among
  refine ⟨f, fd, okD (k := 2) D.F sc_is_road_among (fun ss Qd R h => ?_) (fun cdv A outer s H E hr => ⟨_, (pss_cons (ps_if (pt_not (pt_val (pe_cb (c_is_tuple_of (K := K) T) (hr.mono (by decide)) (by rfl) pass0 (pa_cons (pv 1) (pa_cons pe_int pa_nil))))) (pss_one (ps_ret pe_bl)) pss_nil)
    (pss_cons (ps_asg (pv 1) (pg_tupK (n := 4) (K := K) rfl (by rfl) (pgs_cons (pg_name (i := 2) sc_is_road_among.nd rfl (.inl rfl)) (pgs_cons (pg_name (i := 3) sc_is_road_among.nd rfl (.inl rfl)) (pgs_cons (pg_name (i := 4) sc_is_road_among.nd rfl (.inl rfl)) (pgs_cons (pg_name (i := 5) sc_is_road_among.nd rfl (.inl rfl)) pgs_nil))))))
    (pss_cons (ps_if (PW.pt (pw_or (pt_not (pt_val (pe_cb (c_is_within (K := K) T) (hr.mono (by decide)) (by rfl) pass0 (pa_cons (pv 2) (pa_cons pe_int (pa_cons (pe_op op_sub (pv 0) pe_int) pa_nil)))))) (pw_or1 (pt_not (pt_val (pe_cb (c_is_within (K := K) T) (hr.mono (by decide)) (by rfl) pass0 (pa_cons (pv 3) (pa_cons pe_int (pa_cons (pe_op op_sub (pv 0) pe_int) pa_nil))))))))) (pss_one (ps_ret pe_bl)) pss_nil)
    (pss_one (ps_ret (pe_and (pe_cmpR (op_neK (K := K) rfl hr.units) (pv 2) (pv 3) (nomark _)) (pe_and (pe_cb (c_is_within (K := K) T) (hr.mono (by decide)) (by rfl) pass0 (pa_cons (pv 4) (pa_cons (pe_glob (v := .int 1) (by rfl) (T.c_LEAST_COST).choose_spec ⟨_, rfl⟩) (pa_cons (pe_glob (v := .int 99) (by rfl) (T.c_MOST_COST).choose_spec ⟨_, rfl⟩) pa_nil)))) (pe_one (pe_cb (c_is_within (K := K) T) (hr.mono (by decide)) (by rfl) pass0 (pa_cons (pv 5) (pa_cons pe_int (pa_cons (pe_glob (v := .int 99) (by rfl) (T.c_MOST_TIME).choose_spec ⟨_, rfl⟩) pa_nil)))))))))))), ?_⟩), D.g, D.F.kp, D.b⟩
  · obtain ⟨_, _, rfl, _⟩ := h
    rfl
  · refine ⟨_, fun τ => inferInstance, fun ss Qd R h => ?_⟩
    obtain ⟨x, p, rfl, q⟩ := h
    refine ⟨x, 4, rfl, ?_⟩
    cases e4 : tupD 4 x with
    | false =>
      have e : roadD p x = false := by
        unfold roadD
        split
        · cases e4
        · rfl
      rw [e] at q
      exact q
    | true =>
      obtain ⟨a, b, c, t, rfl⟩ : ∃ a b c t, x = .tuple [a, b, c, t] := by
        cases x with
        | tuple xs =>
          have hl : (xs.length : Int) = 4 := of_decide_eq_true e4
          match xs, hl with
          | [a, b, c, t], _ => exact ⟨a, b, c, t, rfl⟩
          | [], hl => simp at hl
          | [_], hl => simp at hl
          | [_, _], hl => simp at hl
          | [_, _, _], hl => simp at hl
          | _ :: _ :: _ :: _ :: _ :: _, hl => simp at hl; omega
        | _ => cases e4
      refine ⟨rfl, a, 0, p - 1, rfl, ?_⟩
      have e : roadD p (.tuple [a, b, c, t]) = (withinD 0 (p - 1) a && (withinD 0 (p - 1) b && (neI a b && (withinD 1 99 c && withinD 0 99 t)))) := rfl
      rw [e] at q
      cases ea : withinD 0 (p - 1) a with
      | false =>
        rw [ea] at q
        exact q
      | true =>
        rw [ea] at q
        refine ⟨b, 0, p - 1, rfl, ?_⟩
        cases eb : withinD 0 (p - 1) b with
        | false =>
          rw [eb] at q
          exact q
        | true =>
          rw [eb] at q
          obtain ⟨i, rfl, _, _⟩ := withinD_true ea
          obtain ⟨j, rfl, _, _⟩ := withinD_true eb
          refine ⟨sh_int _, sh_int _, ?_⟩
          rw [eqv_int]
          have en : neI (.int i) (.int j) = !decide (i = j) := rfl
          rw [en] at q
          cases ed : decide (i = j) with
          | true =>
            rw [ed] at q
            exact q
          | false =>
            rw [ed] at q
            refine ⟨c, 1, 99, rfl, ?_⟩
            cases ec : withinD 1 99 c with
            | false =>
              rw [ec] at q
              exact q
            | true =>
              rw [ec] at q
              exact ⟨t, 0, 99, rfl, q⟩
theorem sc_is_net : FnScope ["thing", "places", "roads", "road"] ["thing"] (defScope s_is_net) := ⟨rfl, rfl, rfl, by decide +kernel, rfl, by decide +kernel, by decide +kernel⟩
def sd_is_net : SpD := fun ss Qd _ => ∃ x, ss = [.d x] ∧ (∀ a rs, x = .tuple [a, .tuple rs] → rs.length ≤ 1000) ∧ Qd (.d (.bool (netD x)))
theorem c_is_net (T : Tx K mg C) : Cb P w K mg base CX0 4 "is_net" ["thing"] (spD K [] sd_is_net) := by
  obtain ⟨f, fd, D⟩ := T.h_is_net
  refine ⟨f, fd, okD (k := 3) D.F sc_is_net (fun ss Qd R h => ?_) (fun cdv A outer s H E hr => ⟨_, (pss_cons (ps_if (pt_not (pt_val (pe_cb (c_is_tuple_of (K := K) T) (hr.mono (by decide)) (by rfl) pass0 (pa_cons (pv 0) (pa_cons pe_int pa_nil))))) (pss_one (ps_ret pe_bl)) pss_nil)
    (pss_cons (ps_asg (pv 0) (pg_tupK (n := 2) (K := K) rfl (by rfl) (pgs_cons (pg_name (i := 1) sc_is_net.nd rfl (.inr rfl)) (pgs_cons (pg_name (i := 2) sc_is_net.nd rfl (.inl rfl)) pgs_nil))))
    (pss_cons (ps_if (pt_not (pt_val (pe_cb (c_is_within (K := K) T) (hr.mono (by decide)) (by rfl) pass0 (pa_cons (pv 1) (pa_cons pe_int (pa_cons (pe_glob (v := .int 10) (by rfl) (T.c_MOST_PLACES).choose_spec ⟨_, rfl⟩) pa_nil)))))) (pss_one (ps_ret pe_bl)) pss_nil)
    (pss_cons (ps_if (PW.pt (pw_or (pt_not (pt_val (pe_callB (call_isiQ (K := K) rfl) (by rfl) T.isinstance (by decide +kernel) (pa_cons (pv 2) (pa_cons (pe_bltn (v := .ty "tuple") (by rfl) T.tuple (by decide +kernel) rfl) pa_nil))))) (pw_or1 (pt_cmpR op_gt (pe_callB (call_lenK (K := K) rfl) (by rfl) T.len PySem.boot_len (pa_cons (pv 2) pa_nil)) (pe_glob (v := .int 30) (by rfl) (T.c_MOST_ROADS).choose_spec ⟨_, rfl⟩) (nomark _))))) (pss_one (ps_ret pe_bl)) pss_nil)
    (pss_one (ps_ret (pe_callB (cr_allK (K := K) rfl rfl) (by rfl) T.all (by decide +kernel) (pa_cons (pe_lc (own := [("road", 3)]) (g := (gName 3)) (tt := tYes) (by rfl) sc_is_net.nd (pi_tupK (K := K) rfl (pv 2))
      (blkOk_by (own := [("road", 3)]) (N := ["thing", "places", "roads", "road"]) (sc := defScope s_is_net) (by decide +kernel)) (fun _ _ _ _ _ => (pg_name (i := 3) sc_is_net.nd rfl (.inl rfl))) (fun _ _ _ _ _ => pts_nil) (fun _ _ _ _ _ => (pe_cb (c_is_road_among (K := K) T) (hr.mono (by decide)) (by rfl) pass0 (pa_cons (pv 1) (pa_cons (pv 3) pa_nil))))) pa_nil)))))))), ?_⟩), D.g, D.F.kp, D.b⟩
  · obtain ⟨_, rfl, _⟩ := h
    rfl
  · refine ⟨_, fun τ => inferInstance, fun ss Qd R h => ?_⟩
    obtain ⟨x, rfl, hl, q⟩ := h
    refine ⟨x, 2, rfl, ?_⟩
    cases e2 : tupD 2 x with
    | false =>
      have e : netD x = false := by
        unfold netD
        split
        · cases e2
        · rfl
      rw [e] at q
      exact q
    | true =>
      obtain ⟨a, r, rfl⟩ : ∃ a r, x = .tuple [a, r] := by
        cases x with
        | tuple xs =>
          have hl : (xs.length : Int) = 2 := of_decide_eq_true e2
          match xs, hl with
          | [a, b], _ => exact ⟨a, b, rfl⟩
          | [], hl => simp at hl
          | [_], hl => simp at hl
          | _ :: _ :: _ :: _, hl => simp at hl; omega
        | _ => cases e2
      refine ⟨rfl, a, 1, 10, rfl, ?_⟩
      cases ea : withinD 1 10 a with
      | false =>
        have e : netD (.tuple [a, r]) = false := by
          unfold netD
          split
          · rename_i p rs h
            cases h
            rw [ea, Bool.false_and]
          · rfl
        rw [e] at q
        exact q
      | true =>
        obtain ⟨p, rfl, _, _⟩ := withinD_true ea
        cases r with
        | tuple rs =>
          have e : netD (.tuple [.int p, .tuple rs]) = (decide (rs.length ≤ 30) && rs.all (roadD p)) := by
            show (withinD 1 10 (.int p) && _) = _
            rw [ea, Bool.true_and]
          rw [e] at q
          refine ⟨.inr (.inr (.inl rfl)), ?_⟩
          show (match decide ((30 : Int) < (rs.length : Int)) with | true => _ | false => _)
          cases e30 : decide ((30 : Int) < (rs.length : Int)) with
          | true =>
            have h30 := of_decide_eq_true e30
            rw [decide_eq_false (show ¬ (rs.length ≤ 30) by omega), Bool.false_and] at q
            exact q
          | false =>
            have h30 := of_decide_eq_false e30
            rw [decide_eq_true (show rs.length ≤ 30 by omega), Bool.true_and] at q
            refine lcD_map (fun d => .bool (roadD p d)) rs [] (fun d _ acc N ha hN => ⟨d, p, rfl, ha, hN⟩) (by rw [List.length_nil]; omega) ?_
            show fBools gAll [.ml (rs.map fun d => .bool (roadD p d))] _
            have eb : (Sl.ml (rs.map fun d => PyData.bool (roadD p d))).seq.bind (oAll dbool) = some (rs.map (roadD p)) := by
              show oAll dbool (rs.map fun d => .bool (roadD p d)) = _
              rw [show (rs.map fun d => PyData.bool (roadD p d)) = (rs.map (roadD p)).map PyData.bool by rw [List.map_map]; rfl]
              exact bools_of _
            unfold fBools
            dsimp only
            rw [eb]
            show Qd (.d (.bool ((rs.map (roadD p)).all id)))
            rw [List.all_map]
            exact q
        | _ => exact ⟨.inr (.inr (.inl rfl)), q⟩
theorem sc_check_net : FnScope ["thing"] ["thing"] (defScope s_check_net) := ⟨rfl, rfl, rfl, by decide +kernel, rfl, by decide +kernel, by decide +kernel⟩
def sd_check_net (C : Nat → Addr) : SpD := fun ss Qd R => ∃ x, ss = [.d x] ∧ (∀ a rs, x = .tuple [a, .tuple rs] → rs.length ≤ 1000) ∧ (netD x = true → Qd (.d .none)) ∧ (netD x = false → R (C 0, []))
theorem c_check_net (T : Tx K mg C) : Cb P w K mg base (L2.CX P w) 5 "check_net" ["thing"] (spD K [] (sd_check_net C)) := by
  obtain ⟨f, fd, D⟩ := T.h_check_net
  refine ⟨f, fd, okX (k := 4) D.F sc_check_net (fun ss Qd R h => ?_) (fun cdv A outer s H E hr => ⟨_, (pss_one (ps_if (pt_not (pt_val (pe_cb (c_is_net (K := K) T) (hr.mono (by decide)) (by rfl) pass0 (pa_cons (pv 0) pa_nil)))) (pss_one (ps_raiseD rfl (takes_of rfl rfl rfl rfl) (pmk_own PySem.F.excBase_ValueError T.e_NoNet.x T.e_NoNet.g T.e_NoNet.k (raises_own T.e_NoNet.b T.e_NoNet.t) rfl))) pss_nil)), ?_⟩), D.g, D.F.kp, D.b⟩
  · obtain ⟨_, rfl, _⟩ := h
    rfl
  · refine ⟨_, fun τ => inferInstance, fun ss Qd R h => ?_⟩
    obtain ⟨x, rfl, hl, q1, q2⟩ := h
    refine ⟨x, rfl, hl, ?_⟩
    cases e : netD x with
    | true => exact q1 e
    | false => exact q2 e
theorem sc_check_place : FnScope ["net", "thing"] ["net", "thing"] (defScope s_check_place) := ⟨rfl, rfl, rfl, by decide +kernel, rfl, by decide +kernel, by decide +kernel⟩
def sd_check_place (C : Nat → Addr) : SpD := fun ss Qd R => ∃ x, ∃ (p : Int) (r : PyData), ss = [.d (.tuple [.int p, r]), .d x] ∧ (withinD 0 (p - 1) x = true → Qd (.d .none)) ∧ (withinD 0 (p - 1) x = false → R (C 1, []))
theorem c_check_place (T : Tx K mg C) : Cb P w K mg base (L2.CX P w) 3 "check_place" ["net", "thing"] (spD K [] (sd_check_place C)) := by
  obtain ⟨f, fd, D⟩ := T.h_check_place
  refine ⟨f, fd, okX (k := 2) D.F sc_check_place (fun ss Qd R h => ?_) (fun cdv A outer s H E hr => ⟨_, (pss_one (ps_if (pt_not (pt_val (pe_cb (c_is_within (K := K) T) (hr.mono (by decide)) (by rfl) pass0 (pa_cons (pv 1) (pa_cons pe_int (pa_cons (pe_op op_sub (pe_ix (ix_seqK (K := K) rfl) (pv 0) pe_int (fun _ _ => rfl)) pe_int) pa_nil)))))) (pss_one (ps_raiseD rfl (takes_of rfl rfl rfl rfl) (pmk_own PySem.F.excBase_ValueError T.e_NoPlace.x T.e_NoPlace.g T.e_NoPlace.k (raises_own T.e_NoPlace.b T.e_NoPlace.t) rfl))) pss_nil)), ?_⟩), D.g, D.F.kp, D.b⟩
  · obtain ⟨_, _, _, rfl, _⟩ := h
    rfl
  · refine ⟨_, fun τ => inferInstance, fun ss Qd R h => ?_⟩
    obtain ⟨x, p, r, rfl, q1, q2⟩ := h
    refine ⟨x, 0, p - 1, rfl, ?_⟩
    cases e : withinD 0 (p - 1) x with
    | true => exact q1 e
    | false => exact q2 e
theorem sc__law_net : FnScope ["_law_state_here", "_law_most", "_law_far", "_law_places", "_law_roads", "_law_turn", "_law_one", "_law_other", "_law_cost", "_law_time"] ["_law_state_here", "_law_most", "_law_far"] (defScope s__law_net) := ⟨rfl, rfl, rfl, by decide +kernel, rfl, by decide +kernel, by decide +kernel⟩
def sd__law_net : SpD := fun ss Qd _ => ∃ m R : Int, ss = [.st, .d (.int m), .d (.int R)] ∧ 0 < m ∧ m ≤ 10 ∧ 0 ≤ R ∧ R ≤ 30 ∧ ∀ (p : Int) (rs : List Road), NetOk p rs → p ≤ m → (rs.length : Int) ≤ R → Qd (.d (netT p rs))
theorem c__law_net (T : Tx K mg C) : Cb P w K mg base CX0 2 "_law_net" ["_law_state_here", "_law_most", "_law_far"] (spD K [] sd__law_net) := by
  obtain ⟨f, fd, D⟩ := T.h__law_net
  refine ⟨f, fd, okD (k := 1) D.F sc__law_net (fun ss Qd R h => ?_) (fun cdv A outer s H E hr => ⟨_, (pss_cons (ps_par (i := 3) (j := 4) (by rfl) sc__law_net.nd rfl rfl (by decide) rfl rfl (pa_cons (pe_op (op_addK (K := K) rfl) pe_int (pe_cb (c__law_take (K := K) T) (hr.mono (by decide)) (by rfl) pass0 (pa_cons (pv 0) (pa_cons (pv 1) pa_nil)))) (pa_cons (pe_lst pa_nil) pa_nil)) (by rfl))
    (pss_cons (ps_for PassesOwn.never rfl (pi_range1 (by rfl) T.range (pa_cons (pe_op (op_mulK (K := K) rfl) (pe_cb (c__law_take (K := K) T) (hr.mono (by decide)) (by rfl) pass0 (pa_cons (pv 0) (pa_cons (pe_op (op_addK (K := K) rfl) (pv 2) pe_int) pa_nil))) (pe_callTy call_int1 (by rfl) T.int (by decide +kernel) (pa_cons (pe_cmpR op_gt (pv 3) pe_int (nomark _)) pa_nil))) pa_nil)) (pg_name (i := 5) sc__law_net.nd rfl (.inl rfl))
    (pss_cons (ps_set (i := 6) sc__law_net.nd rfl (.inl rfl) (pe_ix (ix_seqK (K := K) rfl) (pe_lst (pa_cons (pe_cb (c__law_take (K := K) T) (hr.mono (by decide)) (by rfl) pass0 (pa_cons (pv 0) (pa_cons (pv 3) pa_nil))) (pa_cons (pe_callB (call_min2 rfl) (by rfl) T.min (by decide +kernel) (pa_cons (pv 5) (pa_cons (pe_op op_sub (pv 3) pe_int) pa_nil))) pa_nil))) (pe_cb (c__law_take (K := K) T) (hr.mono (by decide)) (by rfl) pass0 (pa_cons (pv 0) (pa_cons pe_int pa_nil))) (fun _ _ => rfl)))
    (pss_cons (ps_set (i := 7) sc__law_net.nd rfl (.inl rfl) (pe_op op_mod (pe_op (op_addK (K := K) rfl) (pe_op (op_addK (K := K) rfl) (pv 6) pe_int) (pe_ix (ix_seqK (K := K) rfl) (pe_lst (pa_cons pe_int (pa_cons (pe_cb (c__law_take (K := K) T) (hr.mono (by decide)) (by rfl) pass0 (pa_cons (pv 0) (pa_cons (pe_op op_sub (pv 3) pe_int) pa_nil))) pa_nil))) (pe_cb (c__law_take (K := K) T) (hr.mono (by decide)) (by rfl) pass0 (pa_cons (pv 0) (pa_cons pe_int pa_nil))) (fun _ _ => rfl))) (pv 3)))
    (pss_cons (ps_set (i := 8) sc__law_net.nd rfl (.inl rfl) (pe_ix (ix_seqK (K := K) rfl) (pe_lst (pa_cons (pe_op (op_addK (K := K) rfl) pe_int (pe_cb (c__law_take (K := K) T) (hr.mono (by decide)) (by rfl) pass0 (pa_cons (pv 0) (pa_cons pe_int pa_nil)))) (pa_cons (pe_op (op_addK (K := K) rfl) pe_int (pe_cb (c__law_take (K := K) T) (hr.mono (by decide)) (by rfl) pass0 (pa_cons (pv 0) (pa_cons pe_int pa_nil)))) (pa_cons pe_int pa_nil)))) (pe_cb (c__law_take (K := K) T) (hr.mono (by decide)) (by rfl) pass0 (pa_cons (pv 0) (pa_cons pe_int pa_nil))) (fun _ _ => rfl)))
    (pss_cons (ps_set (i := 9) sc__law_net.nd rfl (.inl rfl) (pe_ix (ix_seqK (K := K) rfl) (pe_lst (pa_cons (pe_cb (c__law_take (K := K) T) (hr.mono (by decide)) (by rfl) pass0 (pa_cons (pv 0) (pa_cons pe_int pa_nil))) (pa_cons (pe_cb (c__law_take (K := K) T) (hr.mono (by decide)) (by rfl) pass0 (pa_cons (pv 0) (pa_cons pe_int pa_nil))) (pa_cons pe_int pa_nil)))) (pe_cb (c__law_take (K := K) T) (hr.mono (by decide)) (by rfl) pass0 (pa_cons (pv 0) (pa_cons pe_int pa_nil))) (fun _ _ => rfl)))
    (pss_one (ps_expr (pe_bmK (K := K) rfl PySem.F.plainAttrs_list PySem.F.slot_list_append PySem.F.type_list_append mt_append (pv 4) (pa_cons (pe_tup (pa_cons (pv 6) (pa_cons (pv 7) (pa_cons (pv 8) (pa_cons (pv 9) pa_nil))))) pa_nil)))))))))
    (pss_one (ps_ret (pe_tup (pa_cons (pv 3) (pa_cons (pe_callTy (call_tupleK (K := K) rfl) (by rfl) T.tuple (by decide +kernel) (pa_cons (pv 4) pa_nil)) pa_nil))))))), ?_⟩), D.g, D.F.kp, D.b⟩
  · obtain ⟨_, _, rfl, _⟩ := h
    rfl
  · refine ⟨_, fun τ => inferInstance, fun ss Qd R h => ?_⟩
    obtain ⟨m, R', rfl, hm0, hm1, hR0, hR1, q⟩ := h
    try simp only [startD, iEn, cvs, cv, vS, Sl.dat, Sl.seq, Sl.sq, Sl.fz, dats, dSetI, dAug, wipeD, List.length_cons, List.length_nil, List.length_append, List.length_replicate, Nat.reduceAdd, Nat.reduceSub, Nat.zero_add, List.replicate_succ, List.replicate_zero, List.cons_append, List.nil_append, List.append_nil, List.set_cons_zero, List.set_cons_succ, List.set_nil, List.getElem?_cons_zero, List.getElem?_cons_succ, Option.getD_some, List.map_cons, List.map_nil, Option.bind_some, fI0_c, fI_c, fU_c, fAddX_i, fAddX_t, fAddX_s, fAddX_mm, fAddX_bm, fAddX_mb, fAddX_bb, fAddX_lm, fAddX_ll, fMulX_i, fMulX_m, fSlX_t, fSlX_m, fSlX_b, fSlX_l, fIs_n, fIs_i, fIs_b, fIs_s, fIs_l, fIs_t, fIs_m, fIs_bl, fLen_t, fLen_l, fLen_m, fLen_b, fLen_scr, fIsi_c, fEqD_c, fEqD_mm, fEqD_bm, fEqD_bb, fEqD_dm, fEq_ss, fInt_i, fInt_b, fTuple_m, fTuple_b, fTuple_t, fTuple_l, fList_m, fList_b, fList_t, fList_l, f2I_c, fRepr_c, fRepr_m, fRepr_b, fStr_c, Bool.not_true, Bool.not_false, true_and, netT, Road.dt, reduceIte, Bool.false_eq_true, decide_true, decide_false, tupK, lstK, dNext_c, dBreak_c, dCont_c, dSeq_c, dDrop_c, dRet_c, retK_d, retK_m, retK_r, dRetN_c, dIfS_c, iteS_t, iteS_f, dSet_c, setK_d, setK_m, setK_s, setK_r, dAsg_c, asgK_d, asgK_m, dFz_c, dNever_c, dRaise_c, dC_c, dOp_c, dUn_c, dTst_c, tstK_c, dTru_c, truK_n, truK_b, truK_i, truK_t, truK_l, truK_m, truK_bl, dNot_c, dAnd_c, andK_t, andK_f, dOr_c, orK_t, orK_f, dAndV_c, andV_t, andV_f, dOrV_c, orV_t, orV_f, dNotV_c, dIf_c, iteE_t, iteE_f, dChain_c, chK_t, chK_f, dNil_c, dCons_c, dCB_c, dCall_c, dCall0_c, dTup_c, dLst_c, dFor_c, dLc_c, iTp_c, tpK_c, iLst_c, lsK_d, lsK_m, iSeq_c, sqK_d, sqK_m, sqK_b, dSl_c, dNo_c, dPt_c, ptK_c, dYes_c, dBack_k, backK_c, dTupRg_c, dLstRg_c, dRg1_c, dRg2_c, rg1K_c, rg2K_c, tupRg_c, lstRg_c, dDict0_c, dDict1_c, gdName_c, gdTup_c, gdCons_c, gdNil_c, dApp_c, appK_c, apK_d, apK_m, dVar_c, varK_d, varK_m, varK_b, varK_s, varK_sc, varK_r, dNew_c, varK_mo, varK_bo, setK_mo, retK_mo, dDIn_c, dinK_i, dinK_s, dDGet_c, dDGet1_c, isBo_c, dget1K_i, dDPut_c, dputV_d, dputK_i, val_mo, dOwn0_c, dDispV_c, dispK_i, fRepT_c, fIsB_c, dM0_c, dM1_c, isStr_c, fQ0_c, fQ1_c, fSplit_c, fLenS_c, iEnSD_c, dSetdIf_c, setdB_f, enSK_m, enSK_d, dOrT_c, dAndT_c, orTK_n, dCallK_c, dCallK0_c, dCallD_c, dCallD0_c, dSaid_c, toldK_d, toldK_m, iRg1_c, rgK_c, iRg2_c, rgK2_c, iEnT_c, enK_c, iZp_c, zpK_tt, zpK_mm, zpK_ll, zpK_lm, zpK_ml, dPar_c, parK_im, parK_nm, parK_sm, parK_dd, parK_md]
    refine ⟨m, rfl, hm0, by omega, fun n n0 n1 => ?_⟩
    try simp only [startD, iEn, cvs, cv, vS, Sl.dat, Sl.seq, Sl.sq, Sl.fz, dats, dSetI, dAug, wipeD, List.length_cons, List.length_nil, List.length_append, List.length_replicate, Nat.reduceAdd, Nat.reduceSub, Nat.zero_add, List.replicate_succ, List.replicate_zero, List.cons_append, List.nil_append, List.append_nil, List.set_cons_zero, List.set_cons_succ, List.set_nil, List.getElem?_cons_zero, List.getElem?_cons_succ, Option.getD_some, List.map_cons, List.map_nil, Option.bind_some, fI0_c, fI_c, fU_c, fAddX_i, fAddX_t, fAddX_s, fAddX_mm, fAddX_bm, fAddX_mb, fAddX_bb, fAddX_lm, fAddX_ll, fMulX_i, fMulX_m, fSlX_t, fSlX_m, fSlX_b, fSlX_l, fIs_n, fIs_i, fIs_b, fIs_s, fIs_l, fIs_t, fIs_m, fIs_bl, fLen_t, fLen_l, fLen_m, fLen_b, fLen_scr, fIsi_c, fEqD_c, fEqD_mm, fEqD_bm, fEqD_bb, fEqD_dm, fEq_ss, fInt_i, fInt_b, fTuple_m, fTuple_b, fTuple_t, fTuple_l, fList_m, fList_b, fList_t, fList_l, f2I_c, fRepr_c, fRepr_m, fRepr_b, fStr_c, Bool.not_true, Bool.not_false, true_and, netT, Road.dt, reduceIte, Bool.false_eq_true, decide_true, decide_false, tupK, lstK, dNext_c, dBreak_c, dCont_c, dSeq_c, dDrop_c, dRet_c, retK_d, retK_m, retK_r, dRetN_c, dIfS_c, iteS_t, iteS_f, dSet_c, setK_d, setK_m, setK_s, setK_r, dAsg_c, asgK_d, asgK_m, dFz_c, dNever_c, dRaise_c, dC_c, dOp_c, dUn_c, dTst_c, tstK_c, dTru_c, truK_n, truK_b, truK_i, truK_t, truK_l, truK_m, truK_bl, dNot_c, dAnd_c, andK_t, andK_f, dOr_c, orK_t, orK_f, dAndV_c, andV_t, andV_f, dOrV_c, orV_t, orV_f, dNotV_c, dIf_c, iteE_t, iteE_f, dChain_c, chK_t, chK_f, dNil_c, dCons_c, dCB_c, dCall_c, dCall0_c, dTup_c, dLst_c, dFor_c, dLc_c, iTp_c, tpK_c, iLst_c, lsK_d, lsK_m, iSeq_c, sqK_d, sqK_m, sqK_b, dSl_c, dNo_c, dPt_c, ptK_c, dYes_c, dBack_k, backK_c, dTupRg_c, dLstRg_c, dRg1_c, dRg2_c, rg1K_c, rg2K_c, tupRg_c, lstRg_c, dDict0_c, dDict1_c, gdName_c, gdTup_c, gdCons_c, gdNil_c, dApp_c, appK_c, apK_d, apK_m, dVar_c, varK_d, varK_m, varK_b, varK_s, varK_sc, varK_r, dNew_c, varK_mo, varK_bo, setK_mo, retK_mo, dDIn_c, dinK_i, dinK_s, dDGet_c, dDGet1_c, isBo_c, dget1K_i, dDPut_c, dputV_d, dputK_i, val_mo, dOwn0_c, dDispV_c, dispK_i, fRepT_c, fIsB_c, dM0_c, dM1_c, isStr_c, fQ0_c, fQ1_c, fSplit_c, fLenS_c, iEnSD_c, dSetdIf_c, setdB_f, enSK_m, enSK_d, dOrT_c, dAndT_c, orTK_n, dCallK_c, dCallK0_c, dCallD_c, dCallD0_c, dSaid_c, toldK_d, toldK_m, iRg1_c, rgK_c, iRg2_c, rgK2_c, iEnT_c, enK_c, iZp_c, zpK_tt, zpK_mm, zpK_ll, zpK_lm, zpK_ml, dPar_c, parK_im, parK_nm, parK_sm, parK_dd, parK_md]
    refine ⟨Nat.zero_le _, R' + 1, rfl, by omega, by omega, fun c c0 c1 => ?_⟩
    try simp only [startD, iEn, cvs, cv, vS, Sl.dat, Sl.seq, Sl.sq, Sl.fz, dats, dSetI, dAug, wipeD, List.length_cons, List.length_nil, List.length_append, List.length_replicate, Nat.reduceAdd, Nat.reduceSub, Nat.zero_add, List.replicate_succ, List.replicate_zero, List.cons_append, List.nil_append, List.append_nil, List.set_cons_zero, List.set_cons_succ, List.set_nil, List.getElem?_cons_zero, List.getElem?_cons_succ, Option.getD_some, List.map_cons, List.map_nil, Option.bind_some, fI0_c, fI_c, fU_c, fAddX_i, fAddX_t, fAddX_s, fAddX_mm, fAddX_bm, fAddX_mb, fAddX_bb, fAddX_lm, fAddX_ll, fMulX_i, fMulX_m, fSlX_t, fSlX_m, fSlX_b, fSlX_l, fIs_n, fIs_i, fIs_b, fIs_s, fIs_l, fIs_t, fIs_m, fIs_bl, fLen_t, fLen_l, fLen_m, fLen_b, fLen_scr, fIsi_c, fEqD_c, fEqD_mm, fEqD_bm, fEqD_bb, fEqD_dm, fEq_ss, fInt_i, fInt_b, fTuple_m, fTuple_b, fTuple_t, fTuple_l, fList_m, fList_b, fList_t, fList_l, f2I_c, fRepr_c, fRepr_m, fRepr_b, fStr_c, Bool.not_true, Bool.not_false, true_and, netT, Road.dt, reduceIte, Bool.false_eq_true, decide_true, decide_false, tupK, lstK, dNext_c, dBreak_c, dCont_c, dSeq_c, dDrop_c, dRet_c, retK_d, retK_m, retK_r, dRetN_c, dIfS_c, iteS_t, iteS_f, dSet_c, setK_d, setK_m, setK_s, setK_r, dAsg_c, asgK_d, asgK_m, dFz_c, dNever_c, dRaise_c, dC_c, dOp_c, dUn_c, dTst_c, tstK_c, dTru_c, truK_n, truK_b, truK_i, truK_t, truK_l, truK_m, truK_bl, dNot_c, dAnd_c, andK_t, andK_f, dOr_c, orK_t, orK_f, dAndV_c, andV_t, andV_f, dOrV_c, orV_t, orV_f, dNotV_c, dIf_c, iteE_t, iteE_f, dChain_c, chK_t, chK_f, dNil_c, dCons_c, dCB_c, dCall_c, dCall0_c, dTup_c, dLst_c, dFor_c, dLc_c, iTp_c, tpK_c, iLst_c, lsK_d, lsK_m, iSeq_c, sqK_d, sqK_m, sqK_b, dSl_c, dNo_c, dPt_c, ptK_c, dYes_c, dBack_k, backK_c, dTupRg_c, dLstRg_c, dRg1_c, dRg2_c, rg1K_c, rg2K_c, tupRg_c, lstRg_c, dDict0_c, dDict1_c, gdName_c, gdTup_c, gdCons_c, gdNil_c, dApp_c, appK_c, apK_d, apK_m, dVar_c, varK_d, varK_m, varK_b, varK_s, varK_sc, varK_r, dNew_c, varK_mo, varK_bo, setK_mo, retK_mo, dDIn_c, dinK_i, dinK_s, dDGet_c, dDGet1_c, isBo_c, dget1K_i, dDPut_c, dputV_d, dputK_i, val_mo, dOwn0_c, dDispV_c, dispK_i, fRepT_c, fIsB_c, dM0_c, dM1_c, isStr_c, fQ0_c, fQ1_c, fSplit_c, fLenS_c, iEnSD_c, dSetdIf_c, setdB_f, enSK_m, enSK_d, dOrT_c, dAndT_c, orTK_n, dCallK_c, dCallK0_c, dCallD_c, dCallD0_c, dSaid_c, toldK_d, toldK_m, iRg1_c, rgK_c, iRg2_c, rgK2_c, iEnT_c, enK_c, iZp_c, zpK_tt, zpK_mm, zpK_ll, zpK_lm, zpK_ml, dPar_c, parK_im, parK_nm, parK_sm, parK_dd, parK_md]
    obtain ⟨p, hp⟩ : ∃ p : Int, p = 1 + n := ⟨_, rfl⟩
    rw [← hp]
    -- so many turns
    obtain ⟨t, ht, ht2⟩ : ∃ t : Nat, (c * (if decide (1 < p) = true then 1 else 0)) = (t : Int) ∧ ((t : Int) ≤ R' ∧ (1 < p ∨ t = 0)) := by
      by_cases h : 1 < p
      · rw [if_pos (decide_eq_true h)]
        exact ⟨c.toNat, by omega, by omega, .inl h⟩
      · rw [if_neg (by rw [decide_eq_true_eq]; exact h)]
        exact ⟨0, by omega, by omega, .inr rfl⟩
    refine ⟨.inr ⟨by split <;> decide, by split <;> decide⟩, ?_⟩
    rw [ht]
    refine ⟨by omega, by omega, ?_⟩
    rw [Int.toNat_natCast]
    refine forD_by (fun i ρ => ∃ y5 y6 y7 y8 y9 rs, ρ = [.st, .d (.int m), .d (.int R'), .d (.int p), .ml (rs.map Road.dt), y5, y6, y7, y8, y9] ∧ rs.length = i ∧ ∀ q ∈ rs, RoadOk p q) ⟨.un, .un, .un, .un, .un, [], rfl, rfl, fun _ h => nomatch h⟩ (fun i d ρ N hd h hN => ?_) (fun ρ h => ?_)
    · obtain ⟨y5, y6, y7, y8, y9, rs, rfl, hl, hok⟩ := h
      obtain ⟨hi, rfl⟩ := rangeD_get hd
      have p1 : 1 < p := by
        rcases ht2.2 with z | z
        · exact z
        · omega
      have two : 2 ≤ sizeLine := by decide
      have three : 3 ≤ sizeLine := by decide
      have four : 4 ≤ sizeLine := by decide
      try simp only [startD, iEn, cvs, cv, vS, Sl.dat, Sl.seq, Sl.sq, Sl.fz, dats, dSetI, dAug, wipeD, List.length_cons, List.length_nil, List.length_append, List.length_replicate, Nat.reduceAdd, Nat.reduceSub, Nat.zero_add, List.replicate_succ, List.replicate_zero, List.cons_append, List.nil_append, List.append_nil, List.set_cons_zero, List.set_cons_succ, List.set_nil, List.getElem?_cons_zero, List.getElem?_cons_succ, Option.getD_some, List.map_cons, List.map_nil, Option.bind_some, fI0_c, fI_c, fU_c, fAddX_i, fAddX_t, fAddX_s, fAddX_mm, fAddX_bm, fAddX_mb, fAddX_bb, fAddX_lm, fAddX_ll, fMulX_i, fMulX_m, fSlX_t, fSlX_m, fSlX_b, fSlX_l, fIs_n, fIs_i, fIs_b, fIs_s, fIs_l, fIs_t, fIs_m, fIs_bl, fLen_t, fLen_l, fLen_m, fLen_b, fLen_scr, fIsi_c, fEqD_c, fEqD_mm, fEqD_bm, fEqD_bb, fEqD_dm, fEq_ss, fInt_i, fInt_b, fTuple_m, fTuple_b, fTuple_t, fTuple_l, fList_m, fList_b, fList_t, fList_l, f2I_c, fRepr_c, fRepr_m, fRepr_b, fStr_c, Bool.not_true, Bool.not_false, true_and, netT, Road.dt, reduceIte, Bool.false_eq_true, decide_true, decide_false, tupK, lstK, dNext_c, dBreak_c, dCont_c, dSeq_c, dDrop_c, dRet_c, retK_d, retK_m, retK_r, dRetN_c, dIfS_c, iteS_t, iteS_f, dSet_c, setK_d, setK_m, setK_s, setK_r, dAsg_c, asgK_d, asgK_m, dFz_c, dNever_c, dRaise_c, dC_c, dOp_c, dUn_c, dTst_c, tstK_c, dTru_c, truK_n, truK_b, truK_i, truK_t, truK_l, truK_m, truK_bl, dNot_c, dAnd_c, andK_t, andK_f, dOr_c, orK_t, orK_f, dAndV_c, andV_t, andV_f, dOrV_c, orV_t, orV_f, dNotV_c, dIf_c, iteE_t, iteE_f, dChain_c, chK_t, chK_f, dNil_c, dCons_c, dCB_c, dCall_c, dCall0_c, dTup_c, dLst_c, dFor_c, dLc_c, iTp_c, tpK_c, iLst_c, lsK_d, lsK_m, iSeq_c, sqK_d, sqK_m, sqK_b, dSl_c, dNo_c, dPt_c, ptK_c, dYes_c, dBack_k, backK_c, dTupRg_c, dLstRg_c, dRg1_c, dRg2_c, rg1K_c, rg2K_c, tupRg_c, lstRg_c, dDict0_c, dDict1_c, gdName_c, gdTup_c, gdCons_c, gdNil_c, dApp_c, appK_c, apK_d, apK_m, dVar_c, varK_d, varK_m, varK_b, varK_s, varK_sc, varK_r, dNew_c, varK_mo, varK_bo, setK_mo, retK_mo, dDIn_c, dinK_i, dinK_s, dDGet_c, dDGet1_c, isBo_c, dget1K_i, dDPut_c, dputV_d, dputK_i, val_mo, dOwn0_c, dDispV_c, dispK_i, fRepT_c, fIsB_c, dM0_c, dM1_c, isStr_c, fQ0_c, fQ1_c, fSplit_c, fLenS_c, iEnSD_c, dSetdIf_c, setdB_f, enSK_m, enSK_d, dOrT_c, dAndT_c, orTK_n, dCallK_c, dCallK0_c, dCallD_c, dCallD0_c, dSaid_c, toldK_d, toldK_m, iRg1_c, rgK_c, iRg2_c, rgK2_c, iEnT_c, enK_c, iZp_c, zpK_tt, zpK_mm, zpK_ll, zpK_lm, zpK_ml, dPar_c, parK_im, parK_nm, parK_sm, parK_dd, parK_md]
      refine ⟨p, rfl, by omega, by omega, fun a a0 a1 => ?_⟩
      try simp only [startD, iEn, cvs, cv, vS, Sl.dat, Sl.seq, Sl.sq, Sl.fz, dats, dSetI, dAug, wipeD, List.length_cons, List.length_nil, List.length_append, List.length_replicate, Nat.reduceAdd, Nat.reduceSub, Nat.zero_add, List.replicate_succ, List.replicate_zero, List.cons_append, List.nil_append, List.append_nil, List.set_cons_zero, List.set_cons_succ, List.set_nil, List.getElem?_cons_zero, List.getElem?_cons_succ, Option.getD_some, List.map_cons, List.map_nil, Option.bind_some, fI0_c, fI_c, fU_c, fAddX_i, fAddX_t, fAddX_s, fAddX_mm, fAddX_bm, fAddX_mb, fAddX_bb, fAddX_lm, fAddX_ll, fMulX_i, fMulX_m, fSlX_t, fSlX_m, fSlX_b, fSlX_l, fIs_n, fIs_i, fIs_b, fIs_s, fIs_l, fIs_t, fIs_m, fIs_bl, fLen_t, fLen_l, fLen_m, fLen_b, fLen_scr, fIsi_c, fEqD_c, fEqD_mm, fEqD_bm, fEqD_bb, fEqD_dm, fEq_ss, fInt_i, fInt_b, fTuple_m, fTuple_b, fTuple_t, fTuple_l, fList_m, fList_b, fList_t, fList_l, f2I_c, fRepr_c, fRepr_m, fRepr_b, fStr_c, Bool.not_true, Bool.not_false, true_and, netT, Road.dt, reduceIte, Bool.false_eq_true, decide_true, decide_false, tupK, lstK, dNext_c, dBreak_c, dCont_c, dSeq_c, dDrop_c, dRet_c, retK_d, retK_m, retK_r, dRetN_c, dIfS_c, iteS_t, iteS_f, dSet_c, setK_d, setK_m, setK_s, setK_r, dAsg_c, asgK_d, asgK_m, dFz_c, dNever_c, dRaise_c, dC_c, dOp_c, dUn_c, dTst_c, tstK_c, dTru_c, truK_n, truK_b, truK_i, truK_t, truK_l, truK_m, truK_bl, dNot_c, dAnd_c, andK_t, andK_f, dOr_c, orK_t, orK_f, dAndV_c, andV_t, andV_f, dOrV_c, orV_t, orV_f, dNotV_c, dIf_c, iteE_t, iteE_f, dChain_c, chK_t, chK_f, dNil_c, dCons_c, dCB_c, dCall_c, dCall0_c, dTup_c, dLst_c, dFor_c, dLc_c, iTp_c, tpK_c, iLst_c, lsK_d, lsK_m, iSeq_c, sqK_d, sqK_m, sqK_b, dSl_c, dNo_c, dPt_c, ptK_c, dYes_c, dBack_k, backK_c, dTupRg_c, dLstRg_c, dRg1_c, dRg2_c, rg1K_c, rg2K_c, tupRg_c, lstRg_c, dDict0_c, dDict1_c, gdName_c, gdTup_c, gdCons_c, gdNil_c, dApp_c, appK_c, apK_d, apK_m, dVar_c, varK_d, varK_m, varK_b, varK_s, varK_sc, varK_r, dNew_c, varK_mo, varK_bo, setK_mo, retK_mo, dDIn_c, dinK_i, dinK_s, dDGet_c, dDGet1_c, isBo_c, dget1K_i, dDPut_c, dputV_d, dputK_i, val_mo, dOwn0_c, dDispV_c, dispK_i, fRepT_c, fIsB_c, dM0_c, dM1_c, isStr_c, fQ0_c, fQ1_c, fSplit_c, fLenS_c, iEnSD_c, dSetdIf_c, setdB_f, enSK_m, enSK_d, dOrT_c, dAndT_c, orTK_n, dCallK_c, dCallK0_c, dCallD_c, dCallD0_c, dSaid_c, toldK_d, toldK_m, iRg1_c, rgK_c, iRg2_c, rgK2_c, iEnT_c, enK_c, iZp_c, zpK_tt, zpK_mm, zpK_ll, zpK_lm, zpK_ml, dPar_c, parK_im, parK_nm, parK_sm, parK_dd, parK_md]
      refine ⟨two, 2, rfl, by decide, by decide, fun b b0 b1 => ?_⟩
      refine fIx_num (lo := 0) (hi := p - 1) b0 b1 (fun d hd => ?_) fun one o0 o1 => ?_
      · simp only [List.mem_cons, List.not_mem_nil, or_false] at hd
        rcases hd with rfl | rfl
        · exact ⟨_, rfl, a0, by omega⟩
        · exact ⟨_, rfl, by split <;> omega, by split <;> omega⟩
      try simp only [startD, iEn, cvs, cv, vS, Sl.dat, Sl.seq, Sl.sq, Sl.fz, dats, dSetI, dAug, wipeD, List.length_cons, List.length_nil, List.length_append, List.length_replicate, Nat.reduceAdd, Nat.reduceSub, Nat.zero_add, List.replicate_succ, List.replicate_zero, List.cons_append, List.nil_append, List.append_nil, List.set_cons_zero, List.set_cons_succ, List.set_nil, List.getElem?_cons_zero, List.getElem?_cons_succ, Option.getD_some, List.map_cons, List.map_nil, Option.bind_some, fI0_c, fI_c, fU_c, fAddX_i, fAddX_t, fAddX_s, fAddX_mm, fAddX_bm, fAddX_mb, fAddX_bb, fAddX_lm, fAddX_ll, fMulX_i, fMulX_m, fSlX_t, fSlX_m, fSlX_b, fSlX_l, fIs_n, fIs_i, fIs_b, fIs_s, fIs_l, fIs_t, fIs_m, fIs_bl, fLen_t, fLen_l, fLen_m, fLen_b, fLen_scr, fIsi_c, fEqD_c, fEqD_mm, fEqD_bm, fEqD_bb, fEqD_dm, fEq_ss, fInt_i, fInt_b, fTuple_m, fTuple_b, fTuple_t, fTuple_l, fList_m, fList_b, fList_t, fList_l, f2I_c, fRepr_c, fRepr_m, fRepr_b, fStr_c, Bool.not_true, Bool.not_false, true_and, netT, Road.dt, reduceIte, Bool.false_eq_true, decide_true, decide_false, tupK, lstK, dNext_c, dBreak_c, dCont_c, dSeq_c, dDrop_c, dRet_c, retK_d, retK_m, retK_r, dRetN_c, dIfS_c, iteS_t, iteS_f, dSet_c, setK_d, setK_m, setK_s, setK_r, dAsg_c, asgK_d, asgK_m, dFz_c, dNever_c, dRaise_c, dC_c, dOp_c, dUn_c, dTst_c, tstK_c, dTru_c, truK_n, truK_b, truK_i, truK_t, truK_l, truK_m, truK_bl, dNot_c, dAnd_c, andK_t, andK_f, dOr_c, orK_t, orK_f, dAndV_c, andV_t, andV_f, dOrV_c, orV_t, orV_f, dNotV_c, dIf_c, iteE_t, iteE_f, dChain_c, chK_t, chK_f, dNil_c, dCons_c, dCB_c, dCall_c, dCall0_c, dTup_c, dLst_c, dFor_c, dLc_c, iTp_c, tpK_c, iLst_c, lsK_d, lsK_m, iSeq_c, sqK_d, sqK_m, sqK_b, dSl_c, dNo_c, dPt_c, ptK_c, dYes_c, dBack_k, backK_c, dTupRg_c, dLstRg_c, dRg1_c, dRg2_c, rg1K_c, rg2K_c, tupRg_c, lstRg_c, dDict0_c, dDict1_c, gdName_c, gdTup_c, gdCons_c, gdNil_c, dApp_c, appK_c, apK_d, apK_m, dVar_c, varK_d, varK_m, varK_b, varK_s, varK_sc, varK_r, dNew_c, varK_mo, varK_bo, setK_mo, retK_mo, dDIn_c, dinK_i, dinK_s, dDGet_c, dDGet1_c, isBo_c, dget1K_i, dDPut_c, dputV_d, dputK_i, val_mo, dOwn0_c, dDispV_c, dispK_i, fRepT_c, fIsB_c, dM0_c, dM1_c, isStr_c, fQ0_c, fQ1_c, fSplit_c, fLenS_c, iEnSD_c, dSetdIf_c, setdB_f, enSK_m, enSK_d, dOrT_c, dAndT_c, orTK_n, dCallK_c, dCallK0_c, dCallD_c, dCallD0_c, dSaid_c, toldK_d, toldK_m, iRg1_c, rgK_c, iRg2_c, rgK2_c, iEnT_c, enK_c, iZp_c, zpK_tt, zpK_mm, zpK_ll, zpK_lm, zpK_ml, dPar_c, parK_im, parK_nm, parK_sm, parK_dd, parK_md]
      refine ⟨p - 1, rfl, by omega, by omega, fun a a0 a1 => ?_⟩
      try simp only [startD, iEn, cvs, cv, vS, Sl.dat, Sl.seq, Sl.sq, Sl.fz, dats, dSetI, dAug, wipeD, List.length_cons, List.length_nil, List.length_append, List.length_replicate, Nat.reduceAdd, Nat.reduceSub, Nat.zero_add, List.replicate_succ, List.replicate_zero, List.cons_append, List.nil_append, List.append_nil, List.set_cons_zero, List.set_cons_succ, List.set_nil, List.getElem?_cons_zero, List.getElem?_cons_succ, Option.getD_some, List.map_cons, List.map_nil, Option.bind_some, fI0_c, fI_c, fU_c, fAddX_i, fAddX_t, fAddX_s, fAddX_mm, fAddX_bm, fAddX_mb, fAddX_bb, fAddX_lm, fAddX_ll, fMulX_i, fMulX_m, fSlX_t, fSlX_m, fSlX_b, fSlX_l, fIs_n, fIs_i, fIs_b, fIs_s, fIs_l, fIs_t, fIs_m, fIs_bl, fLen_t, fLen_l, fLen_m, fLen_b, fLen_scr, fIsi_c, fEqD_c, fEqD_mm, fEqD_bm, fEqD_bb, fEqD_dm, fEq_ss, fInt_i, fInt_b, fTuple_m, fTuple_b, fTuple_t, fTuple_l, fList_m, fList_b, fList_t, fList_l, f2I_c, fRepr_c, fRepr_m, fRepr_b, fStr_c, Bool.not_true, Bool.not_false, true_and, netT, Road.dt, reduceIte, Bool.false_eq_true, decide_true, decide_false, tupK, lstK, dNext_c, dBreak_c, dCont_c, dSeq_c, dDrop_c, dRet_c, retK_d, retK_m, retK_r, dRetN_c, dIfS_c, iteS_t, iteS_f, dSet_c, setK_d, setK_m, setK_s, setK_r, dAsg_c, asgK_d, asgK_m, dFz_c, dNever_c, dRaise_c, dC_c, dOp_c, dUn_c, dTst_c, tstK_c, dTru_c, truK_n, truK_b, truK_i, truK_t, truK_l, truK_m, truK_bl, dNot_c, dAnd_c, andK_t, andK_f, dOr_c, orK_t, orK_f, dAndV_c, andV_t, andV_f, dOrV_c, orV_t, orV_f, dNotV_c, dIf_c, iteE_t, iteE_f, dChain_c, chK_t, chK_f, dNil_c, dCons_c, dCB_c, dCall_c, dCall0_c, dTup_c, dLst_c, dFor_c, dLc_c, iTp_c, tpK_c, iLst_c, lsK_d, lsK_m, iSeq_c, sqK_d, sqK_m, sqK_b, dSl_c, dNo_c, dPt_c, ptK_c, dYes_c, dBack_k, backK_c, dTupRg_c, dLstRg_c, dRg1_c, dRg2_c, rg1K_c, rg2K_c, tupRg_c, lstRg_c, dDict0_c, dDict1_c, gdName_c, gdTup_c, gdCons_c, gdNil_c, dApp_c, appK_c, apK_d, apK_m, dVar_c, varK_d, varK_m, varK_b, varK_s, varK_sc, varK_r, dNew_c, varK_mo, varK_bo, setK_mo, retK_mo, dDIn_c, dinK_i, dinK_s, dDGet_c, dDGet1_c, isBo_c, dget1K_i, dDPut_c, dputV_d, dputK_i, val_mo, dOwn0_c, dDispV_c, dispK_i, fRepT_c, fIsB_c, dM0_c, dM1_c, isStr_c, fQ0_c, fQ1_c, fSplit_c, fLenS_c, iEnSD_c, dSetdIf_c, setdB_f, enSK_m, enSK_d, dOrT_c, dAndT_c, orTK_n, dCallK_c, dCallK0_c, dCallD_c, dCallD0_c, dSaid_c, toldK_d, toldK_m, iRg1_c, rgK_c, iRg2_c, rgK2_c, iEnT_c, enK_c, iZp_c, zpK_tt, zpK_mm, zpK_ll, zpK_lm, zpK_ml, dPar_c, parK_im, parK_nm, parK_sm, parK_dd, parK_md]
      refine ⟨two, 2, rfl, by decide, by decide, fun b b0 b1 => ?_⟩
      refine fIx_num (lo := 0) (hi := p - 2) b0 b1 (fun d hd => ?_) fun far f0 f1 => ?_
      · simp only [List.mem_cons, List.not_mem_nil, or_false] at hd
        rcases hd with rfl | rfl
        · exact ⟨_, rfl, by omega, by omega⟩
        · exact ⟨_, rfl, by omega, by omega⟩
      try simp only [startD, iEn, cvs, cv, vS, Sl.dat, Sl.seq, Sl.sq, Sl.fz, dats, dSetI, dAug, wipeD, List.length_cons, List.length_nil, List.length_append, List.length_replicate, Nat.reduceAdd, Nat.reduceSub, Nat.zero_add, List.replicate_succ, List.replicate_zero, List.cons_append, List.nil_append, List.append_nil, List.set_cons_zero, List.set_cons_succ, List.set_nil, List.getElem?_cons_zero, List.getElem?_cons_succ, Option.getD_some, List.map_cons, List.map_nil, Option.bind_some, fI0_c, fI_c, fU_c, fAddX_i, fAddX_t, fAddX_s, fAddX_mm, fAddX_bm, fAddX_mb, fAddX_bb, fAddX_lm, fAddX_ll, fMulX_i, fMulX_m, fSlX_t, fSlX_m, fSlX_b, fSlX_l, fIs_n, fIs_i, fIs_b, fIs_s, fIs_l, fIs_t, fIs_m, fIs_bl, fLen_t, fLen_l, fLen_m, fLen_b, fLen_scr, fIsi_c, fEqD_c, fEqD_mm, fEqD_bm, fEqD_bb, fEqD_dm, fEq_ss, fInt_i, fInt_b, fTuple_m, fTuple_b, fTuple_t, fTuple_l, fList_m, fList_b, fList_t, fList_l, f2I_c, fRepr_c, fRepr_m, fRepr_b, fStr_c, Bool.not_true, Bool.not_false, true_and, netT, Road.dt, reduceIte, Bool.false_eq_true, decide_true, decide_false, tupK, lstK, dNext_c, dBreak_c, dCont_c, dSeq_c, dDrop_c, dRet_c, retK_d, retK_m, retK_r, dRetN_c, dIfS_c, iteS_t, iteS_f, dSet_c, setK_d, setK_m, setK_s, setK_r, dAsg_c, asgK_d, asgK_m, dFz_c, dNever_c, dRaise_c, dC_c, dOp_c, dUn_c, dTst_c, tstK_c, dTru_c, truK_n, truK_b, truK_i, truK_t, truK_l, truK_m, truK_bl, dNot_c, dAnd_c, andK_t, andK_f, dOr_c, orK_t, orK_f, dAndV_c, andV_t, andV_f, dOrV_c, orV_t, orV_f, dNotV_c, dIf_c, iteE_t, iteE_f, dChain_c, chK_t, chK_f, dNil_c, dCons_c, dCB_c, dCall_c, dCall0_c, dTup_c, dLst_c, dFor_c, dLc_c, iTp_c, tpK_c, iLst_c, lsK_d, lsK_m, iSeq_c, sqK_d, sqK_m, sqK_b, dSl_c, dNo_c, dPt_c, ptK_c, dYes_c, dBack_k, backK_c, dTupRg_c, dLstRg_c, dRg1_c, dRg2_c, rg1K_c, rg2K_c, tupRg_c, lstRg_c, dDict0_c, dDict1_c, gdName_c, gdTup_c, gdCons_c, gdNil_c, dApp_c, appK_c, apK_d, apK_m, dVar_c, varK_d, varK_m, varK_b, varK_s, varK_sc, varK_r, dNew_c, varK_mo, varK_bo, setK_mo, retK_mo, dDIn_c, dinK_i, dinK_s, dDGet_c, dDGet1_c, isBo_c, dget1K_i, dDPut_c, dputV_d, dputK_i, val_mo, dOwn0_c, dDispV_c, dispK_i, fRepT_c, fIsB_c, dM0_c, dM1_c, isStr_c, fQ0_c, fQ1_c, fSplit_c, fLenS_c, iEnSD_c, dSetdIf_c, setdB_f, enSK_m, enSK_d, dOrT_c, dAndT_c, orTK_n, dCallK_c, dCallK0_c, dCallD_c, dCallD0_c, dSaid_c, toldK_d, toldK_m, iRg1_c, rgK_c, iRg2_c, rgK2_c, iEnT_c, enK_c, iZp_c, zpK_tt, zpK_mm, zpK_ll, zpK_lm, zpK_ml, dPar_c, parK_im, parK_nm, parK_sm, parK_dd, parK_md]
      obtain ⟨u0, u1, u2⟩ := other_ok (p := p) o0 (by omega) f0 (by omega)
      refine ⟨by omega, 4, rfl, by decide, by decide, fun a a0 a1 => ?_⟩
      try simp only [startD, iEn, cvs, cv, vS, Sl.dat, Sl.seq, Sl.sq, Sl.fz, dats, dSetI, dAug, wipeD, List.length_cons, List.length_nil, List.length_append, List.length_replicate, Nat.reduceAdd, Nat.reduceSub, Nat.zero_add, List.replicate_succ, List.replicate_zero, List.cons_append, List.nil_append, List.append_nil, List.set_cons_zero, List.set_cons_succ, List.set_nil, List.getElem?_cons_zero, List.getElem?_cons_succ, Option.getD_some, List.map_cons, List.map_nil, Option.bind_some, fI0_c, fI_c, fU_c, fAddX_i, fAddX_t, fAddX_s, fAddX_mm, fAddX_bm, fAddX_mb, fAddX_bb, fAddX_lm, fAddX_ll, fMulX_i, fMulX_m, fSlX_t, fSlX_m, fSlX_b, fSlX_l, fIs_n, fIs_i, fIs_b, fIs_s, fIs_l, fIs_t, fIs_m, fIs_bl, fLen_t, fLen_l, fLen_m, fLen_b, fLen_scr, fIsi_c, fEqD_c, fEqD_mm, fEqD_bm, fEqD_bb, fEqD_dm, fEq_ss, fInt_i, fInt_b, fTuple_m, fTuple_b, fTuple_t, fTuple_l, fList_m, fList_b, fList_t, fList_l, f2I_c, fRepr_c, fRepr_m, fRepr_b, fStr_c, Bool.not_true, Bool.not_false, true_and, netT, Road.dt, reduceIte, Bool.false_eq_true, decide_true, decide_false, tupK, lstK, dNext_c, dBreak_c, dCont_c, dSeq_c, dDrop_c, dRet_c, retK_d, retK_m, retK_r, dRetN_c, dIfS_c, iteS_t, iteS_f, dSet_c, setK_d, setK_m, setK_s, setK_r, dAsg_c, asgK_d, asgK_m, dFz_c, dNever_c, dRaise_c, dC_c, dOp_c, dUn_c, dTst_c, tstK_c, dTru_c, truK_n, truK_b, truK_i, truK_t, truK_l, truK_m, truK_bl, dNot_c, dAnd_c, andK_t, andK_f, dOr_c, orK_t, orK_f, dAndV_c, andV_t, andV_f, dOrV_c, orV_t, orV_f, dNotV_c, dIf_c, iteE_t, iteE_f, dChain_c, chK_t, chK_f, dNil_c, dCons_c, dCB_c, dCall_c, dCall0_c, dTup_c, dLst_c, dFor_c, dLc_c, iTp_c, tpK_c, iLst_c, lsK_d, lsK_m, iSeq_c, sqK_d, sqK_m, sqK_b, dSl_c, dNo_c, dPt_c, ptK_c, dYes_c, dBack_k, backK_c, dTupRg_c, dLstRg_c, dRg1_c, dRg2_c, rg1K_c, rg2K_c, tupRg_c, lstRg_c, dDict0_c, dDict1_c, gdName_c, gdTup_c, gdCons_c, gdNil_c, dApp_c, appK_c, apK_d, apK_m, dVar_c, varK_d, varK_m, varK_b, varK_s, varK_sc, varK_r, dNew_c, varK_mo, varK_bo, setK_mo, retK_mo, dDIn_c, dinK_i, dinK_s, dDGet_c, dDGet1_c, isBo_c, dget1K_i, dDPut_c, dputV_d, dputK_i, val_mo, dOwn0_c, dDispV_c, dispK_i, fRepT_c, fIsB_c, dM0_c, dM1_c, isStr_c, fQ0_c, fQ1_c, fSplit_c, fLenS_c, iEnSD_c, dSetdIf_c, setdB_f, enSK_m, enSK_d, dOrT_c, dAndT_c, orTK_n, dCallK_c, dCallK0_c, dCallD_c, dCallD0_c, dSaid_c, toldK_d, toldK_m, iRg1_c, rgK_c, iRg2_c, rgK2_c, iEnT_c, enK_c, iZp_c, zpK_tt, zpK_mm, zpK_ll, zpK_lm, zpK_ml, dPar_c, parK_im, parK_nm, parK_sm, parK_dd, parK_md]
      refine ⟨99, rfl, by decide, by decide, fun b b0 b1 => ?_⟩
      try simp only [startD, iEn, cvs, cv, vS, Sl.dat, Sl.seq, Sl.sq, Sl.fz, dats, dSetI, dAug, wipeD, List.length_cons, List.length_nil, List.length_append, List.length_replicate, Nat.reduceAdd, Nat.reduceSub, Nat.zero_add, List.replicate_succ, List.replicate_zero, List.cons_append, List.nil_append, List.append_nil, List.set_cons_zero, List.set_cons_succ, List.set_nil, List.getElem?_cons_zero, List.getElem?_cons_succ, Option.getD_some, List.map_cons, List.map_nil, Option.bind_some, fI0_c, fI_c, fU_c, fAddX_i, fAddX_t, fAddX_s, fAddX_mm, fAddX_bm, fAddX_mb, fAddX_bb, fAddX_lm, fAddX_ll, fMulX_i, fMulX_m, fSlX_t, fSlX_m, fSlX_b, fSlX_l, fIs_n, fIs_i, fIs_b, fIs_s, fIs_l, fIs_t, fIs_m, fIs_bl, fLen_t, fLen_l, fLen_m, fLen_b, fLen_scr, fIsi_c, fEqD_c, fEqD_mm, fEqD_bm, fEqD_bb, fEqD_dm, fEq_ss, fInt_i, fInt_b, fTuple_m, fTuple_b, fTuple_t, fTuple_l, fList_m, fList_b, fList_t, fList_l, f2I_c, fRepr_c, fRepr_m, fRepr_b, fStr_c, Bool.not_true, Bool.not_false, true_and, netT, Road.dt, reduceIte, Bool.false_eq_true, decide_true, decide_false, tupK, lstK, dNext_c, dBreak_c, dCont_c, dSeq_c, dDrop_c, dRet_c, retK_d, retK_m, retK_r, dRetN_c, dIfS_c, iteS_t, iteS_f, dSet_c, setK_d, setK_m, setK_s, setK_r, dAsg_c, asgK_d, asgK_m, dFz_c, dNever_c, dRaise_c, dC_c, dOp_c, dUn_c, dTst_c, tstK_c, dTru_c, truK_n, truK_b, truK_i, truK_t, truK_l, truK_m, truK_bl, dNot_c, dAnd_c, andK_t, andK_f, dOr_c, orK_t, orK_f, dAndV_c, andV_t, andV_f, dOrV_c, orV_t, orV_f, dNotV_c, dIf_c, iteE_t, iteE_f, dChain_c, chK_t, chK_f, dNil_c, dCons_c, dCB_c, dCall_c, dCall0_c, dTup_c, dLst_c, dFor_c, dLc_c, iTp_c, tpK_c, iLst_c, lsK_d, lsK_m, iSeq_c, sqK_d, sqK_m, sqK_b, dSl_c, dNo_c, dPt_c, ptK_c, dYes_c, dBack_k, backK_c, dTupRg_c, dLstRg_c, dRg1_c, dRg2_c, rg1K_c, rg2K_c, tupRg_c, lstRg_c, dDict0_c, dDict1_c, gdName_c, gdTup_c, gdCons_c, gdNil_c, dApp_c, appK_c, apK_d, apK_m, dVar_c, varK_d, varK_m, varK_b, varK_s, varK_sc, varK_r, dNew_c, varK_mo, varK_bo, setK_mo, retK_mo, dDIn_c, dinK_i, dinK_s, dDGet_c, dDGet1_c, isBo_c, dget1K_i, dDPut_c, dputV_d, dputK_i, val_mo, dOwn0_c, dDispV_c, dispK_i, fRepT_c, fIsB_c, dM0_c, dM1_c, isStr_c, fQ0_c, fQ1_c, fSplit_c, fLenS_c, iEnSD_c, dSetdIf_c, setdB_f, enSK_m, enSK_d, dOrT_c, dAndT_c, orTK_n, dCallK_c, dCallK0_c, dCallD_c, dCallD0_c, dSaid_c, toldK_d, toldK_m, iRg1_c, rgK_c, iRg2_c, rgK2_c, iEnT_c, enK_c, iZp_c, zpK_tt, zpK_mm, zpK_ll, zpK_lm, zpK_ml, dPar_c, parK_im, parK_nm, parK_sm, parK_dd, parK_md]
      refine ⟨three, 3, rfl, by decide, by decide, fun e e0 e1 => ?_⟩
      refine fIx_num (lo := 1) (hi := 99) e0 e1 (fun d hd => ?_) fun cost c0 c1 => ?_
      · simp only [List.mem_cons, List.not_mem_nil, or_false] at hd
        rcases hd with rfl | rfl | rfl
        · exact ⟨_, rfl, by omega, by omega⟩
        · exact ⟨_, rfl, by omega, by omega⟩
        · exact ⟨_, rfl, by omega, by omega⟩
      try simp only [startD, iEn, cvs, cv, vS, Sl.dat, Sl.seq, Sl.sq, Sl.fz, dats, dSetI, dAug, wipeD, List.length_cons, List.length_nil, List.length_append, List.length_replicate, Nat.reduceAdd, Nat.reduceSub, Nat.zero_add, List.replicate_succ, List.replicate_zero, List.cons_append, List.nil_append, List.append_nil, List.set_cons_zero, List.set_cons_succ, List.set_nil, List.getElem?_cons_zero, List.getElem?_cons_succ, Option.getD_some, List.map_cons, List.map_nil, Option.bind_some, fI0_c, fI_c, fU_c, fAddX_i, fAddX_t, fAddX_s, fAddX_mm, fAddX_bm, fAddX_mb, fAddX_bb, fAddX_lm, fAddX_ll, fMulX_i, fMulX_m, fSlX_t, fSlX_m, fSlX_b, fSlX_l, fIs_n, fIs_i, fIs_b, fIs_s, fIs_l, fIs_t, fIs_m, fIs_bl, fLen_t, fLen_l, fLen_m, fLen_b, fLen_scr, fIsi_c, fEqD_c, fEqD_mm, fEqD_bm, fEqD_bb, fEqD_dm, fEq_ss, fInt_i, fInt_b, fTuple_m, fTuple_b, fTuple_t, fTuple_l, fList_m, fList_b, fList_t, fList_l, f2I_c, fRepr_c, fRepr_m, fRepr_b, fStr_c, Bool.not_true, Bool.not_false, true_and, netT, Road.dt, reduceIte, Bool.false_eq_true, decide_true, decide_false, tupK, lstK, dNext_c, dBreak_c, dCont_c, dSeq_c, dDrop_c, dRet_c, retK_d, retK_m, retK_r, dRetN_c, dIfS_c, iteS_t, iteS_f, dSet_c, setK_d, setK_m, setK_s, setK_r, dAsg_c, asgK_d, asgK_m, dFz_c, dNever_c, dRaise_c, dC_c, dOp_c, dUn_c, dTst_c, tstK_c, dTru_c, truK_n, truK_b, truK_i, truK_t, truK_l, truK_m, truK_bl, dNot_c, dAnd_c, andK_t, andK_f, dOr_c, orK_t, orK_f, dAndV_c, andV_t, andV_f, dOrV_c, orV_t, orV_f, dNotV_c, dIf_c, iteE_t, iteE_f, dChain_c, chK_t, chK_f, dNil_c, dCons_c, dCB_c, dCall_c, dCall0_c, dTup_c, dLst_c, dFor_c, dLc_c, iTp_c, tpK_c, iLst_c, lsK_d, lsK_m, iSeq_c, sqK_d, sqK_m, sqK_b, dSl_c, dNo_c, dPt_c, ptK_c, dYes_c, dBack_k, backK_c, dTupRg_c, dLstRg_c, dRg1_c, dRg2_c, rg1K_c, rg2K_c, tupRg_c, lstRg_c, dDict0_c, dDict1_c, gdName_c, gdTup_c, gdCons_c, gdNil_c, dApp_c, appK_c, apK_d, apK_m, dVar_c, varK_d, varK_m, varK_b, varK_s, varK_sc, varK_r, dNew_c, varK_mo, varK_bo, setK_mo, retK_mo, dDIn_c, dinK_i, dinK_s, dDGet_c, dDGet1_c, isBo_c, dget1K_i, dDPut_c, dputV_d, dputK_i, val_mo, dOwn0_c, dDispV_c, dispK_i, fRepT_c, fIsB_c, dM0_c, dM1_c, isStr_c, fQ0_c, fQ1_c, fSplit_c, fLenS_c, iEnSD_c, dSetdIf_c, setdB_f, enSK_m, enSK_d, dOrT_c, dAndT_c, orTK_n, dCallK_c, dCallK0_c, dCallD_c, dCallD0_c, dSaid_c, toldK_d, toldK_m, iRg1_c, rgK_c, iRg2_c, rgK2_c, iEnT_c, enK_c, iZp_c, zpK_tt, zpK_mm, zpK_ll, zpK_lm, zpK_ml, dPar_c, parK_im, parK_nm, parK_sm, parK_dd, parK_md]
      refine ⟨4, rfl, by decide, by decide, fun a a0 a1 => ?_⟩
      try simp only [startD, iEn, cvs, cv, vS, Sl.dat, Sl.seq, Sl.sq, Sl.fz, dats, dSetI, dAug, wipeD, List.length_cons, List.length_nil, List.length_append, List.length_replicate, Nat.reduceAdd, Nat.reduceSub, Nat.zero_add, List.replicate_succ, List.replicate_zero, List.cons_append, List.nil_append, List.append_nil, List.set_cons_zero, List.set_cons_succ, List.set_nil, List.getElem?_cons_zero, List.getElem?_cons_succ, Option.getD_some, List.map_cons, List.map_nil, Option.bind_some, fI0_c, fI_c, fU_c, fAddX_i, fAddX_t, fAddX_s, fAddX_mm, fAddX_bm, fAddX_mb, fAddX_bb, fAddX_lm, fAddX_ll, fMulX_i, fMulX_m, fSlX_t, fSlX_m, fSlX_b, fSlX_l, fIs_n, fIs_i, fIs_b, fIs_s, fIs_l, fIs_t, fIs_m, fIs_bl, fLen_t, fLen_l, fLen_m, fLen_b, fLen_scr, fIsi_c, fEqD_c, fEqD_mm, fEqD_bm, fEqD_bb, fEqD_dm, fEq_ss, fInt_i, fInt_b, fTuple_m, fTuple_b, fTuple_t, fTuple_l, fList_m, fList_b, fList_t, fList_l, f2I_c, fRepr_c, fRepr_m, fRepr_b, fStr_c, Bool.not_true, Bool.not_false, true_and, netT, Road.dt, reduceIte, Bool.false_eq_true, decide_true, decide_false, tupK, lstK, dNext_c, dBreak_c, dCont_c, dSeq_c, dDrop_c, dRet_c, retK_d, retK_m, retK_r, dRetN_c, dIfS_c, iteS_t, iteS_f, dSet_c, setK_d, setK_m, setK_s, setK_r, dAsg_c, asgK_d, asgK_m, dFz_c, dNever_c, dRaise_c, dC_c, dOp_c, dUn_c, dTst_c, tstK_c, dTru_c, truK_n, truK_b, truK_i, truK_t, truK_l, truK_m, truK_bl, dNot_c, dAnd_c, andK_t, andK_f, dOr_c, orK_t, orK_f, dAndV_c, andV_t, andV_f, dOrV_c, orV_t, orV_f, dNotV_c, dIf_c, iteE_t, iteE_f, dChain_c, chK_t, chK_f, dNil_c, dCons_c, dCB_c, dCall_c, dCall0_c, dTup_c, dLst_c, dFor_c, dLc_c, iTp_c, tpK_c, iLst_c, lsK_d, lsK_m, iSeq_c, sqK_d, sqK_m, sqK_b, dSl_c, dNo_c, dPt_c, ptK_c, dYes_c, dBack_k, backK_c, dTupRg_c, dLstRg_c, dRg1_c, dRg2_c, rg1K_c, rg2K_c, tupRg_c, lstRg_c, dDict0_c, dDict1_c, gdName_c, gdTup_c, gdCons_c, gdNil_c, dApp_c, appK_c, apK_d, apK_m, dVar_c, varK_d, varK_m, varK_b, varK_s, varK_sc, varK_r, dNew_c, varK_mo, varK_bo, setK_mo, retK_mo, dDIn_c, dinK_i, dinK_s, dDGet_c, dDGet1_c, isBo_c, dget1K_i, dDPut_c, dputV_d, dputK_i, val_mo, dOwn0_c, dDispV_c, dispK_i, fRepT_c, fIsB_c, dM0_c, dM1_c, isStr_c, fQ0_c, fQ1_c, fSplit_c, fLenS_c, iEnSD_c, dSetdIf_c, setdB_f, enSK_m, enSK_d, dOrT_c, dAndT_c, orTK_n, dCallK_c, dCallK0_c, dCallD_c, dCallD0_c, dSaid_c, toldK_d, toldK_m, iRg1_c, rgK_c, iRg2_c, rgK2_c, iEnT_c, enK_c, iZp_c, zpK_tt, zpK_mm, zpK_ll, zpK_lm, zpK_ml, dPar_c, parK_im, parK_nm, parK_sm, parK_dd, parK_md]
      refine ⟨100, rfl, by decide, by decide, fun b b0 b1 => ?_⟩
      try simp only [startD, iEn, cvs, cv, vS, Sl.dat, Sl.seq, Sl.sq, Sl.fz, dats, dSetI, dAug, wipeD, List.length_cons, List.length_nil, List.length_append, List.length_replicate, Nat.reduceAdd, Nat.reduceSub, Nat.zero_add, List.replicate_succ, List.replicate_zero, List.cons_append, List.nil_append, List.append_nil, List.set_cons_zero, List.set_cons_succ, List.set_nil, List.getElem?_cons_zero, List.getElem?_cons_succ, Option.getD_some, List.map_cons, List.map_nil, Option.bind_some, fI0_c, fI_c, fU_c, fAddX_i, fAddX_t, fAddX_s, fAddX_mm, fAddX_bm, fAddX_mb, fAddX_bb, fAddX_lm, fAddX_ll, fMulX_i, fMulX_m, fSlX_t, fSlX_m, fSlX_b, fSlX_l, fIs_n, fIs_i, fIs_b, fIs_s, fIs_l, fIs_t, fIs_m, fIs_bl, fLen_t, fLen_l, fLen_m, fLen_b, fLen_scr, fIsi_c, fEqD_c, fEqD_mm, fEqD_bm, fEqD_bb, fEqD_dm, fEq_ss, fInt_i, fInt_b, fTuple_m, fTuple_b, fTuple_t, fTuple_l, fList_m, fList_b, fList_t, fList_l, f2I_c, fRepr_c, fRepr_m, fRepr_b, fStr_c, Bool.not_true, Bool.not_false, true_and, netT, Road.dt, reduceIte, Bool.false_eq_true, decide_true, decide_false, tupK, lstK, dNext_c, dBreak_c, dCont_c, dSeq_c, dDrop_c, dRet_c, retK_d, retK_m, retK_r, dRetN_c, dIfS_c, iteS_t, iteS_f, dSet_c, setK_d, setK_m, setK_s, setK_r, dAsg_c, asgK_d, asgK_m, dFz_c, dNever_c, dRaise_c, dC_c, dOp_c, dUn_c, dTst_c, tstK_c, dTru_c, truK_n, truK_b, truK_i, truK_t, truK_l, truK_m, truK_bl, dNot_c, dAnd_c, andK_t, andK_f, dOr_c, orK_t, orK_f, dAndV_c, andV_t, andV_f, dOrV_c, orV_t, orV_f, dNotV_c, dIf_c, iteE_t, iteE_f, dChain_c, chK_t, chK_f, dNil_c, dCons_c, dCB_c, dCall_c, dCall0_c, dTup_c, dLst_c, dFor_c, dLc_c, iTp_c, tpK_c, iLst_c, lsK_d, lsK_m, iSeq_c, sqK_d, sqK_m, sqK_b, dSl_c, dNo_c, dPt_c, ptK_c, dYes_c, dBack_k, backK_c, dTupRg_c, dLstRg_c, dRg1_c, dRg2_c, rg1K_c, rg2K_c, tupRg_c, lstRg_c, dDict0_c, dDict1_c, gdName_c, gdTup_c, gdCons_c, gdNil_c, dApp_c, appK_c, apK_d, apK_m, dVar_c, varK_d, varK_m, varK_b, varK_s, varK_sc, varK_r, dNew_c, varK_mo, varK_bo, setK_mo, retK_mo, dDIn_c, dinK_i, dinK_s, dDGet_c, dDGet1_c, isBo_c, dget1K_i, dDPut_c, dputV_d, dputK_i, val_mo, dOwn0_c, dDispV_c, dispK_i, fRepT_c, fIsB_c, dM0_c, dM1_c, isStr_c, fQ0_c, fQ1_c, fSplit_c, fLenS_c, iEnSD_c, dSetdIf_c, setdB_f, enSK_m, enSK_d, dOrT_c, dAndT_c, orTK_n, dCallK_c, dCallK0_c, dCallD_c, dCallD0_c, dSaid_c, toldK_d, toldK_m, iRg1_c, rgK_c, iRg2_c, rgK2_c, iEnT_c, enK_c, iZp_c, zpK_tt, zpK_mm, zpK_ll, zpK_lm, zpK_ml, dPar_c, parK_im, parK_nm, parK_sm, parK_dd, parK_md]
      refine ⟨three, 3, rfl, by decide, by decide, fun e e0 e1 => ?_⟩
      refine fIx_num (lo := 0) (hi := 99) e0 e1 (fun d hd => ?_) fun time m0 m1 => ?_
      · simp only [List.mem_cons, List.not_mem_nil, or_false] at hd
        rcases hd with rfl | rfl | rfl
        · exact ⟨_, rfl, by omega, by omega⟩
        · exact ⟨_, rfl, by omega, by omega⟩
        · exact ⟨_, rfl, by omega, by omega⟩
      try simp only [startD, iEn, cvs, cv, vS, Sl.dat, Sl.seq, Sl.sq, Sl.fz, dats, dSetI, dAug, wipeD, List.length_cons, List.length_nil, List.length_append, List.length_replicate, Nat.reduceAdd, Nat.reduceSub, Nat.zero_add, List.replicate_succ, List.replicate_zero, List.cons_append, List.nil_append, List.append_nil, List.set_cons_zero, List.set_cons_succ, List.set_nil, List.getElem?_cons_zero, List.getElem?_cons_succ, Option.getD_some, List.map_cons, List.map_nil, Option.bind_some, fI0_c, fI_c, fU_c, fAddX_i, fAddX_t, fAddX_s, fAddX_mm, fAddX_bm, fAddX_mb, fAddX_bb, fAddX_lm, fAddX_ll, fMulX_i, fMulX_m, fSlX_t, fSlX_m, fSlX_b, fSlX_l, fIs_n, fIs_i, fIs_b, fIs_s, fIs_l, fIs_t, fIs_m, fIs_bl, fLen_t, fLen_l, fLen_m, fLen_b, fLen_scr, fIsi_c, fEqD_c, fEqD_mm, fEqD_bm, fEqD_bb, fEqD_dm, fEq_ss, fInt_i, fInt_b, fTuple_m, fTuple_b, fTuple_t, fTuple_l, fList_m, fList_b, fList_t, fList_l, f2I_c, fRepr_c, fRepr_m, fRepr_b, fStr_c, Bool.not_true, Bool.not_false, true_and, netT, Road.dt, reduceIte, Bool.false_eq_true, decide_true, decide_false, tupK, lstK, dNext_c, dBreak_c, dCont_c, dSeq_c, dDrop_c, dRet_c, retK_d, retK_m, retK_r, dRetN_c, dIfS_c, iteS_t, iteS_f, dSet_c, setK_d, setK_m, setK_s, setK_r, dAsg_c, asgK_d, asgK_m, dFz_c, dNever_c, dRaise_c, dC_c, dOp_c, dUn_c, dTst_c, tstK_c, dTru_c, truK_n, truK_b, truK_i, truK_t, truK_l, truK_m, truK_bl, dNot_c, dAnd_c, andK_t, andK_f, dOr_c, orK_t, orK_f, dAndV_c, andV_t, andV_f, dOrV_c, orV_t, orV_f, dNotV_c, dIf_c, iteE_t, iteE_f, dChain_c, chK_t, chK_f, dNil_c, dCons_c, dCB_c, dCall_c, dCall0_c, dTup_c, dLst_c, dFor_c, dLc_c, iTp_c, tpK_c, iLst_c, lsK_d, lsK_m, iSeq_c, sqK_d, sqK_m, sqK_b, dSl_c, dNo_c, dPt_c, ptK_c, dYes_c, dBack_k, backK_c, dTupRg_c, dLstRg_c, dRg1_c, dRg2_c, rg1K_c, rg2K_c, tupRg_c, lstRg_c, dDict0_c, dDict1_c, gdName_c, gdTup_c, gdCons_c, gdNil_c, dApp_c, appK_c, apK_d, apK_m, dVar_c, varK_d, varK_m, varK_b, varK_s, varK_sc, varK_r, dNew_c, varK_mo, varK_bo, setK_mo, retK_mo, dDIn_c, dinK_i, dinK_s, dDGet_c, dDGet1_c, isBo_c, dget1K_i, dDPut_c, dputV_d, dputK_i, val_mo, dOwn0_c, dDispV_c, dispK_i, fRepT_c, fIsB_c, dM0_c, dM1_c, isStr_c, fQ0_c, fQ1_c, fSplit_c, fLenS_c, iEnSD_c, dSetdIf_c, setdB_f, enSK_m, enSK_d, dOrT_c, dAndT_c, orTK_n, dCallK_c, dCallK0_c, dCallD_c, dCallD0_c, dSaid_c, toldK_d, toldK_m, iRg1_c, rgK_c, iRg2_c, rgK2_c, iEnT_c, enK_c, iZp_c, zpK_tt, zpK_mm, zpK_ll, zpK_lm, zpK_ml, dPar_c, parK_im, parK_nm, parK_sm, parK_dd, parK_md]
      refine ⟨four, line_1000 (by rw [List.length_map]; omega), hN _ ⟨.d (.int (0 + (i : Int))), .d (.int one), .d (.int ((one + 1 + far) % p)), .d (.int cost), .d (.int time), rs ++ [⟨one, (one + 1 + far) % p, cost, time⟩], ?_, ?_, ?_⟩⟩
      · rw [List.map_append]
        rfl
      · rw [List.length_append, hl]
        rfl
      · intro q hq
        rcases List.mem_append.mp hq with z | z
        · exact hok q z
        · rw [List.mem_singleton.mp z]
          exact ⟨o0, o1, u0, u1, u2, c0, c1, m0, m1⟩
    · obtain ⟨y5, y6, y7, y8, y9, rs, rfl, hl, hok⟩ := h
      rw [rangeD_len] at hl
      try simp only [startD, iEn, cvs, cv, vS, Sl.dat, Sl.seq, Sl.sq, Sl.fz, dats, dSetI, dAug, wipeD, List.length_cons, List.length_nil, List.length_append, List.length_replicate, Nat.reduceAdd, Nat.reduceSub, Nat.zero_add, List.replicate_succ, List.replicate_zero, List.cons_append, List.nil_append, List.append_nil, List.set_cons_zero, List.set_cons_succ, List.set_nil, List.getElem?_cons_zero, List.getElem?_cons_succ, Option.getD_some, List.map_cons, List.map_nil, Option.bind_some, fI0_c, fI_c, fU_c, fAddX_i, fAddX_t, fAddX_s, fAddX_mm, fAddX_bm, fAddX_mb, fAddX_bb, fAddX_lm, fAddX_ll, fMulX_i, fMulX_m, fSlX_t, fSlX_m, fSlX_b, fSlX_l, fIs_n, fIs_i, fIs_b, fIs_s, fIs_l, fIs_t, fIs_m, fIs_bl, fLen_t, fLen_l, fLen_m, fLen_b, fLen_scr, fIsi_c, fEqD_c, fEqD_mm, fEqD_bm, fEqD_bb, fEqD_dm, fEq_ss, fInt_i, fInt_b, fTuple_m, fTuple_b, fTuple_t, fTuple_l, fList_m, fList_b, fList_t, fList_l, f2I_c, fRepr_c, fRepr_m, fRepr_b, fStr_c, Bool.not_true, Bool.not_false, true_and, netT, Road.dt, reduceIte, Bool.false_eq_true, decide_true, decide_false, tupK, lstK, dNext_c, dBreak_c, dCont_c, dSeq_c, dDrop_c, dRet_c, retK_d, retK_m, retK_r, dRetN_c, dIfS_c, iteS_t, iteS_f, dSet_c, setK_d, setK_m, setK_s, setK_r, dAsg_c, asgK_d, asgK_m, dFz_c, dNever_c, dRaise_c, dC_c, dOp_c, dUn_c, dTst_c, tstK_c, dTru_c, truK_n, truK_b, truK_i, truK_t, truK_l, truK_m, truK_bl, dNot_c, dAnd_c, andK_t, andK_f, dOr_c, orK_t, orK_f, dAndV_c, andV_t, andV_f, dOrV_c, orV_t, orV_f, dNotV_c, dIf_c, iteE_t, iteE_f, dChain_c, chK_t, chK_f, dNil_c, dCons_c, dCB_c, dCall_c, dCall0_c, dTup_c, dLst_c, dFor_c, dLc_c, iTp_c, tpK_c, iLst_c, lsK_d, lsK_m, iSeq_c, sqK_d, sqK_m, sqK_b, dSl_c, dNo_c, dPt_c, ptK_c, dYes_c, dBack_k, backK_c, dTupRg_c, dLstRg_c, dRg1_c, dRg2_c, rg1K_c, rg2K_c, tupRg_c, lstRg_c, dDict0_c, dDict1_c, gdName_c, gdTup_c, gdCons_c, gdNil_c, dApp_c, appK_c, apK_d, apK_m, dVar_c, varK_d, varK_m, varK_b, varK_s, varK_sc, varK_r, dNew_c, varK_mo, varK_bo, setK_mo, retK_mo, dDIn_c, dinK_i, dinK_s, dDGet_c, dDGet1_c, isBo_c, dget1K_i, dDPut_c, dputV_d, dputK_i, val_mo, dOwn0_c, dDispV_c, dispK_i, fRepT_c, fIsB_c, dM0_c, dM1_c, isStr_c, fQ0_c, fQ1_c, fSplit_c, fLenS_c, iEnSD_c, dSetdIf_c, setdB_f, enSK_m, enSK_d, dOrT_c, dAndT_c, orTK_n, dCallK_c, dCallK0_c, dCallD_c, dCallD0_c, dSaid_c, toldK_d, toldK_m, iRg1_c, rgK_c, iRg2_c, rgK2_c, iEnT_c, enK_c, iZp_c, zpK_tt, zpK_mm, zpK_ll, zpK_lm, zpK_ml, dPar_c, parK_im, parK_nm, parK_sm, parK_dd, parK_md]
      refine ⟨by decide, ?_⟩
      exact q p rs ⟨by omega, by omega, by omega, hok⟩ (by omega) (by omega)
end
end Wy

set_option synthInstance.maxHeartbeats 2000000
set_option synthInstance.maxSize 100000
namespace Wy
open PySem PySem.Spec PyProof.Rows L2 Dl
section
variable {P : Program} {w : World} {K : PySem.W.Frag} {mg : Str → Option Value} {base : Heap} {C : Nat → Addr}
theorem lay_wayD (w : List Nat) : Lay (wayD w) 1 := lay_nums _
theorem lay_rowD (x : Rw) : Lay (frow x) 2 := lay_tup (n := 1) fun y hy => by
  simp only [List.mem_cons, List.not_mem_nil, or_false] at hy
  rcases hy with rfl | rfl | rfl
  · exact lay_int _ _
  · exact lay_int _ _
  · exact lay_wayD _
open PySem.W in
theorem sort_rows (L : List Rw) : sortOk (L.map frow) ∧ (L.map frow).mergeSort (dataLe false id) = (sortR L).map frow := by
  refine ⟨⟨?_, AllAlike.of fun x y => ?_, Sortable.tuples fun x => ⟨_, _, rfl⟩, fun d hd => ?_⟩, ?_⟩
  · exact (lay_all (n := 2) fun d hd => by
      obtain ⟨x, _, rfl⟩ := List.mem_map.mp hd
      exact lay_rowD x).1
  · unfold frow
    simp only [alike, alikeAll, Bool.true_and, Bool.and_true]
    exact alike_way _ _
  · obtain ⟨x, _, rfl⟩ := List.mem_map.mp hd
    exact Nat.le_trans (lay_rowD x).k (by decide)
  · exact (List.map_mergeSort (l := L) (r := dataLe false frow) (s := dataLe false id) (f := frow) (fun a _ b _ => rfl)).symm
theorem fIxB_nth {xs : List PyData} {n : Nat} {d : PyData} {Qd : Sl → Prop} (e : xs[n]? = some d) (h : Qd (.d d)) : fIx (.bl xs) (.d (.int (n : Int))) Qd := fIxL_at (s := .bl xs) rfl e h
theorem fIxB_last {xs init : List PyData} {d : PyData} {Qd : Sl → Prop} (e : xs = init ++ [d]) (h : Qd (.d d)) : fIx (.bl xs) (.d (.int (-1))) Qd := by
  show (match L2.atI xs (-1) with | some d => Qd (.d d) | none => False)
  rw [e, L2.atI_last]
  exact h
theorem unb_len (L : List Rw) : (unb L).length ≤ L.length := by
  have key : ∀ (L F : List Rw), (L.foldl unbS F).length ≤ F.length + L.length := by
    intro L
    induction L with
    | nil => intro F; exact Nat.le_refl _
    | cons r L ih =>
      intro F
      have h := ih (unbS F r)
      have : (unbS F r).length ≤ F.length + 1 := by
        unfold unbS
        split
        · simp
        · split
          · rw [List.length_append]
            exact Nat.le_refl _
          · omega
      rw [List.foldl_cons, List.length_cons]
      omega
  have := key L []
  rw [List.length_nil, Nat.zero_add] at this
  exact this
theorem sc_unbeaten : FnScope ["rows", "front", "row"] ["rows"] (defScope s_unbeaten) := ⟨rfl, rfl, rfl, by decide +kernel, rfl, by decide +kernel, by decide +kernel⟩
def sd_unbeaten : SpD := fun ss Qd _ => ∃ L : List Rw, ss = [.d (.list (L.map frow))] ∧ L.length ≤ 100000 ∧ Qd (.ml ((unb (sortR L)).map frow))
theorem c_unbeaten (T : Tx K mg C) : Cb P w K mg base CX0 1 "unbeaten" ["rows"] (spD K [] sd_unbeaten) := by
  obtain ⟨f, fd, D⟩ := T.h_unbeaten
  refine ⟨f, fd, okD (k := 0) D.F sc_unbeaten (fun ss Qd R h => ?_) (fun cdv A outer s H E hr => ⟨_, (pss_cons (ps_set (i := 1) sc_unbeaten.nd rfl (.inl rfl) (pe_lst pa_nil))
    (pss_cons (ps_for PassesOwn.never rfl (pi_listK (K := K) rfl (pe_callB (cr_sortDK (K := K) rfl hr.units) (by rfl) T.sorted (by decide +kernel) (pa_cons (pv 0) pa_nil))) (pg_name (i := 2) sc_unbeaten.nd rfl (.inl rfl))
    (pss_one (ps_if (PW.pt (pw_or (pt_not (pt_truK (K := K) rfl (pv 1) (by intro _; rfl))) (pw_or1 (pt_cmpR op_lt (pe_ix (ix_seqK (K := K) rfl) (pv 2) pe_int (fun _ _ => rfl)) (pe_ix (ix_seqK (K := K) rfl) (pe_ix (ix_seqK (K := K) rfl) (pv 1) (pe_un un_neg pe_int) (fun _ _ => rfl)) pe_int (fun _ _ => rfl)) (nomark _))))) (pss_one (ps_expr (pe_bmK (K := K) rfl PySem.F.plainAttrs_list PySem.F.slot_list_append PySem.F.type_list_append mt_append (pv 1) (pa_cons (pv 2) pa_nil)))) pss_nil)))
    (pss_one (show PS _ _ (tRetO 1) from ps_ret (pv 1))))), ?_⟩), D.g, D.F.kp, D.b⟩
  · obtain ⟨_, rfl, _⟩ := h
    rfl
  · refine ⟨_, fun τ => inferInstance, fun ss Qd R h => ?_⟩
    obtain ⟨L, rfl, hl, q⟩ := h
    obtain ⟨so, se⟩ := sort_rows L
    have sl : (sortR L).length = L.length := (sortR_perm L).length_eq
    try simp only [startD, iEn, cvs, cv, vS, Sl.dat, Sl.seq, Sl.sq, Sl.fz, dats, dSetI, dAug, wipeD, List.length_cons, List.length_nil, List.length_append, List.length_replicate, Nat.reduceAdd, Nat.reduceSub, Nat.zero_add, List.replicate_succ, List.replicate_zero, List.cons_append, List.nil_append, List.append_nil, List.set_cons_zero, List.set_cons_succ, List.set_nil, List.getElem?_cons_zero, List.getElem?_cons_succ, Option.getD_some, List.map_cons, List.map_nil, Option.bind_some, fI0_c, fI_c, fU_c, fAddX_i, fAddX_t, fAddX_s, fAddX_mm, fAddX_bm, fAddX_mb, fAddX_bb, fAddX_lm, fAddX_ll, fMulX_i, fMulX_m, fSlX_t, fSlX_m, fSlX_b, fSlX_l, fIs_n, fIs_i, fIs_b, fIs_s, fIs_l, fIs_t, fIs_m, fIs_bl, fLen_t, fLen_l, fLen_m, fLen_b, fLen_scr, fIsi_c, fEqD_c, fEqD_mm, fEqD_bm, fEqD_bb, fEqD_dm, fEq_ss, fInt_i, fInt_b, fTuple_m, fTuple_b, fTuple_t, fTuple_l, fList_m, fList_b, fList_t, fList_l, f2I_c, fRepr_c, fRepr_m, fRepr_b, fStr_c, Bool.not_true, Bool.not_false, true_and, netT, Road.dt, reduceIte, Bool.false_eq_true, decide_true, decide_false, tupK, lstK, dNext_c, dBreak_c, dCont_c, dSeq_c, dDrop_c, dRet_c, retK_d, retK_m, retK_r, dRetN_c, dIfS_c, iteS_t, iteS_f, dSet_c, setK_d, setK_m, setK_s, setK_r, dAsg_c, asgK_d, asgK_m, dFz_c, dNever_c, dRaise_c, dC_c, dOp_c, dUn_c, dTst_c, tstK_c, dTru_c, truK_n, truK_b, truK_i, truK_t, truK_l, truK_m, truK_bl, dNot_c, dAnd_c, andK_t, andK_f, dOr_c, orK_t, orK_f, dAndV_c, andV_t, andV_f, dOrV_c, orV_t, orV_f, dNotV_c, dIf_c, iteE_t, iteE_f, dChain_c, chK_t, chK_f, dNil_c, dCons_c, dCB_c, dCall_c, dCall0_c, dTup_c, dLst_c, dFor_c, dLc_c, iTp_c, tpK_c, iLst_c, lsK_d, lsK_m, iSeq_c, sqK_d, sqK_m, sqK_b, dSl_c, dNo_c, dPt_c, ptK_c, dYes_c, dBack_k, backK_c, dTupRg_c, dLstRg_c, dRg1_c, dRg2_c, rg1K_c, rg2K_c, tupRg_c, lstRg_c, dDict0_c, dDict1_c, gdName_c, gdTup_c, gdCons_c, gdNil_c, dApp_c, appK_c, apK_d, apK_m, dVar_c, varK_d, varK_m, varK_b, varK_s, varK_sc, varK_r, dNew_c, varK_mo, varK_bo, setK_mo, retK_mo, dDIn_c, dinK_i, dinK_s, dDGet_c, dDGet1_c, isBo_c, dget1K_i, dDPut_c, dputV_d, dputK_i, val_mo, dOwn0_c, dDispV_c, dispK_i, fRepT_c, fIsB_c, dM0_c, dM1_c, isStr_c, fQ0_c, fQ1_c, fSplit_c, fLenS_c, iEnSD_c, dSetdIf_c, setdB_f, enSK_m, enSK_d, dOrT_c, dAndT_c, orTK_n, dCallK_c, dCallK0_c, dCallD_c, dCallD0_c, dSaid_c, toldK_d, toldK_m, iRg1_c, rgK_c, iRg2_c, rgK2_c, iEnT_c, enK_c, iZp_c, zpK_tt, zpK_mm, zpK_ll, zpK_lm, zpK_ml, dPar_c, parK_im, parK_nm, parK_sm, parK_dd, parK_md]
    refine ⟨by decide, ?_⟩
    rw [fSortD_l]
    refine ⟨so, ?_⟩
    rw [se]
    try simp only [startD, iEn, cvs, cv, vS, Sl.dat, Sl.seq, Sl.sq, Sl.fz, dats, dSetI, dAug, wipeD, List.length_cons, List.length_nil, List.length_append, List.length_replicate, Nat.reduceAdd, Nat.reduceSub, Nat.zero_add, List.replicate_succ, List.replicate_zero, List.cons_append, List.nil_append, List.append_nil, List.set_cons_zero, List.set_cons_succ, List.set_nil, List.getElem?_cons_zero, List.getElem?_cons_succ, Option.getD_some, List.map_cons, List.map_nil, Option.bind_some, fI0_c, fI_c, fU_c, fAddX_i, fAddX_t, fAddX_s, fAddX_mm, fAddX_bm, fAddX_mb, fAddX_bb, fAddX_lm, fAddX_ll, fMulX_i, fMulX_m, fSlX_t, fSlX_m, fSlX_b, fSlX_l, fIs_n, fIs_i, fIs_b, fIs_s, fIs_l, fIs_t, fIs_m, fIs_bl, fLen_t, fLen_l, fLen_m, fLen_b, fLen_scr, fIsi_c, fEqD_c, fEqD_mm, fEqD_bm, fEqD_bb, fEqD_dm, fEq_ss, fInt_i, fInt_b, fTuple_m, fTuple_b, fTuple_t, fTuple_l, fList_m, fList_b, fList_t, fList_l, f2I_c, fRepr_c, fRepr_m, fRepr_b, fStr_c, Bool.not_true, Bool.not_false, true_and, netT, Road.dt, reduceIte, Bool.false_eq_true, decide_true, decide_false, tupK, lstK, dNext_c, dBreak_c, dCont_c, dSeq_c, dDrop_c, dRet_c, retK_d, retK_m, retK_r, dRetN_c, dIfS_c, iteS_t, iteS_f, dSet_c, setK_d, setK_m, setK_s, setK_r, dAsg_c, asgK_d, asgK_m, dFz_c, dNever_c, dRaise_c, dC_c, dOp_c, dUn_c, dTst_c, tstK_c, dTru_c, truK_n, truK_b, truK_i, truK_t, truK_l, truK_m, truK_bl, dNot_c, dAnd_c, andK_t, andK_f, dOr_c, orK_t, orK_f, dAndV_c, andV_t, andV_f, dOrV_c, orV_t, orV_f, dNotV_c, dIf_c, iteE_t, iteE_f, dChain_c, chK_t, chK_f, dNil_c, dCons_c, dCB_c, dCall_c, dCall0_c, dTup_c, dLst_c, dFor_c, dLc_c, iTp_c, tpK_c, iLst_c, lsK_d, lsK_m, iSeq_c, sqK_d, sqK_m, sqK_b, dSl_c, dNo_c, dPt_c, ptK_c, dYes_c, dBack_k, backK_c, dTupRg_c, dLstRg_c, dRg1_c, dRg2_c, rg1K_c, rg2K_c, tupRg_c, lstRg_c, dDict0_c, dDict1_c, gdName_c, gdTup_c, gdCons_c, gdNil_c, dApp_c, appK_c, apK_d, apK_m, dVar_c, varK_d, varK_m, varK_b, varK_s, varK_sc, varK_r, dNew_c, varK_mo, varK_bo, setK_mo, retK_mo, dDIn_c, dinK_i, dinK_s, dDGet_c, dDGet1_c, isBo_c, dget1K_i, dDPut_c, dputV_d, dputK_i, val_mo, dOwn0_c, dDispV_c, dispK_i, fRepT_c, fIsB_c, dM0_c, dM1_c, isStr_c, fQ0_c, fQ1_c, fSplit_c, fLenS_c, iEnSD_c, dSetdIf_c, setdB_f, enSK_m, enSK_d, dOrT_c, dAndT_c, orTK_n, dCallK_c, dCallK0_c, dCallD_c, dCallD0_c, dSaid_c, toldK_d, toldK_m, iRg1_c, rgK_c, iRg2_c, rgK2_c, iEnT_c, enK_c, iZp_c, zpK_tt, zpK_mm, zpK_ll, zpK_lm, zpK_ml, dPar_c, parK_im, parK_nm, parK_sm, parK_dd, parK_md]
    refine forD_by (fun i ρ => ∃ y2, ρ = [.d (.list (L.map frow)), .ml ((unb ((sortR L).take i)).map frow), y2]) ⟨.un, rfl⟩ (fun i d ρ N hd h hN => ?_) (fun ρ h => ?_)
    · obtain ⟨y2, rfl⟩ := h
      rw [List.getElem?_map] at hd
      obtain ⟨r, er, rfl⟩ := Option.map_eq_some_iff.mp hd
      have hi := (List.getElem?_eq_some_iff.mp er).1
      have et := unb_take er
      have ul : (unb ((sortR L).take i)).length ≤ L.length := by
        have := (unb_frt (sortR_pw L) i (by omega)).1
        exact Nat.le_trans (unb_len _) (by rw [List.length_take]; omega)
      have grow : N [.d (.list (L.map frow)), .ml ((unbS (unb ((sortR L).take i)) r).map frow), .d (frow r)] := hN _ ⟨_, by rw [et]⟩
      unfold unbS at grow
      cases el : (unb ((sortR L).take i)).getLast? with
      | none =>
        have z : unb ((sortR L).take i) = [] := List.getLast?_eq_none_iff.mp el
        rw [el] at grow
        rw [z]
        try simp only [startD, iEn, cvs, cv, vS, Sl.dat, Sl.seq, Sl.sq, Sl.fz, dats, dSetI, dAug, wipeD, List.length_cons, List.length_nil, List.length_append, List.length_replicate, Nat.reduceAdd, Nat.reduceSub, Nat.zero_add, List.replicate_succ, List.replicate_zero, List.cons_append, List.nil_append, List.append_nil, List.set_cons_zero, List.set_cons_succ, List.set_nil, List.getElem?_cons_zero, List.getElem?_cons_succ, Option.getD_some, List.map_cons, List.map_nil, Option.bind_some, fI0_c, fI_c, fU_c, fAddX_i, fAddX_t, fAddX_s, fAddX_mm, fAddX_bm, fAddX_mb, fAddX_bb, fAddX_lm, fAddX_ll, fMulX_i, fMulX_m, fSlX_t, fSlX_m, fSlX_b, fSlX_l, fIs_n, fIs_i, fIs_b, fIs_s, fIs_l, fIs_t, fIs_m, fIs_bl, fLen_t, fLen_l, fLen_m, fLen_b, fLen_scr, fIsi_c, fEqD_c, fEqD_mm, fEqD_bm, fEqD_bb, fEqD_dm, fEq_ss, fInt_i, fInt_b, fTuple_m, fTuple_b, fTuple_t, fTuple_l, fList_m, fList_b, fList_t, fList_l, f2I_c, fRepr_c, fRepr_m, fRepr_b, fStr_c, Bool.not_true, Bool.not_false, true_and, netT, Road.dt, reduceIte, Bool.false_eq_true, decide_true, decide_false, tupK, lstK, dNext_c, dBreak_c, dCont_c, dSeq_c, dDrop_c, dRet_c, retK_d, retK_m, retK_r, dRetN_c, dIfS_c, iteS_t, iteS_f, dSet_c, setK_d, setK_m, setK_s, setK_r, dAsg_c, asgK_d, asgK_m, dFz_c, dNever_c, dRaise_c, dC_c, dOp_c, dUn_c, dTst_c, tstK_c, dTru_c, truK_n, truK_b, truK_i, truK_t, truK_l, truK_m, truK_bl, dNot_c, dAnd_c, andK_t, andK_f, dOr_c, orK_t, orK_f, dAndV_c, andV_t, andV_f, dOrV_c, orV_t, orV_f, dNotV_c, dIf_c, iteE_t, iteE_f, dChain_c, chK_t, chK_f, dNil_c, dCons_c, dCB_c, dCall_c, dCall0_c, dTup_c, dLst_c, dFor_c, dLc_c, iTp_c, tpK_c, iLst_c, lsK_d, lsK_m, iSeq_c, sqK_d, sqK_m, sqK_b, dSl_c, dNo_c, dPt_c, ptK_c, dYes_c, dBack_k, backK_c, dTupRg_c, dLstRg_c, dRg1_c, dRg2_c, rg1K_c, rg2K_c, tupRg_c, lstRg_c, dDict0_c, dDict1_c, gdName_c, gdTup_c, gdCons_c, gdNil_c, dApp_c, appK_c, apK_d, apK_m, dVar_c, varK_d, varK_m, varK_b, varK_s, varK_sc, varK_r, dNew_c, varK_mo, varK_bo, setK_mo, retK_mo, dDIn_c, dinK_i, dinK_s, dDGet_c, dDGet1_c, isBo_c, dget1K_i, dDPut_c, dputV_d, dputK_i, val_mo, dOwn0_c, dDispV_c, dispK_i, fRepT_c, fIsB_c, dM0_c, dM1_c, isStr_c, fQ0_c, fQ1_c, fSplit_c, fLenS_c, iEnSD_c, dSetdIf_c, setdB_f, enSK_m, enSK_d, dOrT_c, dAndT_c, orTK_n, dCallK_c, dCallK0_c, dCallD_c, dCallD0_c, dSaid_c, toldK_d, toldK_m, iRg1_c, rgK_c, iRg2_c, rgK2_c, iEnT_c, enK_c, iZp_c, zpK_tt, zpK_mm, zpK_ll, zpK_lm, zpK_ml, dPar_c, parK_im, parK_nm, parK_sm, parK_dd, parK_md]
        refine ⟨by decide, ?_⟩
        exact grow
      | some y =>
        obtain ⟨init, ei⟩ := List.getLast?_eq_some_iff.mp el
        rw [el] at grow
        dsimp only at grow
        rw [ei] at ul grow ⊢
        rw [List.length_append, List.length_singleton] at ul
        have em : (init ++ [y]).map frow = init.map frow ++ [frow y] := by rw [List.map_append]; rfl
        rw [em]
        have ne : (init.map frow ++ [frow y]).isEmpty = false := by cases init.map frow <;> rfl
        try simp only [startD, iEn, cvs, cv, vS, Sl.dat, Sl.seq, Sl.sq, Sl.fz, dats, dSetI, dAug, wipeD, List.length_cons, List.length_nil, List.length_append, List.length_replicate, Nat.reduceAdd, Nat.reduceSub, Nat.zero_add, List.replicate_succ, List.replicate_zero, List.cons_append, List.nil_append, List.append_nil, List.set_cons_zero, List.set_cons_succ, List.set_nil, List.getElem?_cons_zero, List.getElem?_cons_succ, Option.getD_some, List.map_cons, List.map_nil, Option.bind_some, fI0_c, fI_c, fU_c, fAddX_i, fAddX_t, fAddX_s, fAddX_mm, fAddX_bm, fAddX_mb, fAddX_bb, fAddX_lm, fAddX_ll, fMulX_i, fMulX_m, fSlX_t, fSlX_m, fSlX_b, fSlX_l, fIs_n, fIs_i, fIs_b, fIs_s, fIs_l, fIs_t, fIs_m, fIs_bl, fLen_t, fLen_l, fLen_m, fLen_b, fLen_scr, fIsi_c, fEqD_c, fEqD_mm, fEqD_bm, fEqD_bb, fEqD_dm, fEq_ss, fInt_i, fInt_b, fTuple_m, fTuple_b, fTuple_t, fTuple_l, fList_m, fList_b, fList_t, fList_l, f2I_c, fRepr_c, fRepr_m, fRepr_b, fStr_c, Bool.not_true, Bool.not_false, true_and, netT, Road.dt, reduceIte, Bool.false_eq_true, decide_true, decide_false, tupK, lstK, dNext_c, dBreak_c, dCont_c, dSeq_c, dDrop_c, dRet_c, retK_d, retK_m, retK_r, dRetN_c, dIfS_c, iteS_t, iteS_f, dSet_c, setK_d, setK_m, setK_s, setK_r, dAsg_c, asgK_d, asgK_m, dFz_c, dNever_c, dRaise_c, dC_c, dOp_c, dUn_c, dTst_c, tstK_c, dTru_c, truK_n, truK_b, truK_i, truK_t, truK_l, truK_m, truK_bl, dNot_c, dAnd_c, andK_t, andK_f, dOr_c, orK_t, orK_f, dAndV_c, andV_t, andV_f, dOrV_c, orV_t, orV_f, dNotV_c, dIf_c, iteE_t, iteE_f, dChain_c, chK_t, chK_f, dNil_c, dCons_c, dCB_c, dCall_c, dCall0_c, dTup_c, dLst_c, dFor_c, dLc_c, iTp_c, tpK_c, iLst_c, lsK_d, lsK_m, iSeq_c, sqK_d, sqK_m, sqK_b, dSl_c, dNo_c, dPt_c, ptK_c, dYes_c, dBack_k, backK_c, dTupRg_c, dLstRg_c, dRg1_c, dRg2_c, rg1K_c, rg2K_c, tupRg_c, lstRg_c, dDict0_c, dDict1_c, gdName_c, gdTup_c, gdCons_c, gdNil_c, dApp_c, appK_c, apK_d, apK_m, dVar_c, varK_d, varK_m, varK_b, varK_s, varK_sc, varK_r, dNew_c, varK_mo, varK_bo, setK_mo, retK_mo, dDIn_c, dinK_i, dinK_s, dDGet_c, dDGet1_c, isBo_c, dget1K_i, dDPut_c, dputV_d, dputK_i, val_mo, dOwn0_c, dDispV_c, dispK_i, fRepT_c, fIsB_c, dM0_c, dM1_c, isStr_c, fQ0_c, fQ1_c, fSplit_c, fLenS_c, iEnSD_c, dSetdIf_c, setdB_f, enSK_m, enSK_d, dOrT_c, dAndT_c, orTK_n, dCallK_c, dCallK0_c, dCallD_c, dCallD0_c, dSaid_c, toldK_d, toldK_m, iRg1_c, rgK_c, iRg2_c, rgK2_c, iEnT_c, enK_c, iZp_c, zpK_tt, zpK_mm, zpK_ll, zpK_lm, zpK_ml, dPar_c, parK_im, parK_nm, parK_sm, parK_dd, parK_md]
        rw [ne]
        try simp only [startD, iEn, cvs, cv, vS, Sl.dat, Sl.seq, Sl.sq, Sl.fz, dats, dSetI, dAug, wipeD, List.length_cons, List.length_nil, List.length_append, List.length_replicate, Nat.reduceAdd, Nat.reduceSub, Nat.zero_add, List.replicate_succ, List.replicate_zero, List.cons_append, List.nil_append, List.append_nil, List.set_cons_zero, List.set_cons_succ, List.set_nil, List.getElem?_cons_zero, List.getElem?_cons_succ, Option.getD_some, List.map_cons, List.map_nil, Option.bind_some, fI0_c, fI_c, fU_c, fAddX_i, fAddX_t, fAddX_s, fAddX_mm, fAddX_bm, fAddX_mb, fAddX_bb, fAddX_lm, fAddX_ll, fMulX_i, fMulX_m, fSlX_t, fSlX_m, fSlX_b, fSlX_l, fIs_n, fIs_i, fIs_b, fIs_s, fIs_l, fIs_t, fIs_m, fIs_bl, fLen_t, fLen_l, fLen_m, fLen_b, fLen_scr, fIsi_c, fEqD_c, fEqD_mm, fEqD_bm, fEqD_bb, fEqD_dm, fEq_ss, fInt_i, fInt_b, fTuple_m, fTuple_b, fTuple_t, fTuple_l, fList_m, fList_b, fList_t, fList_l, f2I_c, fRepr_c, fRepr_m, fRepr_b, fStr_c, Bool.not_true, Bool.not_false, true_and, netT, Road.dt, reduceIte, Bool.false_eq_true, decide_true, decide_false, tupK, lstK, dNext_c, dBreak_c, dCont_c, dSeq_c, dDrop_c, dRet_c, retK_d, retK_m, retK_r, dRetN_c, dIfS_c, iteS_t, iteS_f, dSet_c, setK_d, setK_m, setK_s, setK_r, dAsg_c, asgK_d, asgK_m, dFz_c, dNever_c, dRaise_c, dC_c, dOp_c, dUn_c, dTst_c, tstK_c, dTru_c, truK_n, truK_b, truK_i, truK_t, truK_l, truK_m, truK_bl, dNot_c, dAnd_c, andK_t, andK_f, dOr_c, orK_t, orK_f, dAndV_c, andV_t, andV_f, dOrV_c, orV_t, orV_f, dNotV_c, dIf_c, iteE_t, iteE_f, dChain_c, chK_t, chK_f, dNil_c, dCons_c, dCB_c, dCall_c, dCall0_c, dTup_c, dLst_c, dFor_c, dLc_c, iTp_c, tpK_c, iLst_c, lsK_d, lsK_m, iSeq_c, sqK_d, sqK_m, sqK_b, dSl_c, dNo_c, dPt_c, ptK_c, dYes_c, dBack_k, backK_c, dTupRg_c, dLstRg_c, dRg1_c, dRg2_c, rg1K_c, rg2K_c, tupRg_c, lstRg_c, dDict0_c, dDict1_c, gdName_c, gdTup_c, gdCons_c, gdNil_c, dApp_c, appK_c, apK_d, apK_m, dVar_c, varK_d, varK_m, varK_b, varK_s, varK_sc, varK_r, dNew_c, varK_mo, varK_bo, setK_mo, retK_mo, dDIn_c, dinK_i, dinK_s, dDGet_c, dDGet1_c, isBo_c, dget1K_i, dDPut_c, dputV_d, dputK_i, val_mo, dOwn0_c, dDispV_c, dispK_i, fRepT_c, fIsB_c, dM0_c, dM1_c, isStr_c, fQ0_c, fQ1_c, fSplit_c, fLenS_c, iEnSD_c, dSetdIf_c, setdB_f, enSK_m, enSK_d, dOrT_c, dAndT_c, orTK_n, dCallK_c, dCallK0_c, dCallD_c, dCallD0_c, dSaid_c, toldK_d, toldK_m, iRg1_c, rgK_c, iRg2_c, rgK2_c, iEnT_c, enK_c, iZp_c, zpK_tt, zpK_mm, zpK_ll, zpK_lm, zpK_ml, dPar_c, parK_im, parK_nm, parK_sm, parK_dd, parK_md]
        refine fIx_at (n := 1) rfl ?_
        refine fIxB_last (init := init.map frow) rfl ?_
        refine fIx_at (n := 1) rfl ?_
        try simp only [startD, iEn, cvs, cv, vS, Sl.dat, Sl.seq, Sl.sq, Sl.fz, dats, dSetI, dAug, wipeD, List.length_cons, List.length_nil, List.length_append, List.length_replicate, Nat.reduceAdd, Nat.reduceSub, Nat.zero_add, List.replicate_succ, List.replicate_zero, List.cons_append, List.nil_append, List.append_nil, List.set_cons_zero, List.set_cons_succ, List.set_nil, List.getElem?_cons_zero, List.getElem?_cons_succ, Option.getD_some, List.map_cons, List.map_nil, Option.bind_some, fI0_c, fI_c, fU_c, fAddX_i, fAddX_t, fAddX_s, fAddX_mm, fAddX_bm, fAddX_mb, fAddX_bb, fAddX_lm, fAddX_ll, fMulX_i, fMulX_m, fSlX_t, fSlX_m, fSlX_b, fSlX_l, fIs_n, fIs_i, fIs_b, fIs_s, fIs_l, fIs_t, fIs_m, fIs_bl, fLen_t, fLen_l, fLen_m, fLen_b, fLen_scr, fIsi_c, fEqD_c, fEqD_mm, fEqD_bm, fEqD_bb, fEqD_dm, fEq_ss, fInt_i, fInt_b, fTuple_m, fTuple_b, fTuple_t, fTuple_l, fList_m, fList_b, fList_t, fList_l, f2I_c, fRepr_c, fRepr_m, fRepr_b, fStr_c, Bool.not_true, Bool.not_false, true_and, netT, Road.dt, reduceIte, Bool.false_eq_true, decide_true, decide_false, tupK, lstK, dNext_c, dBreak_c, dCont_c, dSeq_c, dDrop_c, dRet_c, retK_d, retK_m, retK_r, dRetN_c, dIfS_c, iteS_t, iteS_f, dSet_c, setK_d, setK_m, setK_s, setK_r, dAsg_c, asgK_d, asgK_m, dFz_c, dNever_c, dRaise_c, dC_c, dOp_c, dUn_c, dTst_c, tstK_c, dTru_c, truK_n, truK_b, truK_i, truK_t, truK_l, truK_m, truK_bl, dNot_c, dAnd_c, andK_t, andK_f, dOr_c, orK_t, orK_f, dAndV_c, andV_t, andV_f, dOrV_c, orV_t, orV_f, dNotV_c, dIf_c, iteE_t, iteE_f, dChain_c, chK_t, chK_f, dNil_c, dCons_c, dCB_c, dCall_c, dCall0_c, dTup_c, dLst_c, dFor_c, dLc_c, iTp_c, tpK_c, iLst_c, lsK_d, lsK_m, iSeq_c, sqK_d, sqK_m, sqK_b, dSl_c, dNo_c, dPt_c, ptK_c, dYes_c, dBack_k, backK_c, dTupRg_c, dLstRg_c, dRg1_c, dRg2_c, rg1K_c, rg2K_c, tupRg_c, lstRg_c, dDict0_c, dDict1_c, gdName_c, gdTup_c, gdCons_c, gdNil_c, dApp_c, appK_c, apK_d, apK_m, dVar_c, varK_d, varK_m, varK_b, varK_s, varK_sc, varK_r, dNew_c, varK_mo, varK_bo, setK_mo, retK_mo, dDIn_c, dinK_i, dinK_s, dDGet_c, dDGet1_c, isBo_c, dget1K_i, dDPut_c, dputV_d, dputK_i, val_mo, dOwn0_c, dDispV_c, dispK_i, fRepT_c, fIsB_c, dM0_c, dM1_c, isStr_c, fQ0_c, fQ1_c, fSplit_c, fLenS_c, iEnSD_c, dSetdIf_c, setdB_f, enSK_m, enSK_d, dOrT_c, dAndT_c, orTK_n, dCallK_c, dCallK0_c, dCallD_c, dCallD0_c, dSaid_c, toldK_d, toldK_m, iRg1_c, rgK_c, iRg2_c, rgK2_c, iEnT_c, enK_c, iZp_c, zpK_tt, zpK_mm, zpK_ll, zpK_lm, zpK_ml, dPar_c, parK_im, parK_nm, parK_sm, parK_dd, parK_md]
        by_cases ht : r.t < y.t
        · rw [decide_eq_true ht]
          rw [if_pos ht, List.map_append, em] at grow
          try simp only [startD, iEn, cvs, cv, vS, Sl.dat, Sl.seq, Sl.sq, Sl.fz, dats, dSetI, dAug, wipeD, List.length_cons, List.length_nil, List.length_append, List.length_replicate, Nat.reduceAdd, Nat.reduceSub, Nat.zero_add, List.replicate_succ, List.replicate_zero, List.cons_append, List.nil_append, List.append_nil, List.set_cons_zero, List.set_cons_succ, List.set_nil, List.getElem?_cons_zero, List.getElem?_cons_succ, Option.getD_some, List.map_cons, List.map_nil, Option.bind_some, fI0_c, fI_c, fU_c, fAddX_i, fAddX_t, fAddX_s, fAddX_mm, fAddX_bm, fAddX_mb, fAddX_bb, fAddX_lm, fAddX_ll, fMulX_i, fMulX_m, fSlX_t, fSlX_m, fSlX_b, fSlX_l, fIs_n, fIs_i, fIs_b, fIs_s, fIs_l, fIs_t, fIs_m, fIs_bl, fLen_t, fLen_l, fLen_m, fLen_b, fLen_scr, fIsi_c, fEqD_c, fEqD_mm, fEqD_bm, fEqD_bb, fEqD_dm, fEq_ss, fInt_i, fInt_b, fTuple_m, fTuple_b, fTuple_t, fTuple_l, fList_m, fList_b, fList_t, fList_l, f2I_c, fRepr_c, fRepr_m, fRepr_b, fStr_c, Bool.not_true, Bool.not_false, true_and, netT, Road.dt, reduceIte, Bool.false_eq_true, decide_true, decide_false, tupK, lstK, dNext_c, dBreak_c, dCont_c, dSeq_c, dDrop_c, dRet_c, retK_d, retK_m, retK_r, dRetN_c, dIfS_c, iteS_t, iteS_f, dSet_c, setK_d, setK_m, setK_s, setK_r, dAsg_c, asgK_d, asgK_m, dFz_c, dNever_c, dRaise_c, dC_c, dOp_c, dUn_c, dTst_c, tstK_c, dTru_c, truK_n, truK_b, truK_i, truK_t, truK_l, truK_m, truK_bl, dNot_c, dAnd_c, andK_t, andK_f, dOr_c, orK_t, orK_f, dAndV_c, andV_t, andV_f, dOrV_c, orV_t, orV_f, dNotV_c, dIf_c, iteE_t, iteE_f, dChain_c, chK_t, chK_f, dNil_c, dCons_c, dCB_c, dCall_c, dCall0_c, dTup_c, dLst_c, dFor_c, dLc_c, iTp_c, tpK_c, iLst_c, lsK_d, lsK_m, iSeq_c, sqK_d, sqK_m, sqK_b, dSl_c, dNo_c, dPt_c, ptK_c, dYes_c, dBack_k, backK_c, dTupRg_c, dLstRg_c, dRg1_c, dRg2_c, rg1K_c, rg2K_c, tupRg_c, lstRg_c, dDict0_c, dDict1_c, gdName_c, gdTup_c, gdCons_c, gdNil_c, dApp_c, appK_c, apK_d, apK_m, dVar_c, varK_d, varK_m, varK_b, varK_s, varK_sc, varK_r, dNew_c, varK_mo, varK_bo, setK_mo, retK_mo, dDIn_c, dinK_i, dinK_s, dDGet_c, dDGet1_c, isBo_c, dget1K_i, dDPut_c, dputV_d, dputK_i, val_mo, dOwn0_c, dDispV_c, dispK_i, fRepT_c, fIsB_c, dM0_c, dM1_c, isStr_c, fQ0_c, fQ1_c, fSplit_c, fLenS_c, iEnSD_c, dSetdIf_c, setdB_f, enSK_m, enSK_d, dOrT_c, dAndT_c, orTK_n, dCallK_c, dCallK0_c, dCallD_c, dCallD0_c, dSaid_c, toldK_d, toldK_m, iRg1_c, rgK_c, iRg2_c, rgK2_c, iEnT_c, enK_c, iZp_c, zpK_tt, zpK_mm, zpK_ll, zpK_lm, zpK_ml, dPar_c, parK_im, parK_nm, parK_sm, parK_dd, parK_md]
          refine ⟨by simp only [List.length_append, List.length_map, List.length_singleton]; exact Nat.lt_of_le_of_lt (show init.length + 1 ≤ 1000000 by omega) (by decide), ?_⟩
          exact grow
        · rw [decide_eq_false ht]
          rw [if_neg ht, em] at grow
          try simp only [startD, iEn, cvs, cv, vS, Sl.dat, Sl.seq, Sl.sq, Sl.fz, dats, dSetI, dAug, wipeD, List.length_cons, List.length_nil, List.length_append, List.length_replicate, Nat.reduceAdd, Nat.reduceSub, Nat.zero_add, List.replicate_succ, List.replicate_zero, List.cons_append, List.nil_append, List.append_nil, List.set_cons_zero, List.set_cons_succ, List.set_nil, List.getElem?_cons_zero, List.getElem?_cons_succ, Option.getD_some, List.map_cons, List.map_nil, Option.bind_some, fI0_c, fI_c, fU_c, fAddX_i, fAddX_t, fAddX_s, fAddX_mm, fAddX_bm, fAddX_mb, fAddX_bb, fAddX_lm, fAddX_ll, fMulX_i, fMulX_m, fSlX_t, fSlX_m, fSlX_b, fSlX_l, fIs_n, fIs_i, fIs_b, fIs_s, fIs_l, fIs_t, fIs_m, fIs_bl, fLen_t, fLen_l, fLen_m, fLen_b, fLen_scr, fIsi_c, fEqD_c, fEqD_mm, fEqD_bm, fEqD_bb, fEqD_dm, fEq_ss, fInt_i, fInt_b, fTuple_m, fTuple_b, fTuple_t, fTuple_l, fList_m, fList_b, fList_t, fList_l, f2I_c, fRepr_c, fRepr_m, fRepr_b, fStr_c, Bool.not_true, Bool.not_false, true_and, netT, Road.dt, reduceIte, Bool.false_eq_true, decide_true, decide_false, tupK, lstK, dNext_c, dBreak_c, dCont_c, dSeq_c, dDrop_c, dRet_c, retK_d, retK_m, retK_r, dRetN_c, dIfS_c, iteS_t, iteS_f, dSet_c, setK_d, setK_m, setK_s, setK_r, dAsg_c, asgK_d, asgK_m, dFz_c, dNever_c, dRaise_c, dC_c, dOp_c, dUn_c, dTst_c, tstK_c, dTru_c, truK_n, truK_b, truK_i, truK_t, truK_l, truK_m, truK_bl, dNot_c, dAnd_c, andK_t, andK_f, dOr_c, orK_t, orK_f, dAndV_c, andV_t, andV_f, dOrV_c, orV_t, orV_f, dNotV_c, dIf_c, iteE_t, iteE_f, dChain_c, chK_t, chK_f, dNil_c, dCons_c, dCB_c, dCall_c, dCall0_c, dTup_c, dLst_c, dFor_c, dLc_c, iTp_c, tpK_c, iLst_c, lsK_d, lsK_m, iSeq_c, sqK_d, sqK_m, sqK_b, dSl_c, dNo_c, dPt_c, ptK_c, dYes_c, dBack_k, backK_c, dTupRg_c, dLstRg_c, dRg1_c, dRg2_c, rg1K_c, rg2K_c, tupRg_c, lstRg_c, dDict0_c, dDict1_c, gdName_c, gdTup_c, gdCons_c, gdNil_c, dApp_c, appK_c, apK_d, apK_m, dVar_c, varK_d, varK_m, varK_b, varK_s, varK_sc, varK_r, dNew_c, varK_mo, varK_bo, setK_mo, retK_mo, dDIn_c, dinK_i, dinK_s, dDGet_c, dDGet1_c, isBo_c, dget1K_i, dDPut_c, dputV_d, dputK_i, val_mo, dOwn0_c, dDispV_c, dispK_i, fRepT_c, fIsB_c, dM0_c, dM1_c, isStr_c, fQ0_c, fQ1_c, fSplit_c, fLenS_c, iEnSD_c, dSetdIf_c, setdB_f, enSK_m, enSK_d, dOrT_c, dAndT_c, orTK_n, dCallK_c, dCallK0_c, dCallD_c, dCallD0_c, dSaid_c, toldK_d, toldK_m, iRg1_c, rgK_c, iRg2_c, rgK2_c, iEnT_c, enK_c, iZp_c, zpK_tt, zpK_mm, zpK_ll, zpK_lm, zpK_ml, dPar_c, parK_im, parK_nm, parK_sm, parK_dd, parK_md]
          exact grow
    · obtain ⟨y2, rfl⟩ := h
      rw [List.length_map, List.take_length]
      try simp only [startD, iEn, cvs, cv, vS, Sl.dat, Sl.seq, Sl.sq, Sl.fz, dats, dSetI, dAug, wipeD, List.length_cons, List.length_nil, List.length_append, List.length_replicate, Nat.reduceAdd, Nat.reduceSub, Nat.zero_add, List.replicate_succ, List.replicate_zero, List.cons_append, List.nil_append, List.append_nil, List.set_cons_zero, List.set_cons_succ, List.set_nil, List.getElem?_cons_zero, List.getElem?_cons_succ, Option.getD_some, List.map_cons, List.map_nil, Option.bind_some, fI0_c, fI_c, fU_c, fAddX_i, fAddX_t, fAddX_s, fAddX_mm, fAddX_bm, fAddX_mb, fAddX_bb, fAddX_lm, fAddX_ll, fMulX_i, fMulX_m, fSlX_t, fSlX_m, fSlX_b, fSlX_l, fIs_n, fIs_i, fIs_b, fIs_s, fIs_l, fIs_t, fIs_m, fIs_bl, fLen_t, fLen_l, fLen_m, fLen_b, fLen_scr, fIsi_c, fEqD_c, fEqD_mm, fEqD_bm, fEqD_bb, fEqD_dm, fEq_ss, fInt_i, fInt_b, fTuple_m, fTuple_b, fTuple_t, fTuple_l, fList_m, fList_b, fList_t, fList_l, f2I_c, fRepr_c, fRepr_m, fRepr_b, fStr_c, Bool.not_true, Bool.not_false, true_and, netT, Road.dt, reduceIte, Bool.false_eq_true, decide_true, decide_false, tupK, lstK, dNext_c, dBreak_c, dCont_c, dSeq_c, dDrop_c, dRet_c, retK_d, retK_m, retK_r, dRetN_c, dIfS_c, iteS_t, iteS_f, dSet_c, setK_d, setK_m, setK_s, setK_r, dAsg_c, asgK_d, asgK_m, dFz_c, dNever_c, dRaise_c, dC_c, dOp_c, dUn_c, dTst_c, tstK_c, dTru_c, truK_n, truK_b, truK_i, truK_t, truK_l, truK_m, truK_bl, dNot_c, dAnd_c, andK_t, andK_f, dOr_c, orK_t, orK_f, dAndV_c, andV_t, andV_f, dOrV_c, orV_t, orV_f, dNotV_c, dIf_c, iteE_t, iteE_f, dChain_c, chK_t, chK_f, dNil_c, dCons_c, dCB_c, dCall_c, dCall0_c, dTup_c, dLst_c, dFor_c, dLc_c, iTp_c, tpK_c, iLst_c, lsK_d, lsK_m, iSeq_c, sqK_d, sqK_m, sqK_b, dSl_c, dNo_c, dPt_c, ptK_c, dYes_c, dBack_k, backK_c, dTupRg_c, dLstRg_c, dRg1_c, dRg2_c, rg1K_c, rg2K_c, tupRg_c, lstRg_c, dDict0_c, dDict1_c, gdName_c, gdTup_c, gdCons_c, gdNil_c, dApp_c, appK_c, apK_d, apK_m, dVar_c, varK_d, varK_m, varK_b, varK_s, varK_sc, varK_r, dNew_c, varK_mo, varK_bo, setK_mo, retK_mo, dDIn_c, dinK_i, dinK_s, dDGet_c, dDGet1_c, isBo_c, dget1K_i, dDPut_c, dputV_d, dputK_i, val_mo, dOwn0_c, dDispV_c, dispK_i, fRepT_c, fIsB_c, dM0_c, dM1_c, isStr_c, fQ0_c, fQ1_c, fSplit_c, fLenS_c, iEnSD_c, dSetdIf_c, setdB_f, enSK_m, enSK_d, dOrT_c, dAndT_c, orTK_n, dCallK_c, dCallK0_c, dCallD_c, dCallD0_c, dSaid_c, toldK_d, toldK_m, iRg1_c, rgK_c, iRg2_c, rgK2_c, iEnT_c, enK_c, iZp_c, zpK_tt, zpK_mm, zpK_ll, zpK_lm, zpK_ml, dPar_c, parK_im, parK_nm, parK_sm, parK_dd, parK_md]
      rw [dRetO_c]
      exact ⟨_, rfl, q⟩
def frD (p : Int) (rs : List Road) (g : Int) (k : Nat) : List PyData := (List.range p.toNat).map fun (a : Nat) => PyData.list ((frontN rs g k (a : Int)).map frow)
/-- the rows of a round, behind so many roads -/
def rwD (p : Int) (rs : List Road) (g : Int) (k i : Nat) : List (List PyData) := (List.range p.toNat).map fun (a : Nat) => ((frontN rs g k (a : Int)) ++ exts (frontN rs g k) (a : Int) 0 (rs.take i)).map frow
theorem frD_get {p : Int} {rs : List Road} {g : Int} {k j : Nat} (h : j < p.toNat) : (frD p rs g k)[j]? = some (.list ((frontN rs g k (j : Int)).map frow)) := by
  unfold frD
  rw [List.getElem?_map, List.getElem?_range h]
  rfl
theorem frD_len (p : Int) (rs : List Road) (g : Int) (k : Nat) : (frD p rs g k).length = p.toNat := by
  unfold frD
  rw [List.length_map, List.length_range]
theorem rwD_get {p : Int} {rs : List Road} {g : Int} {k i j : Nat} (h : j < p.toNat) : (rwD p rs g k i)[j]? = some (((frontN rs g k (j : Int)) ++ exts (frontN rs g k) (j : Int) 0 (rs.take i)).map frow) := by
  unfold rwD
  rw [List.getElem?_map, List.getElem?_range h]
  rfl
theorem rwD_set {p : Int} {rs : List Road} {g : Int} {k i : Nat} {q : Road} (e : rs[i]? = some q) (o1 : 0 ≤ q.one) (o2 : q.one < p) : (rwD p rs g k i).set q.one.toNat ((((frontN rs g k q.one) ++ exts (frontN rs g k) q.one 0 (rs.take i)).map frow) ++ ((frontN rs g k q.other).map fun x => frow (extR i q x))) = rwD p rs g k (i + 1) := by
  have hi := (List.getElem?_eq_some_iff.mp e).1
  have et : rs.take (i + 1) = rs.take i ++ [q] := by
    rw [List.take_add_one, e]
    rfl
  have hl : ∀ i, (rwD p rs g k i).length = p.toNat := fun i => by
    unfold rwD
    rw [List.length_map, List.length_range]
  refine List.ext_getElem? fun j => ?_
  rw [List.getElem?_set]
  by_cases hj : j < p.toNat
  · rw [rwD_get hj, rwD_get hj, et, exts_snoc, List.length_take, Nat.min_eq_left (by omega), Nat.zero_add]
    by_cases z : q.one.toNat = j
    · rw [if_pos z, if_pos (by rw [hl]; omega), if_pos (show q.one = (j : Int) by omega), show (j : Int) = q.one from by omega, ← List.append_assoc, List.map_append (l₁ := frontN rs g k q.one ++ _), List.map_map]
      rfl
    · rw [if_neg z, if_neg (show ¬ q.one = (j : Int) by omega), List.append_nil]
  · rw [List.getElem?_eq_none (l := rwD p rs g k (i + 1)) (by rw [hl]; omega), List.getElem?_eq_none (l := rwD p rs g k i) (by rw [hl]; omega)]
    split
    · rw [if_neg (by rw [hl]; omega)]
    · rfl
theorem rwD_zero (p : Int) (rs : List Road) (g : Int) (k : Nat) : rwD p rs g k 0 = (List.range p.toNat).map fun (a : Nat) => (frontN rs g k (a : Int)).map frow := by
  unfold rwD
  refine List.map_congr_left fun a _ => ?_
  rw [List.take_zero]
  show List.map frow (frontN rs g k (a : Int) ++ []) = _
  rw [List.append_nil]
theorem frD_zero {p : Int} {rs : List Road} {g : Int} (g0 : 0 ≤ g) (g1 : g < p) : (List.replicate p.toNat (PyData.list [])).set g.toNat (.list [frow ⟨0, 0, []⟩]) = frD p rs g 0 := by
  refine List.ext_getElem? fun j => ?_
  rw [List.getElem?_set, List.length_replicate]
  by_cases hj : j < p.toNat
  · rw [frD_get hj]
    by_cases z : g.toNat = j
    · rw [if_pos z, if_pos (by omega)]
      show _ = some (PyData.list ((if (j : Int) = g then [⟨0, 0, []⟩] else []).map frow))
      rw [if_pos (by omega)]
      rfl
    · rw [if_neg z, List.getElem?_replicate, if_pos hj]
      show _ = some (PyData.list ((if (j : Int) = g then [⟨0, 0, []⟩] else []).map frow))
      rw [if_neg (by omega)]
      rfl
  · rw [List.getElem?_eq_none (l := frD p rs g 0) (by rw [frD_len]; omega)]
    split
    · rw [if_neg (by omega)]
    · rw [List.getElem?_eq_none (by rw [List.length_replicate]; omega)]
theorem rw_len {p : Int} {rs : List Road} (ok : NetOk p rs) {g a : Int} (a0 : 0 ≤ a) (a1 : a < p) {k : Nat} (hk : k ≤ 9) (i : Nat) : ((frontN rs g k a) ++ exts (frontN rs g k) a 0 (rs.take i)).length ≤ 40000 := by
  have h1 := (frontN_ok ok (g := g) a0 a1 hk).2
  have l30 := ok.len
  have h2 := exts_len (F := frontN rs g k) (a := a) (n := 1001) (i := 0) (r := rs.take i) fun q hq => by
    have o := ok.all q (List.mem_of_mem_take hq)
    have := o.t2
    exact (frontN_ok ok o.t1 (by omega) hk).2
  have h3 : (rs.take i).length ≤ 30 := by rw [List.length_take]; omega
  have h4 : (rs.take i).length * 1001 ≤ 30 * 1001 := Nat.mul_le_mul_right _ h3
  rw [List.length_append]
  omega
theorem sc_fronts_to : FnScope ["net", "goal", "fronts", "place", "turn", "rows", "front", "road", "one", "other", "cost", "time", "paid", "spent", "way", "row"] ["net", "goal"] (defScope s_fronts_to) := ⟨rfl, rfl, rfl, by decide +kernel, rfl, by decide +kernel, by decide +kernel⟩
def sd_fronts_to : SpD := fun ss Qd _ => ∃ (p : Int) (rs : List Road) (g : Int), ss = [.d (netT p rs), .d (.int g)] ∧ NetOk p rs ∧ 0 ≤ g ∧ g < p ∧ Qd (.d (.list (frD p rs g (p - 1).toNat)))
theorem c_fronts_to (T : Tx K mg C) : Cb P w K mg base CX0 2 "fronts_to" ["net", "goal"] (spD K [] sd_fronts_to) := by
  obtain ⟨f, fd, D⟩ := T.h_fronts_to
  refine ⟨f, fd, okD (k := 1) D.F sc_fronts_to (fun ss Qd R h => ?_) (fun cdv A outer s H E hr => ⟨_, (pss_cons (ps_setLc (i := 2) (own := [("place", 3)]) (g := (gName 3)) (tt := tYes) (by rfl) sc_fronts_to.nd rfl rfl (sw_true rfl rfl rfl (by decide +kernel)) (pi_range1 (by rfl) T.range (pa_cons (pe_ix (ix_seqK (K := K) rfl) (pv 0) pe_int (fun _ _ => rfl)) pa_nil))
      (blkOk_by (own := [("place", 3)]) (N := ["net", "goal", "fronts", "place", "turn", "rows", "front", "road", "one", "other", "cost", "time", "paid", "spent", "way", "row"]) (sc := defScope s_fronts_to) (by decide +kernel)) (fun _ _ _ _ _ => (pg_name (i := 3) sc_fronts_to.nd rfl (.inl rfl))) (fun _ _ _ _ _ => pts_nil) (fun _ _ _ _ _ => (pe_lst pa_nil)))
    (pss_cons (ps_asg (pe_lst (pa_cons (pe_tup (pa_cons pe_int (pa_cons pe_int (pa_cons (pe_tup pa_nil) pa_nil)))) pa_nil)) (pg_sub (pv 2) (pv 1) set_list))
    (pss_cons (ps_for PassesOwn.never rfl (pi_range2 (by rfl) T.range (pa_cons pe_int (pa_cons (pe_ix (ix_seqK (K := K) rfl) (pv 0) pe_int (fun _ _ => rfl)) pa_nil))) (pg_name (i := 4) sc_fronts_to.nd rfl (.inl rfl))
    (pss_blk (K := K) (ps_setLc (i := 5) (own := [("front", 6)]) (g := (gName 6)) (tt := tYes) (by rfl) sc_fronts_to.nd rfl rfl (sw_true rfl rfl rfl (by decide +kernel)) (pi_listK (K := K) rfl (pv 2))
      (blkOk_by (own := [("front", 6)]) (N := ["net", "goal", "fronts", "place", "turn", "rows", "front", "road", "one", "other", "cost", "time", "paid", "spent", "way", "row"]) (sc := defScope s_fronts_to) (by decide +kernel)) (fun _ _ _ _ _ => (pg_name (i := 6) sc_fronts_to.nd rfl (.inl rfl))) (fun _ _ _ _ _ => pts_nil) (fun _ _ _ _ _ => (pe_callTy (call_listK (K := K) rfl) (by rfl) T.list (by decide +kernel) (pa_cons (pv 6) pa_nil))))
    (ps_for PassesOwn.never rfl (pi_enumK (K := K) rfl (by rfl) T.enumerate (pa_cons (pe_ix (ix_seqK (K := K) rfl) (pv 0) pe_int (fun _ _ => rfl)) pa_nil)) (pg_tupK (n := 2) (K := K) rfl (by rfl) (pgs_cons (pg_name (i := 7) sc_fronts_to.nd rfl (.inr rfl)) (pgs_cons (pg_tupK (n := 4) (K := K) rfl (by rfl) (pgs_cons (pg_name (i := 8) sc_fronts_to.nd rfl (.inl rfl)) (pgs_cons (pg_name (i := 9) sc_fronts_to.nd rfl (.inl rfl)) (pgs_cons (pg_name (i := 10) sc_fronts_to.nd rfl (.inr rfl)) (pgs_cons (pg_name (i := 11) sc_fronts_to.nd rfl (.inr rfl)) pgs_nil))))) pgs_nil)))
    (pss_one (show PS _ _ (tAugS (tVar 5) _ _ (rIxL K) rExt2 _) from (ps_augS (pv 5) (pv 8) get_listD (pe_lc (own := [("paid", 12), ("spent", 13), ("way", 14)]) (g := (gTup K 3 (gCons (gName 12) (gCons (gName 13) (gCons (gName 14) gNil))))) (tt := tYes) (by rfl) sc_fronts_to.nd (pi_listK (K := K) rfl (pe_ix (ix_seqK (K := K) rfl) (pv 2) (pv 9) (fun _ _ => rfl)))
      (blkOk_by (own := [("paid", 12), ("spent", 13), ("way", 14)]) (N := ["net", "goal", "fronts", "place", "turn", "rows", "front", "road", "one", "other", "cost", "time", "paid", "spent", "way", "row"]) (sc := defScope s_fronts_to) (by decide +kernel)) (fun _ _ _ _ _ => (pg_tupK (n := 3) (K := K) rfl (by rfl) (pgs_cons (pg_name (i := 12) sc_fronts_to.nd rfl (.inl rfl)) (pgs_cons (pg_name (i := 13) sc_fronts_to.nd rfl (.inl rfl)) (pgs_cons (pg_name (i := 14) sc_fronts_to.nd rfl (.inl rfl)) pgs_nil))))) (fun _ _ _ _ _ => pts_nil) (fun _ _ _ _ _ => (pe_tup (pa_cons (pe_op (op_addK (K := K) rfl) (pv 10) (pv 12)) (pa_cons (pe_op (op_addK (K := K) rfl) (pv 11) (pv 13)) (pa_cons (pe_op (op_addK (K := K) rfl) (pe_tup (pa_cons (pv 7) pa_nil)) (pv 14)) pa_nil)))))) ip_ext set_list))))
    (pss_one (ps_setLc (i := 2) (own := [("row", 15)]) (g := (gName 15)) (tt := tYes) (by rfl) sc_fronts_to.nd rfl rfl (sw_true rfl rfl rfl (by decide +kernel)) (pi_listK (K := K) rfl (pv 5))
      (blkOk_by (own := [("row", 15)]) (N := ["net", "goal", "fronts", "place", "turn", "rows", "front", "road", "one", "other", "cost", "time", "paid", "spent", "way", "row"]) (sc := defScope s_fronts_to) (by decide +kernel)) (fun _ _ _ _ _ => (pg_name (i := 15) sc_fronts_to.nd rfl (.inl rfl))) (fun _ _ _ _ _ => pts_nil) (fun _ _ _ _ _ => (pe_cb (c_unbeaten (K := K) T) (hr.mono (by decide)) (by rfl) pass0 (pa_cons (pv 15) pa_nil)))))))
    (pss_fz 2 (pss_one (ps_ret (pv 2))))))), ?_⟩), D.g, D.F.kp, D.b⟩
  · obtain ⟨_, _, _, rfl, _⟩ := h
    rfl
  · refine ⟨_, fun τ => inferInstance, fun ss Qd R h => ?_⟩
    obtain ⟨p, rs, g, rfl, ok, g0, g1, q⟩ := h
    have p1 := ok.p1
    have p2 := ok.p2
    have l30 := ok.len
    try simp only [startD, iEn, cvs, cv, vS, Sl.dat, Sl.seq, Sl.sq, Sl.fz, dats, dSetI, dAug, wipeD, List.length_cons, List.length_nil, List.length_append, List.length_replicate, Nat.reduceAdd, Nat.reduceSub, Nat.zero_add, List.replicate_succ, List.replicate_zero, List.cons_append, List.nil_append, List.append_nil, List.set_cons_zero, List.set_cons_succ, List.set_nil, List.getElem?_cons_zero, List.getElem?_cons_succ, Option.getD_some, List.map_cons, List.map_nil, Option.bind_some, fI0_c, fI_c, fU_c, fAddX_i, fAddX_t, fAddX_s, fAddX_mm, fAddX_bm, fAddX_mb, fAddX_bb, fAddX_lm, fAddX_ll, fMulX_i, fMulX_m, fSlX_t, fSlX_m, fSlX_b, fSlX_l, fIs_n, fIs_i, fIs_b, fIs_s, fIs_l, fIs_t, fIs_m, fIs_bl, fLen_t, fLen_l, fLen_m, fLen_b, fLen_scr, fIsi_c, fEqD_c, fEqD_mm, fEqD_bm, fEqD_bb, fEqD_dm, fEq_ss, fInt_i, fInt_b, fTuple_m, fTuple_b, fTuple_t, fTuple_l, fList_m, fList_b, fList_t, fList_l, f2I_c, fRepr_c, fRepr_m, fRepr_b, fStr_c, Bool.not_true, Bool.not_false, true_and, netT, Road.dt, reduceIte, Bool.false_eq_true, decide_true, decide_false, tupK, lstK, dNext_c, dBreak_c, dCont_c, dSeq_c, dDrop_c, dRet_c, retK_d, retK_m, retK_r, dRetN_c, dIfS_c, iteS_t, iteS_f, dSet_c, setK_d, setK_m, setK_s, setK_r, dAsg_c, asgK_d, asgK_m, dFz_c, dNever_c, dRaise_c, dC_c, dOp_c, dUn_c, dTst_c, tstK_c, dTru_c, truK_n, truK_b, truK_i, truK_t, truK_l, truK_m, truK_bl, dNot_c, dAnd_c, andK_t, andK_f, dOr_c, orK_t, orK_f, dAndV_c, andV_t, andV_f, dOrV_c, orV_t, orV_f, dNotV_c, dIf_c, iteE_t, iteE_f, dChain_c, chK_t, chK_f, dNil_c, dCons_c, dCB_c, dCall_c, dCall0_c, dTup_c, dLst_c, dFor_c, dLc_c, iTp_c, tpK_c, iLst_c, lsK_d, lsK_m, iSeq_c, sqK_d, sqK_m, sqK_b, dSl_c, dNo_c, dPt_c, ptK_c, dYes_c, dBack_k, backK_c, dTupRg_c, dLstRg_c, dRg1_c, dRg2_c, rg1K_c, rg2K_c, tupRg_c, lstRg_c, dDict0_c, dDict1_c, gdName_c, gdTup_c, gdCons_c, gdNil_c, dApp_c, appK_c, apK_d, apK_m, dVar_c, varK_d, varK_m, varK_b, varK_s, varK_sc, varK_r, dNew_c, varK_mo, varK_bo, setK_mo, retK_mo, dDIn_c, dinK_i, dinK_s, dDGet_c, dDGet1_c, isBo_c, dget1K_i, dDPut_c, dputV_d, dputK_i, val_mo, dOwn0_c, dDispV_c, dispK_i, fRepT_c, fIsB_c, dM0_c, dM1_c, isStr_c, fQ0_c, fQ1_c, fSplit_c, fLenS_c, iEnSD_c, dSetdIf_c, setdB_f, enSK_m, enSK_d, dOrT_c, dAndT_c, orTK_n, dCallK_c, dCallK0_c, dCallD_c, dCallD0_c, dSaid_c, toldK_d, toldK_m, iRg1_c, rgK_c, iRg2_c, rgK2_c, iEnT_c, enK_c, iZp_c, zpK_tt, zpK_mm, zpK_ll, zpK_lm, zpK_ml, dPar_c, parK_im, parK_nm, parK_sm, parK_dd, parK_md]
    refine fIx_at (n := 0) rfl ?_
    try simp only [startD, iEn, cvs, cv, vS, Sl.dat, Sl.seq, Sl.sq, Sl.fz, dats, dSetI, dAug, wipeD, List.length_cons, List.length_nil, List.length_append, List.length_replicate, Nat.reduceAdd, Nat.reduceSub, Nat.zero_add, List.replicate_succ, List.replicate_zero, List.cons_append, List.nil_append, List.append_nil, List.set_cons_zero, List.set_cons_succ, List.set_nil, List.getElem?_cons_zero, List.getElem?_cons_succ, Option.getD_some, List.map_cons, List.map_nil, Option.bind_some, fI0_c, fI_c, fU_c, fAddX_i, fAddX_t, fAddX_s, fAddX_mm, fAddX_bm, fAddX_mb, fAddX_bb, fAddX_lm, fAddX_ll, fMulX_i, fMulX_m, fSlX_t, fSlX_m, fSlX_b, fSlX_l, fIs_n, fIs_i, fIs_b, fIs_s, fIs_l, fIs_t, fIs_m, fIs_bl, fLen_t, fLen_l, fLen_m, fLen_b, fLen_scr, fIsi_c, fEqD_c, fEqD_mm, fEqD_bm, fEqD_bb, fEqD_dm, fEq_ss, fInt_i, fInt_b, fTuple_m, fTuple_b, fTuple_t, fTuple_l, fList_m, fList_b, fList_t, fList_l, f2I_c, fRepr_c, fRepr_m, fRepr_b, fStr_c, Bool.not_true, Bool.not_false, true_and, netT, Road.dt, reduceIte, Bool.false_eq_true, decide_true, decide_false, tupK, lstK, dNext_c, dBreak_c, dCont_c, dSeq_c, dDrop_c, dRet_c, retK_d, retK_m, retK_r, dRetN_c, dIfS_c, iteS_t, iteS_f, dSet_c, setK_d, setK_m, setK_s, setK_r, dAsg_c, asgK_d, asgK_m, dFz_c, dNever_c, dRaise_c, dC_c, dOp_c, dUn_c, dTst_c, tstK_c, dTru_c, truK_n, truK_b, truK_i, truK_t, truK_l, truK_m, truK_bl, dNot_c, dAnd_c, andK_t, andK_f, dOr_c, orK_t, orK_f, dAndV_c, andV_t, andV_f, dOrV_c, orV_t, orV_f, dNotV_c, dIf_c, iteE_t, iteE_f, dChain_c, chK_t, chK_f, dNil_c, dCons_c, dCB_c, dCall_c, dCall0_c, dTup_c, dLst_c, dFor_c, dLc_c, iTp_c, tpK_c, iLst_c, lsK_d, lsK_m, iSeq_c, sqK_d, sqK_m, sqK_b, dSl_c, dNo_c, dPt_c, ptK_c, dYes_c, dBack_k, backK_c, dTupRg_c, dLstRg_c, dRg1_c, dRg2_c, rg1K_c, rg2K_c, tupRg_c, lstRg_c, dDict0_c, dDict1_c, gdName_c, gdTup_c, gdCons_c, gdNil_c, dApp_c, appK_c, apK_d, apK_m, dVar_c, varK_d, varK_m, varK_b, varK_s, varK_sc, varK_r, dNew_c, varK_mo, varK_bo, setK_mo, retK_mo, dDIn_c, dinK_i, dinK_s, dDGet_c, dDGet1_c, isBo_c, dget1K_i, dDPut_c, dputV_d, dputK_i, val_mo, dOwn0_c, dDispV_c, dispK_i, fRepT_c, fIsB_c, dM0_c, dM1_c, isStr_c, fQ0_c, fQ1_c, fSplit_c, fLenS_c, iEnSD_c, dSetdIf_c, setdB_f, enSK_m, enSK_d, dOrT_c, dAndT_c, orTK_n, dCallK_c, dCallK0_c, dCallD_c, dCallD0_c, dSaid_c, toldK_d, toldK_m, iRg1_c, rgK_c, iRg2_c, rgK2_c, iEnT_c, enK_c, iZp_c, zpK_tt, zpK_mm, zpK_ll, zpK_lm, zpK_ml, dPar_c, parK_im, parK_nm, parK_sm, parK_dd, parK_md]
    refine ⟨by omega, by omega, ?_⟩
    refine lcD_each (α := Nat) (fun j => .int (0 + (j : Int))) (fun _ => .list []) (List.range p.toNat) (fun j hj acc N' ha hN' => ?_) (by rw [List.length_range]; omega) ?_
    · unfold lcStep
      try simp only [startD, iEn, cvs, cv, vS, Sl.dat, Sl.seq, Sl.sq, Sl.fz, dats, dSetI, dAug, wipeD, List.length_cons, List.length_nil, List.length_append, List.length_replicate, Nat.reduceAdd, Nat.reduceSub, Nat.zero_add, List.replicate_succ, List.replicate_zero, List.cons_append, List.nil_append, List.append_nil, List.set_cons_zero, List.set_cons_succ, List.set_nil, List.getElem?_cons_zero, List.getElem?_cons_succ, Option.getD_some, List.map_cons, List.map_nil, Option.bind_some, fI0_c, fI_c, fU_c, fAddX_i, fAddX_t, fAddX_s, fAddX_mm, fAddX_bm, fAddX_mb, fAddX_bb, fAddX_lm, fAddX_ll, fMulX_i, fMulX_m, fSlX_t, fSlX_m, fSlX_b, fSlX_l, fIs_n, fIs_i, fIs_b, fIs_s, fIs_l, fIs_t, fIs_m, fIs_bl, fLen_t, fLen_l, fLen_m, fLen_b, fLen_scr, fIsi_c, fEqD_c, fEqD_mm, fEqD_bm, fEqD_bb, fEqD_dm, fEq_ss, fInt_i, fInt_b, fTuple_m, fTuple_b, fTuple_t, fTuple_l, fList_m, fList_b, fList_t, fList_l, f2I_c, fRepr_c, fRepr_m, fRepr_b, fStr_c, Bool.not_true, Bool.not_false, true_and, netT, Road.dt, reduceIte, Bool.false_eq_true, decide_true, decide_false, tupK, lstK, dNext_c, dBreak_c, dCont_c, dSeq_c, dDrop_c, dRet_c, retK_d, retK_m, retK_r, dRetN_c, dIfS_c, iteS_t, iteS_f, dSet_c, setK_d, setK_m, setK_s, setK_r, dAsg_c, asgK_d, asgK_m, dFz_c, dNever_c, dRaise_c, dC_c, dOp_c, dUn_c, dTst_c, tstK_c, dTru_c, truK_n, truK_b, truK_i, truK_t, truK_l, truK_m, truK_bl, dNot_c, dAnd_c, andK_t, andK_f, dOr_c, orK_t, orK_f, dAndV_c, andV_t, andV_f, dOrV_c, orV_t, orV_f, dNotV_c, dIf_c, iteE_t, iteE_f, dChain_c, chK_t, chK_f, dNil_c, dCons_c, dCB_c, dCall_c, dCall0_c, dTup_c, dLst_c, dFor_c, dLc_c, iTp_c, tpK_c, iLst_c, lsK_d, lsK_m, iSeq_c, sqK_d, sqK_m, sqK_b, dSl_c, dNo_c, dPt_c, ptK_c, dYes_c, dBack_k, backK_c, dTupRg_c, dLstRg_c, dRg1_c, dRg2_c, rg1K_c, rg2K_c, tupRg_c, lstRg_c, dDict0_c, dDict1_c, gdName_c, gdTup_c, gdCons_c, gdNil_c, dApp_c, appK_c, apK_d, apK_m, dVar_c, varK_d, varK_m, varK_b, varK_s, varK_sc, varK_r, dNew_c, varK_mo, varK_bo, setK_mo, retK_mo, dDIn_c, dinK_i, dinK_s, dDGet_c, dDGet1_c, isBo_c, dget1K_i, dDPut_c, dputV_d, dputK_i, val_mo, dOwn0_c, dDispV_c, dispK_i, fRepT_c, fIsB_c, dM0_c, dM1_c, isStr_c, fQ0_c, fQ1_c, fSplit_c, fLenS_c, iEnSD_c, dSetdIf_c, setdB_f, enSK_m, enSK_d, dOrT_c, dAndT_c, orTK_n, dCallK_c, dCallK0_c, dCallD_c, dCallD0_c, dSaid_c, toldK_d, toldK_m, iRg1_c, rgK_c, iRg2_c, rgK2_c, iEnT_c, enK_c, iZp_c, zpK_tt, zpK_mm, zpK_ll, zpK_lm, zpK_ml, dPar_c, parK_im, parK_nm, parK_sm, parK_dd, parK_md]
      exact ⟨Nat.zero_le _, ha, hN'⟩
    rw [show ((List.range p.toNat).map fun (_ : Nat) => PyData.list []) = List.replicate p.toNat (.list []) from by rw [List.map_const', List.length_range]]
    try simp only [startD, iEn, cvs, cv, vS, Sl.dat, Sl.seq, Sl.sq, Sl.fz, dats, dSetI, dAug, wipeD, List.length_cons, List.length_nil, List.length_append, List.length_replicate, Nat.reduceAdd, Nat.reduceSub, Nat.zero_add, List.replicate_succ, List.replicate_zero, List.cons_append, List.nil_append, List.append_nil, List.set_cons_zero, List.set_cons_succ, List.set_nil, List.getElem?_cons_zero, List.getElem?_cons_succ, Option.getD_some, List.map_cons, List.map_nil, Option.bind_some, fI0_c, fI_c, fU_c, fAddX_i, fAddX_t, fAddX_s, fAddX_mm, fAddX_bm, fAddX_mb, fAddX_bb, fAddX_lm, fAddX_ll, fMulX_i, fMulX_m, fSlX_t, fSlX_m, fSlX_b, fSlX_l, fIs_n, fIs_i, fIs_b, fIs_s, fIs_l, fIs_t, fIs_m, fIs_bl, fLen_t, fLen_l, fLen_m, fLen_b, fLen_scr, fIsi_c, fEqD_c, fEqD_mm, fEqD_bm, fEqD_bb, fEqD_dm, fEq_ss, fInt_i, fInt_b, fTuple_m, fTuple_b, fTuple_t, fTuple_l, fList_m, fList_b, fList_t, fList_l, f2I_c, fRepr_c, fRepr_m, fRepr_b, fStr_c, Bool.not_true, Bool.not_false, true_and, netT, Road.dt, reduceIte, Bool.false_eq_true, decide_true, decide_false, tupK, lstK, dNext_c, dBreak_c, dCont_c, dSeq_c, dDrop_c, dRet_c, retK_d, retK_m, retK_r, dRetN_c, dIfS_c, iteS_t, iteS_f, dSet_c, setK_d, setK_m, setK_s, setK_r, dAsg_c, asgK_d, asgK_m, dFz_c, dNever_c, dRaise_c, dC_c, dOp_c, dUn_c, dTst_c, tstK_c, dTru_c, truK_n, truK_b, truK_i, truK_t, truK_l, truK_m, truK_bl, dNot_c, dAnd_c, andK_t, andK_f, dOr_c, orK_t, orK_f, dAndV_c, andV_t, andV_f, dOrV_c, orV_t, orV_f, dNotV_c, dIf_c, iteE_t, iteE_f, dChain_c, chK_t, chK_f, dNil_c, dCons_c, dCB_c, dCall_c, dCall0_c, dTup_c, dLst_c, dFor_c, dLc_c, iTp_c, tpK_c, iLst_c, lsK_d, lsK_m, iSeq_c, sqK_d, sqK_m, sqK_b, dSl_c, dNo_c, dPt_c, ptK_c, dYes_c, dBack_k, backK_c, dTupRg_c, dLstRg_c, dRg1_c, dRg2_c, rg1K_c, rg2K_c, tupRg_c, lstRg_c, dDict0_c, dDict1_c, gdName_c, gdTup_c, gdCons_c, gdNil_c, dApp_c, appK_c, apK_d, apK_m, dVar_c, varK_d, varK_m, varK_b, varK_s, varK_sc, varK_r, dNew_c, varK_mo, varK_bo, setK_mo, retK_mo, dDIn_c, dinK_i, dinK_s, dDGet_c, dDGet1_c, isBo_c, dget1K_i, dDPut_c, dputV_d, dputK_i, val_mo, dOwn0_c, dDispV_c, dispK_i, fRepT_c, fIsB_c, dM0_c, dM1_c, isStr_c, fQ0_c, fQ1_c, fSplit_c, fLenS_c, iEnSD_c, dSetdIf_c, setdB_f, enSK_m, enSK_d, dOrT_c, dAndT_c, orTK_n, dCallK_c, dCallK0_c, dCallD_c, dCallD0_c, dSaid_c, toldK_d, toldK_m, iRg1_c, rgK_c, iRg2_c, rgK2_c, iEnT_c, enK_c, iZp_c, zpK_tt, zpK_mm, zpK_ll, zpK_lm, zpK_ml, dPar_c, parK_im, parK_nm, parK_sm, parK_dd, parK_md]
    refine ⟨by decide, by decide, by decide, ?_⟩
    have ix0 : L2.ixN p.toNat g = some g.toNat := by
      unfold L2.ixN
      rw [if_pos g0, if_pos (by omega)]
    rw [ix0]
    dsimp only
    refine fIx_at (n := 0) rfl ?_
    try simp only [startD, iEn, cvs, cv, vS, Sl.dat, Sl.seq, Sl.sq, Sl.fz, dats, dSetI, dAug, wipeD, List.length_cons, List.length_nil, List.length_append, List.length_replicate, Nat.reduceAdd, Nat.reduceSub, Nat.zero_add, List.replicate_succ, List.replicate_zero, List.cons_append, List.nil_append, List.append_nil, List.set_cons_zero, List.set_cons_succ, List.set_nil, List.getElem?_cons_zero, List.getElem?_cons_succ, Option.getD_some, List.map_cons, List.map_nil, Option.bind_some, fI0_c, fI_c, fU_c, fAddX_i, fAddX_t, fAddX_s, fAddX_mm, fAddX_bm, fAddX_mb, fAddX_bb, fAddX_lm, fAddX_ll, fMulX_i, fMulX_m, fSlX_t, fSlX_m, fSlX_b, fSlX_l, fIs_n, fIs_i, fIs_b, fIs_s, fIs_l, fIs_t, fIs_m, fIs_bl, fLen_t, fLen_l, fLen_m, fLen_b, fLen_scr, fIsi_c, fEqD_c, fEqD_mm, fEqD_bm, fEqD_bb, fEqD_dm, fEq_ss, fInt_i, fInt_b, fTuple_m, fTuple_b, fTuple_t, fTuple_l, fList_m, fList_b, fList_t, fList_l, f2I_c, fRepr_c, fRepr_m, fRepr_b, fStr_c, Bool.not_true, Bool.not_false, true_and, netT, Road.dt, reduceIte, Bool.false_eq_true, decide_true, decide_false, tupK, lstK, dNext_c, dBreak_c, dCont_c, dSeq_c, dDrop_c, dRet_c, retK_d, retK_m, retK_r, dRetN_c, dIfS_c, iteS_t, iteS_f, dSet_c, setK_d, setK_m, setK_s, setK_r, dAsg_c, asgK_d, asgK_m, dFz_c, dNever_c, dRaise_c, dC_c, dOp_c, dUn_c, dTst_c, tstK_c, dTru_c, truK_n, truK_b, truK_i, truK_t, truK_l, truK_m, truK_bl, dNot_c, dAnd_c, andK_t, andK_f, dOr_c, orK_t, orK_f, dAndV_c, andV_t, andV_f, dOrV_c, orV_t, orV_f, dNotV_c, dIf_c, iteE_t, iteE_f, dChain_c, chK_t, chK_f, dNil_c, dCons_c, dCB_c, dCall_c, dCall0_c, dTup_c, dLst_c, dFor_c, dLc_c, iTp_c, tpK_c, iLst_c, lsK_d, lsK_m, iSeq_c, sqK_d, sqK_m, sqK_b, dSl_c, dNo_c, dPt_c, ptK_c, dYes_c, dBack_k, backK_c, dTupRg_c, dLstRg_c, dRg1_c, dRg2_c, rg1K_c, rg2K_c, tupRg_c, lstRg_c, dDict0_c, dDict1_c, gdName_c, gdTup_c, gdCons_c, gdNil_c, dApp_c, appK_c, apK_d, apK_m, dVar_c, varK_d, varK_m, varK_b, varK_s, varK_sc, varK_r, dNew_c, varK_mo, varK_bo, setK_mo, retK_mo, dDIn_c, dinK_i, dinK_s, dDGet_c, dDGet1_c, isBo_c, dget1K_i, dDPut_c, dputV_d, dputK_i, val_mo, dOwn0_c, dDispV_c, dispK_i, fRepT_c, fIsB_c, dM0_c, dM1_c, isStr_c, fQ0_c, fQ1_c, fSplit_c, fLenS_c, iEnSD_c, dSetdIf_c, setdB_f, enSK_m, enSK_d, dOrT_c, dAndT_c, orTK_n, dCallK_c, dCallK0_c, dCallD_c, dCallD0_c, dSaid_c, toldK_d, toldK_m, iRg1_c, rgK_c, iRg2_c, rgK2_c, iEnT_c, enK_c, iZp_c, zpK_tt, zpK_mm, zpK_ll, zpK_lm, zpK_ml, dPar_c, parK_im, parK_nm, parK_sm, parK_dd, parK_md]
    refine ⟨⟨by decide, by decide, by omega, by omega⟩, ?_⟩
    rw [show (List.replicate p.toNat (PyData.list [])).set g.toNat (PyData.list [PyData.tuple [PyData.int 0, PyData.int 0, PyData.tuple []]]) = frD p rs g 0 from frD_zero g0 g1]
    refine forD_by (fun i ρ => ∃ y4 y5 y7 y8 y9 y10 y11, ρ = [.d (netT p rs), .d (.int g), .ml (frD p rs g i), .un, y4, y5, .un, y7, y8, y9, y10, y11, .un, .un, .un, .un]) ⟨_, _, _, _, _, _, _, rfl⟩ (fun i d ρ N hd h hN => ?_) (fun ρ h => ?_)
    · obtain ⟨y4, y5, y7, y8, y9, y10, y11, rfl⟩ := h
      obtain ⟨hi, rfl⟩ := rangeD_get hd
      have hi9 : i ≤ 9 := by omega
      try simp only [startD, iEn, cvs, cv, vS, Sl.dat, Sl.seq, Sl.sq, Sl.fz, dats, dSetI, dAug, wipeD, List.length_cons, List.length_nil, List.length_append, List.length_replicate, Nat.reduceAdd, Nat.reduceSub, Nat.zero_add, List.replicate_succ, List.replicate_zero, List.cons_append, List.nil_append, List.append_nil, List.set_cons_zero, List.set_cons_succ, List.set_nil, List.getElem?_cons_zero, List.getElem?_cons_succ, Option.getD_some, List.map_cons, List.map_nil, Option.bind_some, fI0_c, fI_c, fU_c, fAddX_i, fAddX_t, fAddX_s, fAddX_mm, fAddX_bm, fAddX_mb, fAddX_bb, fAddX_lm, fAddX_ll, fMulX_i, fMulX_m, fSlX_t, fSlX_m, fSlX_b, fSlX_l, fIs_n, fIs_i, fIs_b, fIs_s, fIs_l, fIs_t, fIs_m, fIs_bl, fLen_t, fLen_l, fLen_m, fLen_b, fLen_scr, fIsi_c, fEqD_c, fEqD_mm, fEqD_bm, fEqD_bb, fEqD_dm, fEq_ss, fInt_i, fInt_b, fTuple_m, fTuple_b, fTuple_t, fTuple_l, fList_m, fList_b, fList_t, fList_l, f2I_c, fRepr_c, fRepr_m, fRepr_b, fStr_c, Bool.not_true, Bool.not_false, true_and, netT, Road.dt, reduceIte, Bool.false_eq_true, decide_true, decide_false, tupK, lstK, dNext_c, dBreak_c, dCont_c, dDrop_c, dRet_c, retK_d, retK_m, retK_r, dRetN_c, dIfS_c, iteS_t, iteS_f, dSet_c, setK_d, setK_m, setK_s, setK_r, dAsg_c, asgK_d, asgK_m, dFz_c, dNever_c, dRaise_c, dC_c, dOp_c, dUn_c, dTst_c, tstK_c, dTru_c, truK_n, truK_b, truK_i, truK_t, truK_l, truK_m, truK_bl, dNot_c, dAnd_c, andK_t, andK_f, dOr_c, orK_t, orK_f, dAndV_c, andV_t, andV_f, dOrV_c, orV_t, orV_f, dNotV_c, dIf_c, iteE_t, iteE_f, dChain_c, chK_t, chK_f, dNil_c, dCons_c, dCB_c, dCall_c, dCall0_c, dTup_c, dLst_c, dFor_c, dLc_c, iTp_c, tpK_c, iLst_c, lsK_d, lsK_m, iSeq_c, sqK_d, sqK_m, sqK_b, dSl_c, dNo_c, dPt_c, ptK_c, dYes_c, dBack_k, backK_c, dTupRg_c, dLstRg_c, dRg1_c, dRg2_c, rg1K_c, rg2K_c, tupRg_c, lstRg_c, dDict0_c, dDict1_c, gdName_c, gdTup_c, gdCons_c, gdNil_c, dApp_c, appK_c, apK_d, apK_m, dVar_c, varK_d, varK_m, varK_b, varK_s, varK_sc, varK_r, dNew_c, varK_mo, varK_bo, setK_mo, retK_mo, dDIn_c, dinK_i, dinK_s, dDGet_c, dDGet1_c, isBo_c, dget1K_i, dDPut_c, dputV_d, dputK_i, val_mo, dOwn0_c, dDispV_c, dispK_i, fRepT_c, fIsB_c, dM0_c, dM1_c, isStr_c, fQ0_c, fQ1_c, fSplit_c, fLenS_c, iEnSD_c, dSetdIf_c, setdB_f, enSK_m, enSK_d, dOrT_c, dAndT_c, orTK_n, dCallK_c, dCallK0_c, dCallD_c, dCallD0_c, dSaid_c, toldK_d, toldK_m, iRg1_c, rgK_c, iRg2_c, rgK2_c, iEnT_c, enK_c, iZp_c, zpK_tt, zpK_mm, zpK_ll, zpK_lm, zpK_ml, dPar_c, parK_im, parK_nm, parK_sm, parK_dd, parK_md]
      rw [dSeq_c, dBlk_c]
      try simp only [startD, iEn, cvs, cv, vS, Sl.dat, Sl.seq, Sl.sq, Sl.fz, dats, dSetI, dAug, wipeD, List.length_cons, List.length_nil, List.length_append, List.length_replicate, Nat.reduceAdd, Nat.reduceSub, Nat.zero_add, List.replicate_succ, List.replicate_zero, List.cons_append, List.nil_append, List.append_nil, List.set_cons_zero, List.set_cons_succ, List.set_nil, List.getElem?_cons_zero, List.getElem?_cons_succ, Option.getD_some, List.map_cons, List.map_nil, Option.bind_some, fI0_c, fI_c, fU_c, fAddX_i, fAddX_t, fAddX_s, fAddX_mm, fAddX_bm, fAddX_mb, fAddX_bb, fAddX_lm, fAddX_ll, fMulX_i, fMulX_m, fSlX_t, fSlX_m, fSlX_b, fSlX_l, fIs_n, fIs_i, fIs_b, fIs_s, fIs_l, fIs_t, fIs_m, fIs_bl, fLen_t, fLen_l, fLen_m, fLen_b, fLen_scr, fIsi_c, fEqD_c, fEqD_mm, fEqD_bm, fEqD_bb, fEqD_dm, fEq_ss, fInt_i, fInt_b, fTuple_m, fTuple_b, fTuple_t, fTuple_l, fList_m, fList_b, fList_t, fList_l, f2I_c, fRepr_c, fRepr_m, fRepr_b, fStr_c, Bool.not_true, Bool.not_false, true_and, netT, Road.dt, reduceIte, Bool.false_eq_true, decide_true, decide_false, tupK, lstK, dNext_c, dBreak_c, dCont_c, dSeq_c, dDrop_c, dRet_c, retK_d, retK_m, retK_r, dRetN_c, dIfS_c, iteS_t, iteS_f, dSet_c, setK_d, setK_m, setK_s, setK_r, dAsg_c, asgK_d, asgK_m, dFz_c, dNever_c, dRaise_c, dC_c, dOp_c, dUn_c, dTst_c, tstK_c, dTru_c, truK_n, truK_b, truK_i, truK_t, truK_l, truK_m, truK_bl, dNot_c, dAnd_c, andK_t, andK_f, dOr_c, orK_t, orK_f, dAndV_c, andV_t, andV_f, dOrV_c, orV_t, orV_f, dNotV_c, dIf_c, iteE_t, iteE_f, dChain_c, chK_t, chK_f, dNil_c, dCons_c, dCB_c, dCall_c, dCall0_c, dTup_c, dLst_c, dFor_c, dLc_c, iTp_c, tpK_c, iLst_c, lsK_d, lsK_m, iSeq_c, sqK_d, sqK_m, sqK_b, dSl_c, dNo_c, dPt_c, ptK_c, dYes_c, dBack_k, backK_c, dTupRg_c, dLstRg_c, dRg1_c, dRg2_c, rg1K_c, rg2K_c, tupRg_c, lstRg_c, dDict0_c, dDict1_c, gdName_c, gdTup_c, gdCons_c, gdNil_c, dApp_c, appK_c, apK_d, apK_m, dVar_c, varK_d, varK_m, varK_b, varK_s, varK_sc, varK_r, dNew_c, varK_mo, varK_bo, setK_mo, retK_mo, dDIn_c, dinK_i, dinK_s, dDGet_c, dDGet1_c, isBo_c, dget1K_i, dDPut_c, dputV_d, dputK_i, val_mo, dOwn0_c, dDispV_c, dispK_i, fRepT_c, fIsB_c, dM0_c, dM1_c, isStr_c, fQ0_c, fQ1_c, fSplit_c, fLenS_c, iEnSD_c, dSetdIf_c, setdB_f, enSK_m, enSK_d, dOrT_c, dAndT_c, orTK_n, dCallK_c, dCallK0_c, dCallD_c, dCallD0_c, dSaid_c, toldK_d, toldK_m, iRg1_c, rgK_c, iRg2_c, rgK2_c, iEnT_c, enK_c, iZp_c, zpK_tt, zpK_mm, zpK_ll, zpK_lm, zpK_ml, dPar_c, parK_im, parK_nm, parK_sm, parK_dd, parK_md]
      refine (lcO_map (α := Nat) (fun j => .list ((frontN rs g i (j : Int)).map frow)) (fun j => (frontN rs g i (j : Int)).map frow) (List.range p.toNat) [] (fun j hj N hN => ?_) ?_ ?_ : lcO _ _ _ _ _ (frD p rs g i) [])
      · try simp only [startD, iEn, cvs, cv, vS, Sl.dat, Sl.seq, Sl.sq, Sl.fz, dats, dSetI, dAug, wipeD, List.length_cons, List.length_nil, List.length_append, List.length_replicate, Nat.reduceAdd, Nat.reduceSub, Nat.zero_add, List.replicate_succ, List.replicate_zero, List.cons_append, List.nil_append, List.append_nil, List.set_cons_zero, List.set_cons_succ, List.set_nil, List.getElem?_cons_zero, List.getElem?_cons_succ, Option.getD_some, List.map_cons, List.map_nil, Option.bind_some, fI0_c, fI_c, fU_c, fAddX_i, fAddX_t, fAddX_s, fAddX_mm, fAddX_bm, fAddX_mb, fAddX_bb, fAddX_lm, fAddX_ll, fMulX_i, fMulX_m, fSlX_t, fSlX_m, fSlX_b, fSlX_l, fIs_n, fIs_i, fIs_b, fIs_s, fIs_l, fIs_t, fIs_m, fIs_bl, fLen_t, fLen_l, fLen_m, fLen_b, fLen_scr, fIsi_c, fEqD_c, fEqD_mm, fEqD_bm, fEqD_bb, fEqD_dm, fEq_ss, fInt_i, fInt_b, fTuple_m, fTuple_b, fTuple_t, fTuple_l, fList_m, fList_b, fList_t, fList_l, f2I_c, fRepr_c, fRepr_m, fRepr_b, fStr_c, Bool.not_true, Bool.not_false, true_and, netT, Road.dt, reduceIte, Bool.false_eq_true, decide_true, decide_false, tupK, lstK, dNext_c, dBreak_c, dCont_c, dSeq_c, dDrop_c, dRet_c, retK_d, retK_m, retK_r, dRetN_c, dIfS_c, iteS_t, iteS_f, dSet_c, setK_d, setK_m, setK_s, setK_r, dAsg_c, asgK_d, asgK_m, dFz_c, dNever_c, dRaise_c, dC_c, dOp_c, dUn_c, dTst_c, tstK_c, dTru_c, truK_n, truK_b, truK_i, truK_t, truK_l, truK_m, truK_bl, dNot_c, dAnd_c, andK_t, andK_f, dOr_c, orK_t, orK_f, dAndV_c, andV_t, andV_f, dOrV_c, orV_t, orV_f, dNotV_c, dIf_c, iteE_t, iteE_f, dChain_c, chK_t, chK_f, dNil_c, dCons_c, dCB_c, dCall_c, dCall0_c, dTup_c, dLst_c, dFor_c, dLc_c, iTp_c, tpK_c, iLst_c, lsK_d, lsK_m, iSeq_c, sqK_d, sqK_m, sqK_b, dSl_c, dNo_c, dPt_c, ptK_c, dYes_c, dBack_k, backK_c, dTupRg_c, dLstRg_c, dRg1_c, dRg2_c, rg1K_c, rg2K_c, tupRg_c, lstRg_c, dDict0_c, dDict1_c, gdName_c, gdTup_c, gdCons_c, gdNil_c, dApp_c, appK_c, apK_d, apK_m, dVar_c, varK_d, varK_m, varK_b, varK_s, varK_sc, varK_r, dNew_c, varK_mo, varK_bo, setK_mo, retK_mo, dDIn_c, dinK_i, dinK_s, dDGet_c, dDGet1_c, isBo_c, dget1K_i, dDPut_c, dputV_d, dputK_i, val_mo, dOwn0_c, dDispV_c, dispK_i, fRepT_c, fIsB_c, dM0_c, dM1_c, isStr_c, fQ0_c, fQ1_c, fSplit_c, fLenS_c, iEnSD_c, dSetdIf_c, setdB_f, enSK_m, enSK_d, dOrT_c, dAndT_c, orTK_n, dCallK_c, dCallK0_c, dCallD_c, dCallD0_c, dSaid_c, toldK_d, toldK_m, iRg1_c, rgK_c, iRg2_c, rgK2_c, iEnT_c, enK_c, iZp_c, zpK_tt, zpK_mm, zpK_ll, zpK_lm, zpK_ml, dPar_c, parK_im, parK_nm, parK_sm, parK_dd, parK_md]
        exact hN
      · rw [List.length_nil, List.length_range]
        exact Nat.le_trans (show 0 + p.toNat ≤ 10 by omega) (by decide)
      rw [List.nil_append, ← rwD_zero]
      refine ⟨by decide, fun L => ?_⟩
      try simp only [startD, iEn, cvs, cv, vS, Sl.dat, Sl.seq, Sl.sq, Sl.fz, dats, dSetI, dAug, wipeD, List.length_cons, List.length_nil, List.length_append, List.length_replicate, Nat.reduceAdd, Nat.reduceSub, Nat.zero_add, List.replicate_succ, List.replicate_zero, List.cons_append, List.nil_append, List.append_nil, List.set_cons_zero, List.set_cons_succ, List.set_nil, List.getElem?_cons_zero, List.getElem?_cons_succ, Option.getD_some, List.map_cons, List.map_nil, Option.bind_some, fI0_c, fI_c, fU_c, fAddX_i, fAddX_t, fAddX_s, fAddX_mm, fAddX_bm, fAddX_mb, fAddX_bb, fAddX_lm, fAddX_ll, fMulX_i, fMulX_m, fSlX_t, fSlX_m, fSlX_b, fSlX_l, fIs_n, fIs_i, fIs_b, fIs_s, fIs_l, fIs_t, fIs_m, fIs_bl, fLen_t, fLen_l, fLen_m, fLen_b, fLen_scr, fIsi_c, fEqD_c, fEqD_mm, fEqD_bm, fEqD_bb, fEqD_dm, fEq_ss, fInt_i, fInt_b, fTuple_m, fTuple_b, fTuple_t, fTuple_l, fList_m, fList_b, fList_t, fList_l, f2I_c, fRepr_c, fRepr_m, fRepr_b, fStr_c, Bool.not_true, Bool.not_false, true_and, netT, Road.dt, reduceIte, Bool.false_eq_true, decide_true, decide_false, tupK, lstK, dNext_c, dBreak_c, dCont_c, dSeq_c, dDrop_c, dRet_c, retK_d, retK_m, retK_r, dRetN_c, dIfS_c, iteS_t, iteS_f, dSet_c, setK_d, setK_m, setK_s, setK_r, dAsg_c, asgK_d, asgK_m, dFz_c, dNever_c, dRaise_c, dC_c, dOp_c, dUn_c, dTst_c, tstK_c, dTru_c, truK_n, truK_b, truK_i, truK_t, truK_l, truK_m, truK_bl, dNot_c, dAnd_c, andK_t, andK_f, dOr_c, orK_t, orK_f, dAndV_c, andV_t, andV_f, dOrV_c, orV_t, orV_f, dNotV_c, dIf_c, iteE_t, iteE_f, dChain_c, chK_t, chK_f, dNil_c, dCons_c, dCB_c, dCall_c, dCall0_c, dTup_c, dLst_c, dFor_c, dLc_c, iTp_c, tpK_c, iLst_c, lsK_d, lsK_m, iSeq_c, sqK_d, sqK_m, sqK_b, dSl_c, dNo_c, dPt_c, ptK_c, dYes_c, dBack_k, backK_c, dTupRg_c, dLstRg_c, dRg1_c, dRg2_c, rg1K_c, rg2K_c, tupRg_c, lstRg_c, dDict0_c, dDict1_c, gdName_c, gdTup_c, gdCons_c, gdNil_c, dApp_c, appK_c, apK_d, apK_m, dVar_c, varK_d, varK_m, varK_b, varK_s, varK_sc, varK_r, dNew_c, varK_mo, varK_bo, setK_mo, retK_mo, dDIn_c, dinK_i, dinK_s, dDGet_c, dDGet1_c, isBo_c, dget1K_i, dDPut_c, dputV_d, dputK_i, val_mo, dOwn0_c, dDispV_c, dispK_i, fRepT_c, fIsB_c, dM0_c, dM1_c, isStr_c, fQ0_c, fQ1_c, fSplit_c, fLenS_c, iEnSD_c, dSetdIf_c, setdB_f, enSK_m, enSK_d, dOrT_c, dAndT_c, orTK_n, dCallK_c, dCallK0_c, dCallD_c, dCallD0_c, dSaid_c, toldK_d, toldK_m, iRg1_c, rgK_c, iRg2_c, rgK2_c, iEnT_c, enK_c, iZp_c, zpK_tt, zpK_mm, zpK_ll, zpK_lm, zpK_ml, dPar_c, parK_im, parK_nm, parK_sm, parK_dd, parK_md]
      refine fIx_at (n := 1) rfl ?_
      try simp only [startD, iEn, cvs, cv, vS, Sl.dat, Sl.seq, Sl.sq, Sl.fz, dats, dSetI, dAug, wipeD, List.length_cons, List.length_nil, List.length_append, List.length_replicate, Nat.reduceAdd, Nat.reduceSub, Nat.zero_add, List.replicate_succ, List.replicate_zero, List.cons_append, List.nil_append, List.append_nil, List.set_cons_zero, List.set_cons_succ, List.set_nil, List.getElem?_cons_zero, List.getElem?_cons_succ, Option.getD_some, List.map_cons, List.map_nil, Option.bind_some, fI0_c, fI_c, fU_c, fAddX_i, fAddX_t, fAddX_s, fAddX_mm, fAddX_bm, fAddX_mb, fAddX_bb, fAddX_lm, fAddX_ll, fMulX_i, fMulX_m, fSlX_t, fSlX_m, fSlX_b, fSlX_l, fIs_n, fIs_i, fIs_b, fIs_s, fIs_l, fIs_t, fIs_m, fIs_bl, fLen_t, fLen_l, fLen_m, fLen_b, fLen_scr, fIsi_c, fEqD_c, fEqD_mm, fEqD_bm, fEqD_bb, fEqD_dm, fEq_ss, fInt_i, fInt_b, fTuple_m, fTuple_b, fTuple_t, fTuple_l, fList_m, fList_b, fList_t, fList_l, f2I_c, fRepr_c, fRepr_m, fRepr_b, fStr_c, Bool.not_true, Bool.not_false, true_and, netT, Road.dt, reduceIte, Bool.false_eq_true, decide_true, decide_false, tupK, lstK, dNext_c, dBreak_c, dCont_c, dSeq_c, dDrop_c, dRet_c, retK_d, retK_m, retK_r, dRetN_c, dIfS_c, iteS_t, iteS_f, dSet_c, setK_d, setK_m, setK_s, setK_r, dAsg_c, asgK_d, asgK_m, dFz_c, dNever_c, dRaise_c, dC_c, dOp_c, dUn_c, dTst_c, tstK_c, dTru_c, truK_n, truK_b, truK_i, truK_t, truK_l, truK_m, truK_bl, dNot_c, dAnd_c, andK_t, andK_f, dOr_c, orK_t, orK_f, dAndV_c, andV_t, andV_f, dOrV_c, orV_t, orV_f, dNotV_c, dIf_c, iteE_t, iteE_f, dChain_c, chK_t, chK_f, dNil_c, dCons_c, dCB_c, dCall_c, dCall0_c, dTup_c, dLst_c, dFor_c, dLc_c, iTp_c, tpK_c, iLst_c, lsK_d, lsK_m, iSeq_c, sqK_d, sqK_m, sqK_b, dSl_c, dNo_c, dPt_c, ptK_c, dYes_c, dBack_k, backK_c, dTupRg_c, dLstRg_c, dRg1_c, dRg2_c, rg1K_c, rg2K_c, tupRg_c, lstRg_c, dDict0_c, dDict1_c, gdName_c, gdTup_c, gdCons_c, gdNil_c, dApp_c, appK_c, apK_d, apK_m, dVar_c, varK_d, varK_m, varK_b, varK_s, varK_sc, varK_r, dNew_c, varK_mo, varK_bo, setK_mo, retK_mo, dDIn_c, dinK_i, dinK_s, dDGet_c, dDGet1_c, isBo_c, dget1K_i, dDPut_c, dputV_d, dputK_i, val_mo, dOwn0_c, dDispV_c, dispK_i, fRepT_c, fIsB_c, dM0_c, dM1_c, isStr_c, fQ0_c, fQ1_c, fSplit_c, fLenS_c, iEnSD_c, dSetdIf_c, setdB_f, enSK_m, enSK_d, dOrT_c, dAndT_c, orTK_n, dCallK_c, dCallK0_c, dCallD_c, dCallD0_c, dSaid_c, toldK_d, toldK_m, iRg1_c, rgK_c, iRg2_c, rgK2_c, iEnT_c, enK_c, iZp_c, zpK_tt, zpK_mm, zpK_ll, zpK_lm, zpK_ml, dPar_c, parK_im, parK_nm, parK_sm, parK_dd, parK_md]
      refine forB_by (fun i2 rows ρ => ∃ y7 y8 y9 y10 y11, rows = rwD p rs g i i2 ∧ ρ = [.d (netT p rs), .d (.int g), .ml (frD p rs g i), .un, .d (.int (1 + (i : Int))), .raw (.ref L), .un, y7, y8, y9, y10, y11, .un, .un, .un, .un]) ⟨_, _, _, _, _, rfl, rfl⟩ (fun i2 d rows ρ N hd h hN => ?_) (fun rows ρ h => ?_)
      · obtain ⟨y7, y8, y9, y10, y11, rfl, rfl⟩ := h
        obtain ⟨x, ex, rfl⟩ := enumD_get hd
        rw [List.getElem?_map] at ex
        obtain ⟨r, er, rfl⟩ := Option.map_eq_some_iff.mp ex
        have o := ok.all r (List.mem_of_getElem? er)
        have o1 := o.o1
        have o2 := o.o2
        have t1 := o.t1
        have t2 := o.t2
        try simp only [startD, iEn, cvs, cv, vS, Sl.dat, Sl.seq, Sl.sq, Sl.fz, dats, dSetI, dAug, wipeD, List.length_cons, List.length_nil, List.length_append, List.length_replicate, Nat.reduceAdd, Nat.reduceSub, Nat.zero_add, List.replicate_succ, List.replicate_zero, List.cons_append, List.nil_append, List.append_nil, List.set_cons_zero, List.set_cons_succ, List.set_nil, List.getElem?_cons_zero, List.getElem?_cons_succ, Option.getD_some, List.map_cons, List.map_nil, Option.bind_some, fI0_c, fI_c, fU_c, fAddX_i, fAddX_t, fAddX_s, fAddX_mm, fAddX_bm, fAddX_mb, fAddX_bb, fAddX_lm, fAddX_ll, fMulX_i, fMulX_m, fSlX_t, fSlX_m, fSlX_b, fSlX_l, fIs_n, fIs_i, fIs_b, fIs_s, fIs_l, fIs_t, fIs_m, fIs_bl, fLen_t, fLen_l, fLen_m, fLen_b, fLen_scr, fIsi_c, fEqD_c, fEqD_mm, fEqD_bm, fEqD_bb, fEqD_dm, fEq_ss, fInt_i, fInt_b, fTuple_m, fTuple_b, fTuple_t, fTuple_l, fList_m, fList_b, fList_t, fList_l, f2I_c, fRepr_c, fRepr_m, fRepr_b, fStr_c, Bool.not_true, Bool.not_false, true_and, netT, Road.dt, reduceIte, Bool.false_eq_true, decide_true, decide_false, tupK, lstK, dNext_c, dBreak_c, dCont_c, dSeq_c, dDrop_c, dRet_c, retK_d, retK_m, retK_r, dRetN_c, dIfS_c, iteS_t, iteS_f, dSet_c, setK_d, setK_m, setK_s, setK_r, dAsg_c, asgK_d, asgK_m, dFz_c, dNever_c, dRaise_c, dC_c, dOp_c, dUn_c, dTst_c, tstK_c, dTru_c, truK_n, truK_b, truK_i, truK_t, truK_l, truK_m, truK_bl, dNot_c, dAnd_c, andK_t, andK_f, dOr_c, orK_t, orK_f, dAndV_c, andV_t, andV_f, dOrV_c, orV_t, orV_f, dNotV_c, dIf_c, iteE_t, iteE_f, dChain_c, chK_t, chK_f, dNil_c, dCons_c, dCB_c, dCall_c, dCall0_c, dTup_c, dLst_c, dFor_c, dLc_c, iTp_c, tpK_c, iLst_c, lsK_d, lsK_m, iSeq_c, sqK_d, sqK_m, sqK_b, dSl_c, dNo_c, dPt_c, ptK_c, dYes_c, dBack_k, backK_c, dTupRg_c, dLstRg_c, dRg1_c, dRg2_c, rg1K_c, rg2K_c, tupRg_c, lstRg_c, dDict0_c, dDict1_c, gdName_c, gdTup_c, gdCons_c, gdNil_c, dApp_c, appK_c, apK_d, apK_m, dVar_c, varK_d, varK_m, varK_b, varK_s, varK_sc, varK_r, dNew_c, varK_mo, varK_bo, setK_mo, retK_mo, dDIn_c, dinK_i, dinK_s, dDGet_c, dDGet1_c, isBo_c, dget1K_i, dDPut_c, dputV_d, dputK_i, val_mo, dOwn0_c, dDispV_c, dispK_i, fRepT_c, fIsB_c, dM0_c, dM1_c, isStr_c, fQ0_c, fQ1_c, fSplit_c, fLenS_c, iEnSD_c, dSetdIf_c, setdB_f, enSK_m, enSK_d, dOrT_c, dAndT_c, orTK_n, dCallK_c, dCallK0_c, dCallD_c, dCallD0_c, dSaid_c, toldK_d, toldK_m, iRg1_c, rgK_c, iRg2_c, rgK2_c, iEnT_c, enK_c, iZp_c, zpK_tt, zpK_mm, zpK_ll, zpK_lm, zpK_ml, dPar_c, parK_im, parK_nm, parK_sm, parK_dd, parK_md]
        refine ⟨rfl, ?_⟩
        refine ⟨r.one.toNat, _, by rw [show ((r.one.toNat : Nat) : Int) = r.one from by omega], rwD_get (by omega), ?_⟩
        rw [show ((r.one.toNat : Nat) : Int) = r.one from by omega]
        try simp only [startD, iEn, cvs, cv, vS, Sl.dat, Sl.seq, Sl.sq, Sl.fz, dats, dSetI, dAug, wipeD, List.length_cons, List.length_nil, List.length_append, List.length_replicate, Nat.reduceAdd, Nat.reduceSub, Nat.zero_add, List.replicate_succ, List.replicate_zero, List.cons_append, List.nil_append, List.append_nil, List.set_cons_zero, List.set_cons_succ, List.set_nil, List.getElem?_cons_zero, List.getElem?_cons_succ, Option.getD_some, List.map_cons, List.map_nil, Option.bind_some, fI0_c, fI_c, fU_c, fAddX_i, fAddX_t, fAddX_s, fAddX_mm, fAddX_bm, fAddX_mb, fAddX_bb, fAddX_lm, fAddX_ll, fMulX_i, fMulX_m, fSlX_t, fSlX_m, fSlX_b, fSlX_l, fIs_n, fIs_i, fIs_b, fIs_s, fIs_l, fIs_t, fIs_m, fIs_bl, fLen_t, fLen_l, fLen_m, fLen_b, fLen_scr, fIsi_c, fEqD_c, fEqD_mm, fEqD_bm, fEqD_bb, fEqD_dm, fEq_ss, fInt_i, fInt_b, fTuple_m, fTuple_b, fTuple_t, fTuple_l, fList_m, fList_b, fList_t, fList_l, f2I_c, fRepr_c, fRepr_m, fRepr_b, fStr_c, Bool.not_true, Bool.not_false, true_and, netT, Road.dt, reduceIte, Bool.false_eq_true, decide_true, decide_false, tupK, lstK, dNext_c, dBreak_c, dCont_c, dSeq_c, dDrop_c, dRet_c, retK_d, retK_m, retK_r, dRetN_c, dIfS_c, iteS_t, iteS_f, dSet_c, setK_d, setK_m, setK_s, setK_r, dAsg_c, asgK_d, asgK_m, dFz_c, dNever_c, dRaise_c, dC_c, dOp_c, dUn_c, dTst_c, tstK_c, dTru_c, truK_n, truK_b, truK_i, truK_t, truK_l, truK_m, truK_bl, dNot_c, dAnd_c, andK_t, andK_f, dOr_c, orK_t, orK_f, dAndV_c, andV_t, andV_f, dOrV_c, orV_t, orV_f, dNotV_c, dIf_c, iteE_t, iteE_f, dChain_c, chK_t, chK_f, dNil_c, dCons_c, dCB_c, dCall_c, dCall0_c, dTup_c, dLst_c, dFor_c, dLc_c, iTp_c, tpK_c, iLst_c, lsK_d, lsK_m, iSeq_c, sqK_d, sqK_m, sqK_b, dSl_c, dNo_c, dPt_c, ptK_c, dYes_c, dBack_k, backK_c, dTupRg_c, dLstRg_c, dRg1_c, dRg2_c, rg1K_c, rg2K_c, tupRg_c, lstRg_c, dDict0_c, dDict1_c, gdName_c, gdTup_c, gdCons_c, gdNil_c, dApp_c, appK_c, apK_d, apK_m, dVar_c, varK_d, varK_m, varK_b, varK_s, varK_sc, varK_r, dNew_c, varK_mo, varK_bo, setK_mo, retK_mo, dDIn_c, dinK_i, dinK_s, dDGet_c, dDGet1_c, isBo_c, dget1K_i, dDPut_c, dputV_d, dputK_i, val_mo, dOwn0_c, dDispV_c, dispK_i, fRepT_c, fIsB_c, dM0_c, dM1_c, isStr_c, fQ0_c, fQ1_c, fSplit_c, fLenS_c, iEnSD_c, dSetdIf_c, setdB_f, enSK_m, enSK_d, dOrT_c, dAndT_c, orTK_n, dCallK_c, dCallK0_c, dCallD_c, dCallD0_c, dSaid_c, toldK_d, toldK_m, iRg1_c, rgK_c, iRg2_c, rgK2_c, iEnT_c, enK_c, iZp_c, zpK_tt, zpK_mm, zpK_ll, zpK_lm, zpK_ml, dPar_c, parK_im, parK_nm, parK_sm, parK_dd, parK_md]
        have hL1 := rw_len ok (g := g) o1 (by omega) hi9 i2
        have hF1 := (frontN_ok ok (g := g) t1 (by omega) hi9)
        rw [show r.other = ((r.other.toNat : Nat) : Int) from by omega]
        refine fIxB_nth (frD_get (by omega)) ?_
        rw [show ((r.other.toNat : Nat) : Int) = r.other from by omega]
        try simp only [startD, iEn, cvs, cv, vS, Sl.dat, Sl.seq, Sl.sq, Sl.fz, dats, dSetI, dAug, wipeD, List.length_cons, List.length_nil, List.length_append, List.length_replicate, Nat.reduceAdd, Nat.reduceSub, Nat.zero_add, List.replicate_succ, List.replicate_zero, List.cons_append, List.nil_append, List.append_nil, List.set_cons_zero, List.set_cons_succ, List.set_nil, List.getElem?_cons_zero, List.getElem?_cons_succ, Option.getD_some, List.map_cons, List.map_nil, Option.bind_some, fI0_c, fI_c, fU_c, fAddX_i, fAddX_t, fAddX_s, fAddX_mm, fAddX_bm, fAddX_mb, fAddX_bb, fAddX_lm, fAddX_ll, fMulX_i, fMulX_m, fSlX_t, fSlX_m, fSlX_b, fSlX_l, fIs_n, fIs_i, fIs_b, fIs_s, fIs_l, fIs_t, fIs_m, fIs_bl, fLen_t, fLen_l, fLen_m, fLen_b, fLen_scr, fIsi_c, fEqD_c, fEqD_mm, fEqD_bm, fEqD_bb, fEqD_dm, fEq_ss, fInt_i, fInt_b, fTuple_m, fTuple_b, fTuple_t, fTuple_l, fList_m, fList_b, fList_t, fList_l, f2I_c, fRepr_c, fRepr_m, fRepr_b, fStr_c, Bool.not_true, Bool.not_false, true_and, netT, Road.dt, reduceIte, Bool.false_eq_true, decide_true, decide_false, tupK, lstK, dNext_c, dBreak_c, dCont_c, dSeq_c, dDrop_c, dRet_c, retK_d, retK_m, retK_r, dRetN_c, dIfS_c, iteS_t, iteS_f, dSet_c, setK_d, setK_m, setK_s, setK_r, dAsg_c, asgK_d, asgK_m, dFz_c, dNever_c, dRaise_c, dC_c, dOp_c, dUn_c, dTst_c, tstK_c, dTru_c, truK_n, truK_b, truK_i, truK_t, truK_l, truK_m, truK_bl, dNot_c, dAnd_c, andK_t, andK_f, dOr_c, orK_t, orK_f, dAndV_c, andV_t, andV_f, dOrV_c, orV_t, orV_f, dNotV_c, dIf_c, iteE_t, iteE_f, dChain_c, chK_t, chK_f, dNil_c, dCons_c, dCB_c, dCall_c, dCall0_c, dTup_c, dLst_c, dFor_c, dLc_c, iTp_c, tpK_c, iLst_c, lsK_d, lsK_m, iSeq_c, sqK_d, sqK_m, sqK_b, dSl_c, dNo_c, dPt_c, ptK_c, dYes_c, dBack_k, backK_c, dTupRg_c, dLstRg_c, dRg1_c, dRg2_c, rg1K_c, rg2K_c, tupRg_c, lstRg_c, dDict0_c, dDict1_c, gdName_c, gdTup_c, gdCons_c, gdNil_c, dApp_c, appK_c, apK_d, apK_m, dVar_c, varK_d, varK_m, varK_b, varK_s, varK_sc, varK_r, dNew_c, varK_mo, varK_bo, setK_mo, retK_mo, dDIn_c, dinK_i, dinK_s, dDGet_c, dDGet1_c, isBo_c, dget1K_i, dDPut_c, dputV_d, dputK_i, val_mo, dOwn0_c, dDispV_c, dispK_i, fRepT_c, fIsB_c, dM0_c, dM1_c, isStr_c, fQ0_c, fQ1_c, fSplit_c, fLenS_c, iEnSD_c, dSetdIf_c, setdB_f, enSK_m, enSK_d, dOrT_c, dAndT_c, orTK_n, dCallK_c, dCallK0_c, dCallD_c, dCallD0_c, dSaid_c, toldK_d, toldK_m, iRg1_c, rgK_c, iRg2_c, rgK2_c, iEnT_c, enK_c, iZp_c, zpK_tt, zpK_mm, zpK_ll, zpK_lm, zpK_ml, dPar_c, parK_im, parK_nm, parK_sm, parK_dd, parK_md]
        refine lcD_each frow (fun x => frow (extR i2 r x)) (frontN rs g i r.other) (fun x hx acc N' ha hN' => ?_) ?_ ?_
        · have hw := (hF1.1 x hx).len
          unfold lcStep frow wayD
          try simp only [startD, iEn, cvs, cv, vS, Sl.dat, Sl.seq, Sl.sq, Sl.fz, dats, dSetI, dAug, wipeD, List.length_cons, List.length_nil, List.length_append, List.length_replicate, Nat.reduceAdd, Nat.reduceSub, Nat.zero_add, List.replicate_succ, List.replicate_zero, List.cons_append, List.nil_append, List.append_nil, List.set_cons_zero, List.set_cons_succ, List.set_nil, List.getElem?_cons_zero, List.getElem?_cons_succ, Option.getD_some, List.map_cons, List.map_nil, Option.bind_some, fI0_c, fI_c, fU_c, fAddX_i, fAddX_t, fAddX_s, fAddX_mm, fAddX_bm, fAddX_mb, fAddX_bb, fAddX_lm, fAddX_ll, fMulX_i, fMulX_m, fSlX_t, fSlX_m, fSlX_b, fSlX_l, fIs_n, fIs_i, fIs_b, fIs_s, fIs_l, fIs_t, fIs_m, fIs_bl, fLen_t, fLen_l, fLen_m, fLen_b, fLen_scr, fIsi_c, fEqD_c, fEqD_mm, fEqD_bm, fEqD_bb, fEqD_dm, fEq_ss, fInt_i, fInt_b, fTuple_m, fTuple_b, fTuple_t, fTuple_l, fList_m, fList_b, fList_t, fList_l, f2I_c, fRepr_c, fRepr_m, fRepr_b, fStr_c, Bool.not_true, Bool.not_false, true_and, netT, Road.dt, reduceIte, Bool.false_eq_true, decide_true, decide_false, tupK, lstK, dNext_c, dBreak_c, dCont_c, dSeq_c, dDrop_c, dRet_c, retK_d, retK_m, retK_r, dRetN_c, dIfS_c, iteS_t, iteS_f, dSet_c, setK_d, setK_m, setK_s, setK_r, dAsg_c, asgK_d, asgK_m, dFz_c, dNever_c, dRaise_c, dC_c, dOp_c, dUn_c, dTst_c, tstK_c, dTru_c, truK_n, truK_b, truK_i, truK_t, truK_l, truK_m, truK_bl, dNot_c, dAnd_c, andK_t, andK_f, dOr_c, orK_t, orK_f, dAndV_c, andV_t, andV_f, dOrV_c, orV_t, orV_f, dNotV_c, dIf_c, iteE_t, iteE_f, dChain_c, chK_t, chK_f, dNil_c, dCons_c, dCB_c, dCall_c, dCall0_c, dTup_c, dLst_c, dFor_c, dLc_c, iTp_c, tpK_c, iLst_c, lsK_d, lsK_m, iSeq_c, sqK_d, sqK_m, sqK_b, dSl_c, dNo_c, dPt_c, ptK_c, dYes_c, dBack_k, backK_c, dTupRg_c, dLstRg_c, dRg1_c, dRg2_c, rg1K_c, rg2K_c, tupRg_c, lstRg_c, dDict0_c, dDict1_c, gdName_c, gdTup_c, gdCons_c, gdNil_c, dApp_c, appK_c, apK_d, apK_m, dVar_c, varK_d, varK_m, varK_b, varK_s, varK_sc, varK_r, dNew_c, varK_mo, varK_bo, setK_mo, retK_mo, dDIn_c, dinK_i, dinK_s, dDGet_c, dDGet1_c, isBo_c, dget1K_i, dDPut_c, dputV_d, dputK_i, val_mo, dOwn0_c, dDispV_c, dispK_i, fRepT_c, fIsB_c, dM0_c, dM1_c, isStr_c, fQ0_c, fQ1_c, fSplit_c, fLenS_c, iEnSD_c, dSetdIf_c, setdB_f, enSK_m, enSK_d, dOrT_c, dAndT_c, orTK_n, dCallK_c, dCallK0_c, dCallD_c, dCallD0_c, dSaid_c, toldK_d, toldK_m, iRg1_c, rgK_c, iRg2_c, rgK2_c, iEnT_c, enK_c, iZp_c, zpK_tt, zpK_mm, zpK_ll, zpK_lm, zpK_ml, dPar_c, parK_im, parK_nm, parK_sm, parK_dd, parK_md]
          refine ⟨by decide, ?_, by decide, ha, hN'⟩
          rw [List.length_map, List.length_map]
          exact Nat.le_trans (show 1 + x.w.length ≤ 20 by omega) (by decide)
        · exact Nat.le_trans hF1.2 (by decide)
        refine ⟨_, rfl, ?_, ?_⟩
        · rw [List.length_map, List.length_map]
          exact Nat.le_trans (show _ ≤ 50000 by omega) (by decide)
        · exact hN _ _ ⟨_, _, _, _, _, rwD_set er o1 (by omega), rfl⟩
      · obtain ⟨y7, y8, y9, y10, y11, rfl, rfl⟩ := h
        have el : (enumD (rs.map Road.dt)).length = rs.length := by
          unfold enumD
          rw [List.length_map, List.length_zipIdx, List.length_map]
        rw [el]
        try simp only [startD, iEn, cvs, cv, vS, Sl.dat, Sl.seq, Sl.sq, Sl.fz, dats, dSetI, dAug, wipeD, List.length_cons, List.length_nil, List.length_append, List.length_replicate, Nat.reduceAdd, Nat.reduceSub, Nat.zero_add, List.replicate_succ, List.replicate_zero, List.cons_append, List.nil_append, List.append_nil, List.set_cons_zero, List.set_cons_succ, List.set_nil, List.getElem?_cons_zero, List.getElem?_cons_succ, Option.getD_some, List.map_cons, List.map_nil, Option.bind_some, fI0_c, fI_c, fU_c, fAddX_i, fAddX_t, fAddX_s, fAddX_mm, fAddX_bm, fAddX_mb, fAddX_bb, fAddX_lm, fAddX_ll, fMulX_i, fMulX_m, fSlX_t, fSlX_m, fSlX_b, fSlX_l, fIs_n, fIs_i, fIs_b, fIs_s, fIs_l, fIs_t, fIs_m, fIs_bl, fLen_t, fLen_l, fLen_m, fLen_b, fLen_scr, fIsi_c, fEqD_c, fEqD_mm, fEqD_bm, fEqD_bb, fEqD_dm, fEq_ss, fInt_i, fInt_b, fTuple_m, fTuple_b, fTuple_t, fTuple_l, fList_m, fList_b, fList_t, fList_l, f2I_c, fRepr_c, fRepr_m, fRepr_b, fStr_c, Bool.not_true, Bool.not_false, true_and, netT, Road.dt, reduceIte, Bool.false_eq_true, decide_true, decide_false, tupK, lstK, dNext_c, dBreak_c, dCont_c, dSeq_c, dDrop_c, dRet_c, retK_d, retK_m, retK_r, dRetN_c, dIfS_c, iteS_t, iteS_f, dSet_c, setK_d, setK_m, setK_s, setK_r, dAsg_c, asgK_d, asgK_m, dFz_c, dNever_c, dRaise_c, dC_c, dOp_c, dUn_c, dTst_c, tstK_c, dTru_c, truK_n, truK_b, truK_i, truK_t, truK_l, truK_m, truK_bl, dNot_c, dAnd_c, andK_t, andK_f, dOr_c, orK_t, orK_f, dAndV_c, andV_t, andV_f, dOrV_c, orV_t, orV_f, dNotV_c, dIf_c, iteE_t, iteE_f, dChain_c, chK_t, chK_f, dNil_c, dCons_c, dCB_c, dCall_c, dCall0_c, dTup_c, dLst_c, dFor_c, dLc_c, iTp_c, tpK_c, iLst_c, lsK_d, lsK_m, iSeq_c, sqK_d, sqK_m, sqK_b, dSl_c, dNo_c, dPt_c, ptK_c, dYes_c, dBack_k, backK_c, dTupRg_c, dLstRg_c, dRg1_c, dRg2_c, rg1K_c, rg2K_c, tupRg_c, lstRg_c, dDict0_c, dDict1_c, gdName_c, gdTup_c, gdCons_c, gdNil_c, dApp_c, appK_c, apK_d, apK_m, dVar_c, varK_d, varK_m, varK_b, varK_s, varK_sc, varK_r, dNew_c, varK_mo, varK_bo, setK_mo, retK_mo, dDIn_c, dinK_i, dinK_s, dDGet_c, dDGet1_c, isBo_c, dget1K_i, dDPut_c, dputV_d, dputK_i, val_mo, dOwn0_c, dDispV_c, dispK_i, fRepT_c, fIsB_c, dM0_c, dM1_c, isStr_c, fQ0_c, fQ1_c, fSplit_c, fLenS_c, iEnSD_c, dSetdIf_c, setdB_f, enSK_m, enSK_d, dOrT_c, dAndT_c, orTK_n, dCallK_c, dCallK0_c, dCallD_c, dCallD0_c, dSaid_c, toldK_d, toldK_m, iRg1_c, rgK_c, iRg2_c, rgK2_c, iEnT_c, enK_c, iZp_c, zpK_tt, zpK_mm, zpK_ll, zpK_lm, zpK_ml, dPar_c, parK_im, parK_nm, parK_sm, parK_dd, parK_md]
        have ea : (rwD p rs g i rs.length).map PyData.list = (List.range p.toNat).map fun (a : Nat) => PyData.list ((rowsOf rs (frontN rs g i) (a : Int)).map frow) := by
          unfold rwD rowsOf
          rw [List.take_length, List.map_map]
          rfl
        rw [ea]
        refine lcD_each (α := Nat) (fun a => .list ((rowsOf rs (frontN rs g i) (a : Int)).map frow)) (fun a => .list ((frontN rs g (i + 1) (a : Int)).map frow)) (List.range p.toNat) (fun a ha2 acc N' ha hN' => ?_) (by rw [List.length_range]; exact Nat.le_trans (show p.toNat ≤ 10 by omega) (by decide)) ?_
        · have := List.mem_range.mp ha2
          have hL1 := rw_len ok (g := g) (a := (a : Int)) (by omega) (by omega) hi9 rs.length
          rw [List.take_length] at hL1
          unfold lcStep
          try simp only [startD, iEn, cvs, cv, vS, Sl.dat, Sl.seq, Sl.sq, Sl.fz, dats, dSetI, dAug, wipeD, List.length_cons, List.length_nil, List.length_append, List.length_replicate, Nat.reduceAdd, Nat.reduceSub, Nat.zero_add, List.replicate_succ, List.replicate_zero, List.cons_append, List.nil_append, List.append_nil, List.set_cons_zero, List.set_cons_succ, List.set_nil, List.getElem?_cons_zero, List.getElem?_cons_succ, Option.getD_some, List.map_cons, List.map_nil, Option.bind_some, fI0_c, fI_c, fU_c, fAddX_i, fAddX_t, fAddX_s, fAddX_mm, fAddX_bm, fAddX_mb, fAddX_bb, fAddX_lm, fAddX_ll, fMulX_i, fMulX_m, fSlX_t, fSlX_m, fSlX_b, fSlX_l, fIs_n, fIs_i, fIs_b, fIs_s, fIs_l, fIs_t, fIs_m, fIs_bl, fLen_t, fLen_l, fLen_m, fLen_b, fLen_scr, fIsi_c, fEqD_c, fEqD_mm, fEqD_bm, fEqD_bb, fEqD_dm, fEq_ss, fInt_i, fInt_b, fTuple_m, fTuple_b, fTuple_t, fTuple_l, fList_m, fList_b, fList_t, fList_l, f2I_c, fRepr_c, fRepr_m, fRepr_b, fStr_c, Bool.not_true, Bool.not_false, true_and, netT, Road.dt, reduceIte, Bool.false_eq_true, decide_true, decide_false, tupK, lstK, dNext_c, dBreak_c, dCont_c, dSeq_c, dDrop_c, dRet_c, retK_d, retK_m, retK_r, dRetN_c, dIfS_c, iteS_t, iteS_f, dSet_c, setK_d, setK_m, setK_s, setK_r, dAsg_c, asgK_d, asgK_m, dFz_c, dNever_c, dRaise_c, dC_c, dOp_c, dUn_c, dTst_c, tstK_c, dTru_c, truK_n, truK_b, truK_i, truK_t, truK_l, truK_m, truK_bl, dNot_c, dAnd_c, andK_t, andK_f, dOr_c, orK_t, orK_f, dAndV_c, andV_t, andV_f, dOrV_c, orV_t, orV_f, dNotV_c, dIf_c, iteE_t, iteE_f, dChain_c, chK_t, chK_f, dNil_c, dCons_c, dCB_c, dCall_c, dCall0_c, dTup_c, dLst_c, dFor_c, dLc_c, iTp_c, tpK_c, iLst_c, lsK_d, lsK_m, iSeq_c, sqK_d, sqK_m, sqK_b, dSl_c, dNo_c, dPt_c, ptK_c, dYes_c, dBack_k, backK_c, dTupRg_c, dLstRg_c, dRg1_c, dRg2_c, rg1K_c, rg2K_c, tupRg_c, lstRg_c, dDict0_c, dDict1_c, gdName_c, gdTup_c, gdCons_c, gdNil_c, dApp_c, appK_c, apK_d, apK_m, dVar_c, varK_d, varK_m, varK_b, varK_s, varK_sc, varK_r, dNew_c, varK_mo, varK_bo, setK_mo, retK_mo, dDIn_c, dinK_i, dinK_s, dDGet_c, dDGet1_c, isBo_c, dget1K_i, dDPut_c, dputV_d, dputK_i, val_mo, dOwn0_c, dDispV_c, dispK_i, fRepT_c, fIsB_c, dM0_c, dM1_c, isStr_c, fQ0_c, fQ1_c, fSplit_c, fLenS_c, iEnSD_c, dSetdIf_c, setdB_f, enSK_m, enSK_d, dOrT_c, dAndT_c, orTK_n, dCallK_c, dCallK0_c, dCallD_c, dCallD0_c, dSaid_c, toldK_d, toldK_m, iRg1_c, rgK_c, iRg2_c, rgK2_c, iEnT_c, enK_c, iZp_c, zpK_tt, zpK_mm, zpK_ll, zpK_lm, zpK_ml, dPar_c, parK_im, parK_nm, parK_sm, parK_dd, parK_md]
          refine ⟨_, rfl, Nat.le_trans hL1 (by decide), ?_⟩
          exact ⟨ha, hN'⟩
        exact hN _ ⟨_, _, _, _, _, _, _, rfl⟩
    · obtain ⟨y4, y5, y7, y8, y9, y10, y11, rfl⟩ := h
      rw [rangeD_len]
      try simp only [startD, iEn, cvs, cv, vS, Sl.dat, Sl.seq, Sl.sq, Sl.fz, dats, dSetI, dAug, wipeD, List.length_cons, List.length_nil, List.length_append, List.length_replicate, Nat.reduceAdd, Nat.reduceSub, Nat.zero_add, List.replicate_succ, List.replicate_zero, List.cons_append, List.nil_append, List.append_nil, List.set_cons_zero, List.set_cons_succ, List.set_nil, List.getElem?_cons_zero, List.getElem?_cons_succ, Option.getD_some, List.map_cons, List.map_nil, Option.bind_some, fI0_c, fI_c, fU_c, fAddX_i, fAddX_t, fAddX_s, fAddX_mm, fAddX_bm, fAddX_mb, fAddX_bb, fAddX_lm, fAddX_ll, fMulX_i, fMulX_m, fSlX_t, fSlX_m, fSlX_b, fSlX_l, fIs_n, fIs_i, fIs_b, fIs_s, fIs_l, fIs_t, fIs_m, fIs_bl, fLen_t, fLen_l, fLen_m, fLen_b, fLen_scr, fIsi_c, fEqD_c, fEqD_mm, fEqD_bm, fEqD_bb, fEqD_dm, fEq_ss, fInt_i, fInt_b, fTuple_m, fTuple_b, fTuple_t, fTuple_l, fList_m, fList_b, fList_t, fList_l, f2I_c, fRepr_c, fRepr_m, fRepr_b, fStr_c, Bool.not_true, Bool.not_false, true_and, netT, Road.dt, reduceIte, Bool.false_eq_true, decide_true, decide_false, tupK, lstK, dNext_c, dBreak_c, dCont_c, dSeq_c, dDrop_c, dRet_c, retK_d, retK_m, retK_r, dRetN_c, dIfS_c, iteS_t, iteS_f, dSet_c, setK_d, setK_m, setK_s, setK_r, dAsg_c, asgK_d, asgK_m, dFz_c, dNever_c, dRaise_c, dC_c, dOp_c, dUn_c, dTst_c, tstK_c, dTru_c, truK_n, truK_b, truK_i, truK_t, truK_l, truK_m, truK_bl, dNot_c, dAnd_c, andK_t, andK_f, dOr_c, orK_t, orK_f, dAndV_c, andV_t, andV_f, dOrV_c, orV_t, orV_f, dNotV_c, dIf_c, iteE_t, iteE_f, dChain_c, chK_t, chK_f, dNil_c, dCons_c, dCB_c, dCall_c, dCall0_c, dTup_c, dLst_c, dFor_c, dLc_c, iTp_c, tpK_c, iLst_c, lsK_d, lsK_m, iSeq_c, sqK_d, sqK_m, sqK_b, dSl_c, dNo_c, dPt_c, ptK_c, dYes_c, dBack_k, backK_c, dTupRg_c, dLstRg_c, dRg1_c, dRg2_c, rg1K_c, rg2K_c, tupRg_c, lstRg_c, dDict0_c, dDict1_c, gdName_c, gdTup_c, gdCons_c, gdNil_c, dApp_c, appK_c, apK_d, apK_m, dVar_c, varK_d, varK_m, varK_b, varK_s, varK_sc, varK_r, dNew_c, varK_mo, varK_bo, setK_mo, retK_mo, dDIn_c, dinK_i, dinK_s, dDGet_c, dDGet1_c, isBo_c, dget1K_i, dDPut_c, dputV_d, dputK_i, val_mo, dOwn0_c, dDispV_c, dispK_i, fRepT_c, fIsB_c, dM0_c, dM1_c, isStr_c, fQ0_c, fQ1_c, fSplit_c, fLenS_c, iEnSD_c, dSetdIf_c, setdB_f, enSK_m, enSK_d, dOrT_c, dAndT_c, orTK_n, dCallK_c, dCallK0_c, dCallD_c, dCallD0_c, dSaid_c, toldK_d, toldK_m, iRg1_c, rgK_c, iRg2_c, rgK2_c, iEnT_c, enK_c, iZp_c, zpK_tt, zpK_mm, zpK_ll, zpK_lm, zpK_ml, dPar_c, parK_im, parK_nm, parK_sm, parK_dd, parK_md]
      exact q
end
end Wy

set_option synthInstance.maxHeartbeats 2000000
set_option synthInstance.maxSize 100000
namespace Wy
open PySem PySem.Spec PyProof.Rows L2 Dl
section
variable {P : Program} {w : World} {K : PySem.W.Frag} {mg : Str → Option Value} {base : Heap} {C : Nat → Addr}
theorem sc_fence_of : FnScope ["net", "start", "turned", "one", "other", "cost", "time", "fronts", "way", "front"] ["net", "start"] (defScope s_fence_of) := ⟨rfl, rfl, rfl, by decide +kernel, rfl, by decide +kernel, by decide +kernel⟩
def sd_fence_of : SpD := fun ss Qd _ => ∃ (p : Int) (rs : List Road) (s : Int), ss = [.d (netT p rs), .d (.int s)] ∧ NetOk p rs ∧ 0 ≤ s ∧ s < p ∧ Qd (.d (fnD p rs s))
theorem c_fence_of (T : Tx K mg C) : Cb P w K mg base CX0 6 "fence_of" ["net", "start"] (spD K [] sd_fence_of) := by
  obtain ⟨f, fd, D⟩ := T.h_fence_of
  refine ⟨f, fd, okD (k := 5) D.F sc_fence_of (fun ss Qd R h => ?_) (fun cdv A outer s H E hr => ⟨_, (pss_cons (ps_expr (pe_cb (c_check_net (K := K) T) (hr.mono (by decide)) (by rfl) pass00 (pa_cons (pv 0) pa_nil)))
    (pss_cons (ps_expr (pe_cb (c_check_place (K := K) T) (hr.mono (by decide)) (by rfl) pass00 (pa_cons (pv 0) (pa_cons (pv 1) pa_nil))))
    (pss_cons (ps_set (i := 2) sc_fence_of.nd rfl (.inl rfl) (pe_tup (pa_cons (pe_ix (ix_seqK (K := K) rfl) (pv 0) pe_int (fun _ _ => rfl)) (pa_cons (pe_callTy (call_tupleK (K := K) rfl) (by rfl) T.tuple (by decide +kernel) (pa_cons (pe_lc (own := [("one", 3), ("other", 4), ("cost", 5), ("time", 6)]) (g := (gTup K 4 (gCons (gName 3) (gCons (gName 4) (gCons (gName 5) (gCons (gName 6) gNil)))))) (tt := tYes) (by rfl) sc_fence_of.nd (pi_tupK (K := K) rfl (pe_ix (ix_seqK (K := K) rfl) (pv 0) pe_int (fun _ _ => rfl)))
      (blkOk_by (own := [("one", 3), ("other", 4), ("cost", 5), ("time", 6)]) (N := ["net", "start", "turned", "one", "other", "cost", "time", "fronts", "way", "front"]) (sc := defScope s_fence_of) (by decide +kernel)) (fun _ _ _ _ _ => (pg_tupK (n := 4) (K := K) rfl (by rfl) (pgs_cons (pg_name (i := 3) sc_fence_of.nd rfl (.inl rfl)) (pgs_cons (pg_name (i := 4) sc_fence_of.nd rfl (.inl rfl)) (pgs_cons (pg_name (i := 5) sc_fence_of.nd rfl (.inl rfl)) (pgs_cons (pg_name (i := 6) sc_fence_of.nd rfl (.inl rfl)) pgs_nil)))))) (fun _ _ _ _ _ => pts_nil) (fun _ _ _ _ _ => (pe_tup (pa_cons (pv 4) (pa_cons (pv 3) (pa_cons (pv 5) (pa_cons (pv 6) pa_nil))))))) pa_nil)) pa_nil))))
    (pss_cons (ps_set (i := 7) sc_fence_of.nd rfl (.inl rfl) (pe_cb (c_fronts_to (K := K) T) (hr.mono (by decide)) (by rfl) pass0 (pa_cons (pv 2) (pa_cons (pv 1) pa_nil))))
    (pss_one (ps_ret (pe_callTy (call_tupleK (K := K) rfl) (by rfl) T.tuple (by decide +kernel) (pa_cons (pe_lc (own := [("front", 9)]) (g := (gName 9)) (tt := tYes) (by rfl) sc_fence_of.nd (pi_listK (K := K) rfl (pv 7))
      (blkOk_by (own := [("front", 9)]) (N := ["net", "start", "turned", "one", "other", "cost", "time", "fronts", "way", "front"]) (sc := defScope s_fence_of) (by decide +kernel)) (fun _ _ _ _ _ => (pg_name (i := 9) sc_fence_of.nd rfl (.inl rfl))) (fun _ _ _ _ _ => pts_nil) (fun _ _ _ _ _ => (pe_callTy (call_tupleK (K := K) rfl) (by rfl) T.tuple (by decide +kernel) (pa_cons (pe_lc (own := [("cost", 5), ("time", 6), ("way", 8)]) (g := (gTup K 3 (gCons (gName 5) (gCons (gName 6) (gCons (gName 8) gNil))))) (tt := tYes) (by rfl) sc_fence_of.nd (pi_listK (K := K) rfl (pv 9))
      (blkOk_by (own := [("cost", 5), ("time", 6), ("way", 8)]) (by rfl)) (fun _ _ _ _ _ => (pg_tupK (n := 3) (K := K) rfl (by rfl) (pgs_cons (pg_name (i := 5) sc_fence_of.nd rfl (.inl rfl)) (pgs_cons (pg_name (i := 6) sc_fence_of.nd rfl (.inl rfl)) (pgs_cons (pg_name (i := 8) sc_fence_of.nd rfl (.inl rfl)) pgs_nil))))) (fun _ _ _ _ _ => pts_nil) (fun _ _ _ _ _ => (pe_tup (pa_cons (pv 5) (pa_cons (pv 6) pa_nil))))) pa_nil)))) pa_nil)))))))), ?_⟩), D.g, D.F.kp, D.b⟩
  · obtain ⟨_, _, _, rfl, _⟩ := h
    rfl
  · refine ⟨_, fun τ => inferInstance, fun ss Qd R h => ?_⟩
    obtain ⟨p, rs, s, rfl, ok, s0, s1, q⟩ := h
    have l30 := ok.len
    have p1 := ok.p1
    have p2 := ok.p2
    try simp only [startD, iEn, cvs, cv, vS, Sl.dat, Sl.seq, Sl.sq, Sl.fz, dats, dSetI, dAug, wipeD, List.length_cons, List.length_nil, List.length_append, List.length_replicate, Nat.reduceAdd, Nat.reduceSub, Nat.zero_add, List.replicate_succ, List.replicate_zero, List.cons_append, List.nil_append, List.append_nil, List.set_cons_zero, List.set_cons_succ, List.set_nil, List.getElem?_cons_zero, List.getElem?_cons_succ, Option.getD_some, List.map_cons, List.map_nil, Option.bind_some, fI0_c, fI_c, fU_c, fAddX_i, fAddX_t, fAddX_s, fAddX_mm, fAddX_bm, fAddX_mb, fAddX_bb, fAddX_lm, fAddX_ll, fMulX_i, fMulX_m, fSlX_t, fSlX_m, fSlX_b, fSlX_l, fIs_n, fIs_i, fIs_b, fIs_s, fIs_l, fIs_t, fIs_m, fIs_bl, fLen_t, fLen_l, fLen_m, fLen_b, fLen_scr, fIsi_c, fEqD_c, fEqD_mm, fEqD_bm, fEqD_bb, fEqD_dm, fEq_ss, fInt_i, fInt_b, fTuple_m, fTuple_b, fTuple_t, fTuple_l, fList_m, fList_b, fList_t, fList_l, f2I_c, fRepr_c, fRepr_m, fRepr_b, fStr_c, Bool.not_true, Bool.not_false, true_and, netT, Road.dt, reduceIte, Bool.false_eq_true, decide_true, decide_false, tupK, lstK, dNext_c, dBreak_c, dCont_c, dSeq_c, dDrop_c, dRet_c, retK_d, retK_m, retK_r, dRetN_c, dIfS_c, iteS_t, iteS_f, dSet_c, setK_d, setK_m, setK_s, setK_r, dAsg_c, asgK_d, asgK_m, dFz_c, dNever_c, dRaise_c, dC_c, dOp_c, dUn_c, dTst_c, tstK_c, dTru_c, truK_n, truK_b, truK_i, truK_t, truK_l, truK_m, truK_bl, dNot_c, dAnd_c, andK_t, andK_f, dOr_c, orK_t, orK_f, dAndV_c, andV_t, andV_f, dOrV_c, orV_t, orV_f, dNotV_c, dIf_c, iteE_t, iteE_f, dChain_c, chK_t, chK_f, dNil_c, dCons_c, dCB_c, dCall_c, dCall0_c, dTup_c, dLst_c, dFor_c, dLc_c, iTp_c, tpK_c, iLst_c, lsK_d, lsK_m, iSeq_c, sqK_d, sqK_m, sqK_b, dSl_c, dNo_c, dPt_c, ptK_c, dYes_c, dBack_k, backK_c, dTupRg_c, dLstRg_c, dRg1_c, dRg2_c, rg1K_c, rg2K_c, tupRg_c, lstRg_c, dDict0_c, dDict1_c, gdName_c, gdTup_c, gdCons_c, gdNil_c, dApp_c, appK_c, apK_d, apK_m, dVar_c, varK_d, varK_m, varK_b, varK_s, varK_sc, varK_r, dNew_c, varK_mo, varK_bo, setK_mo, retK_mo, dDIn_c, dinK_i, dinK_s, dDGet_c, dDGet1_c, isBo_c, dget1K_i, dDPut_c, dputV_d, dputK_i, val_mo, dOwn0_c, dDispV_c, dispK_i, fRepT_c, fIsB_c, dM0_c, dM1_c, isStr_c, fQ0_c, fQ1_c, fSplit_c, fLenS_c, iEnSD_c, dSetdIf_c, setdB_f, enSK_m, enSK_d, dOrT_c, dAndT_c, orTK_n, dCallK_c, dCallK0_c, dCallD_c, dCallD0_c, dSaid_c, toldK_d, toldK_m, iRg1_c, rgK_c, iRg2_c, rgK2_c, iEnT_c, enK_c, iZp_c, zpK_tt, zpK_mm, zpK_ll, zpK_lm, zpK_ml, dPar_c, parK_im, parK_nm, parK_sm, parK_dd, parK_md]
    refine ⟨_, rfl, (fun x y e => ?_), (fun _ => ?_), (fun e => by rw [show netD (.tuple [.int p, .tuple (rs.map Road.dt)]) = true from netD_ok ok] at e; cases e)⟩
    · cases e
      rw [List.length_map]
      omega
    try simp only [startD, iEn, cvs, cv, vS, Sl.dat, Sl.seq, Sl.sq, Sl.fz, dats, dSetI, dAug, wipeD, List.length_cons, List.length_nil, List.length_append, List.length_replicate, Nat.reduceAdd, Nat.reduceSub, Nat.zero_add, List.replicate_succ, List.replicate_zero, List.cons_append, List.nil_append, List.append_nil, List.set_cons_zero, List.set_cons_succ, List.set_nil, List.getElem?_cons_zero, List.getElem?_cons_succ, Option.getD_some, List.map_cons, List.map_nil, Option.bind_some, fI0_c, fI_c, fU_c, fAddX_i, fAddX_t, fAddX_s, fAddX_mm, fAddX_bm, fAddX_mb, fAddX_bb, fAddX_lm, fAddX_ll, fMulX_i, fMulX_m, fSlX_t, fSlX_m, fSlX_b, fSlX_l, fIs_n, fIs_i, fIs_b, fIs_s, fIs_l, fIs_t, fIs_m, fIs_bl, fLen_t, fLen_l, fLen_m, fLen_b, fLen_scr, fIsi_c, fEqD_c, fEqD_mm, fEqD_bm, fEqD_bb, fEqD_dm, fEq_ss, fInt_i, fInt_b, fTuple_m, fTuple_b, fTuple_t, fTuple_l, fList_m, fList_b, fList_t, fList_l, f2I_c, fRepr_c, fRepr_m, fRepr_b, fStr_c, Bool.not_true, Bool.not_false, true_and, netT, Road.dt, reduceIte, Bool.false_eq_true, decide_true, decide_false, tupK, lstK, dNext_c, dBreak_c, dCont_c, dSeq_c, dDrop_c, dRet_c, retK_d, retK_m, retK_r, dRetN_c, dIfS_c, iteS_t, iteS_f, dSet_c, setK_d, setK_m, setK_s, setK_r, dAsg_c, asgK_d, asgK_m, dFz_c, dNever_c, dRaise_c, dC_c, dOp_c, dUn_c, dTst_c, tstK_c, dTru_c, truK_n, truK_b, truK_i, truK_t, truK_l, truK_m, truK_bl, dNot_c, dAnd_c, andK_t, andK_f, dOr_c, orK_t, orK_f, dAndV_c, andV_t, andV_f, dOrV_c, orV_t, orV_f, dNotV_c, dIf_c, iteE_t, iteE_f, dChain_c, chK_t, chK_f, dNil_c, dCons_c, dCB_c, dCall_c, dCall0_c, dTup_c, dLst_c, dFor_c, dLc_c, iTp_c, tpK_c, iLst_c, lsK_d, lsK_m, iSeq_c, sqK_d, sqK_m, sqK_b, dSl_c, dNo_c, dPt_c, ptK_c, dYes_c, dBack_k, backK_c, dTupRg_c, dLstRg_c, dRg1_c, dRg2_c, rg1K_c, rg2K_c, tupRg_c, lstRg_c, dDict0_c, dDict1_c, gdName_c, gdTup_c, gdCons_c, gdNil_c, dApp_c, appK_c, apK_d, apK_m, dVar_c, varK_d, varK_m, varK_b, varK_s, varK_sc, varK_r, dNew_c, varK_mo, varK_bo, setK_mo, retK_mo, dDIn_c, dinK_i, dinK_s, dDGet_c, dDGet1_c, isBo_c, dget1K_i, dDPut_c, dputV_d, dputK_i, val_mo, dOwn0_c, dDispV_c, dispK_i, fRepT_c, fIsB_c, dM0_c, dM1_c, isStr_c, fQ0_c, fQ1_c, fSplit_c, fLenS_c, iEnSD_c, dSetdIf_c, setdB_f, enSK_m, enSK_d, dOrT_c, dAndT_c, orTK_n, dCallK_c, dCallK0_c, dCallD_c, dCallD0_c, dSaid_c, toldK_d, toldK_m, iRg1_c, rgK_c, iRg2_c, rgK2_c, iEnT_c, enK_c, iZp_c, zpK_tt, zpK_mm, zpK_ll, zpK_lm, zpK_ml, dPar_c, parK_im, parK_nm, parK_sm, parK_dd, parK_md]
    refine ⟨_, p, _, rfl, (fun _ => ?_), (fun e => by rw [withinD_of s0 (by omega)] at e; cases e)⟩
    try simp only [startD, iEn, cvs, cv, vS, Sl.dat, Sl.seq, Sl.sq, Sl.fz, dats, dSetI, dAug, wipeD, List.length_cons, List.length_nil, List.length_append, List.length_replicate, Nat.reduceAdd, Nat.reduceSub, Nat.zero_add, List.replicate_succ, List.replicate_zero, List.cons_append, List.nil_append, List.append_nil, List.set_cons_zero, List.set_cons_succ, List.set_nil, List.getElem?_cons_zero, List.getElem?_cons_succ, Option.getD_some, List.map_cons, List.map_nil, Option.bind_some, fI0_c, fI_c, fU_c, fAddX_i, fAddX_t, fAddX_s, fAddX_mm, fAddX_bm, fAddX_mb, fAddX_bb, fAddX_lm, fAddX_ll, fMulX_i, fMulX_m, fSlX_t, fSlX_m, fSlX_b, fSlX_l, fIs_n, fIs_i, fIs_b, fIs_s, fIs_l, fIs_t, fIs_m, fIs_bl, fLen_t, fLen_l, fLen_m, fLen_b, fLen_scr, fIsi_c, fEqD_c, fEqD_mm, fEqD_bm, fEqD_bb, fEqD_dm, fEq_ss, fInt_i, fInt_b, fTuple_m, fTuple_b, fTuple_t, fTuple_l, fList_m, fList_b, fList_t, fList_l, f2I_c, fRepr_c, fRepr_m, fRepr_b, fStr_c, Bool.not_true, Bool.not_false, true_and, netT, Road.dt, reduceIte, Bool.false_eq_true, decide_true, decide_false, tupK, lstK, dNext_c, dBreak_c, dCont_c, dSeq_c, dDrop_c, dRet_c, retK_d, retK_m, retK_r, dRetN_c, dIfS_c, iteS_t, iteS_f, dSet_c, setK_d, setK_m, setK_s, setK_r, dAsg_c, asgK_d, asgK_m, dFz_c, dNever_c, dRaise_c, dC_c, dOp_c, dUn_c, dTst_c, tstK_c, dTru_c, truK_n, truK_b, truK_i, truK_t, truK_l, truK_m, truK_bl, dNot_c, dAnd_c, andK_t, andK_f, dOr_c, orK_t, orK_f, dAndV_c, andV_t, andV_f, dOrV_c, orV_t, orV_f, dNotV_c, dIf_c, iteE_t, iteE_f, dChain_c, chK_t, chK_f, dNil_c, dCons_c, dCB_c, dCall_c, dCall0_c, dTup_c, dLst_c, dFor_c, dLc_c, iTp_c, tpK_c, iLst_c, lsK_d, lsK_m, iSeq_c, sqK_d, sqK_m, sqK_b, dSl_c, dNo_c, dPt_c, ptK_c, dYes_c, dBack_k, backK_c, dTupRg_c, dLstRg_c, dRg1_c, dRg2_c, rg1K_c, rg2K_c, tupRg_c, lstRg_c, dDict0_c, dDict1_c, gdName_c, gdTup_c, gdCons_c, gdNil_c, dApp_c, appK_c, apK_d, apK_m, dVar_c, varK_d, varK_m, varK_b, varK_s, varK_sc, varK_r, dNew_c, varK_mo, varK_bo, setK_mo, retK_mo, dDIn_c, dinK_i, dinK_s, dDGet_c, dDGet1_c, isBo_c, dget1K_i, dDPut_c, dputV_d, dputK_i, val_mo, dOwn0_c, dDispV_c, dispK_i, fRepT_c, fIsB_c, dM0_c, dM1_c, isStr_c, fQ0_c, fQ1_c, fSplit_c, fLenS_c, iEnSD_c, dSetdIf_c, setdB_f, enSK_m, enSK_d, dOrT_c, dAndT_c, orTK_n, dCallK_c, dCallK0_c, dCallD_c, dCallD0_c, dSaid_c, toldK_d, toldK_m, iRg1_c, rgK_c, iRg2_c, rgK2_c, iEnT_c, enK_c, iZp_c, zpK_tt, zpK_mm, zpK_ll, zpK_lm, zpK_ml, dPar_c, parK_im, parK_nm, parK_sm, parK_dd, parK_md]
    refine fIx_at (n := 0) rfl ?_
    refine fIx_at (n := 1) rfl ?_
    try simp only [startD, iEn, cvs, cv, vS, Sl.dat, Sl.seq, Sl.sq, Sl.fz, dats, dSetI, dAug, wipeD, List.length_cons, List.length_nil, List.length_append, List.length_replicate, Nat.reduceAdd, Nat.reduceSub, Nat.zero_add, List.replicate_succ, List.replicate_zero, List.cons_append, List.nil_append, List.append_nil, List.set_cons_zero, List.set_cons_succ, List.set_nil, List.getElem?_cons_zero, List.getElem?_cons_succ, Option.getD_some, List.map_cons, List.map_nil, Option.bind_some, fI0_c, fI_c, fU_c, fAddX_i, fAddX_t, fAddX_s, fAddX_mm, fAddX_bm, fAddX_mb, fAddX_bb, fAddX_lm, fAddX_ll, fMulX_i, fMulX_m, fSlX_t, fSlX_m, fSlX_b, fSlX_l, fIs_n, fIs_i, fIs_b, fIs_s, fIs_l, fIs_t, fIs_m, fIs_bl, fLen_t, fLen_l, fLen_m, fLen_b, fLen_scr, fIsi_c, fEqD_c, fEqD_mm, fEqD_bm, fEqD_bb, fEqD_dm, fEq_ss, fInt_i, fInt_b, fTuple_m, fTuple_b, fTuple_t, fTuple_l, fList_m, fList_b, fList_t, fList_l, f2I_c, fRepr_c, fRepr_m, fRepr_b, fStr_c, Bool.not_true, Bool.not_false, true_and, netT, Road.dt, reduceIte, Bool.false_eq_true, decide_true, decide_false, tupK, lstK, dNext_c, dBreak_c, dCont_c, dSeq_c, dDrop_c, dRet_c, retK_d, retK_m, retK_r, dRetN_c, dIfS_c, iteS_t, iteS_f, dSet_c, setK_d, setK_m, setK_s, setK_r, dAsg_c, asgK_d, asgK_m, dFz_c, dNever_c, dRaise_c, dC_c, dOp_c, dUn_c, dTst_c, tstK_c, dTru_c, truK_n, truK_b, truK_i, truK_t, truK_l, truK_m, truK_bl, dNot_c, dAnd_c, andK_t, andK_f, dOr_c, orK_t, orK_f, dAndV_c, andV_t, andV_f, dOrV_c, orV_t, orV_f, dNotV_c, dIf_c, iteE_t, iteE_f, dChain_c, chK_t, chK_f, dNil_c, dCons_c, dCB_c, dCall_c, dCall0_c, dTup_c, dLst_c, dFor_c, dLc_c, iTp_c, tpK_c, iLst_c, lsK_d, lsK_m, iSeq_c, sqK_d, sqK_m, sqK_b, dSl_c, dNo_c, dPt_c, ptK_c, dYes_c, dBack_k, backK_c, dTupRg_c, dLstRg_c, dRg1_c, dRg2_c, rg1K_c, rg2K_c, tupRg_c, lstRg_c, dDict0_c, dDict1_c, gdName_c, gdTup_c, gdCons_c, gdNil_c, dApp_c, appK_c, apK_d, apK_m, dVar_c, varK_d, varK_m, varK_b, varK_s, varK_sc, varK_r, dNew_c, varK_mo, varK_bo, setK_mo, retK_mo, dDIn_c, dinK_i, dinK_s, dDGet_c, dDGet1_c, isBo_c, dget1K_i, dDPut_c, dputV_d, dputK_i, val_mo, dOwn0_c, dDispV_c, dispK_i, fRepT_c, fIsB_c, dM0_c, dM1_c, isStr_c, fQ0_c, fQ1_c, fSplit_c, fLenS_c, iEnSD_c, dSetdIf_c, setdB_f, enSK_m, enSK_d, dOrT_c, dAndT_c, orTK_n, dCallK_c, dCallK0_c, dCallD_c, dCallD0_c, dSaid_c, toldK_d, toldK_m, iRg1_c, rgK_c, iRg2_c, rgK2_c, iEnT_c, enK_c, iZp_c, zpK_tt, zpK_mm, zpK_ll, zpK_lm, zpK_ml, dPar_c, parK_im, parK_nm, parK_sm, parK_dd, parK_md]
    refine lcD_each Road.dt (fun r => (Dl.Road.rev r).dt) rs (fun r hr acc N ha hN => ?_) (by omega) ?_
    · unfold lcStep Road.dt
      try simp only [startD, iEn, cvs, cv, vS, Sl.dat, Sl.seq, Sl.sq, Sl.fz, dats, dSetI, dAug, wipeD, List.length_cons, List.length_nil, List.length_append, List.length_replicate, Nat.reduceAdd, Nat.reduceSub, Nat.zero_add, List.replicate_succ, List.replicate_zero, List.cons_append, List.nil_append, List.append_nil, List.set_cons_zero, List.set_cons_succ, List.set_nil, List.getElem?_cons_zero, List.getElem?_cons_succ, Option.getD_some, List.map_cons, List.map_nil, Option.bind_some, fI0_c, fI_c, fU_c, fAddX_i, fAddX_t, fAddX_s, fAddX_mm, fAddX_bm, fAddX_mb, fAddX_bb, fAddX_lm, fAddX_ll, fMulX_i, fMulX_m, fSlX_t, fSlX_m, fSlX_b, fSlX_l, fIs_n, fIs_i, fIs_b, fIs_s, fIs_l, fIs_t, fIs_m, fIs_bl, fLen_t, fLen_l, fLen_m, fLen_b, fLen_scr, fIsi_c, fEqD_c, fEqD_mm, fEqD_bm, fEqD_bb, fEqD_dm, fEq_ss, fInt_i, fInt_b, fTuple_m, fTuple_b, fTuple_t, fTuple_l, fList_m, fList_b, fList_t, fList_l, f2I_c, fRepr_c, fRepr_m, fRepr_b, fStr_c, Bool.not_true, Bool.not_false, true_and, netT, Road.dt, reduceIte, Bool.false_eq_true, decide_true, decide_false, tupK, lstK, dNext_c, dBreak_c, dCont_c, dSeq_c, dDrop_c, dRet_c, retK_d, retK_m, retK_r, dRetN_c, dIfS_c, iteS_t, iteS_f, dSet_c, setK_d, setK_m, setK_s, setK_r, dAsg_c, asgK_d, asgK_m, dFz_c, dNever_c, dRaise_c, dC_c, dOp_c, dUn_c, dTst_c, tstK_c, dTru_c, truK_n, truK_b, truK_i, truK_t, truK_l, truK_m, truK_bl, dNot_c, dAnd_c, andK_t, andK_f, dOr_c, orK_t, orK_f, dAndV_c, andV_t, andV_f, dOrV_c, orV_t, orV_f, dNotV_c, dIf_c, iteE_t, iteE_f, dChain_c, chK_t, chK_f, dNil_c, dCons_c, dCB_c, dCall_c, dCall0_c, dTup_c, dLst_c, dFor_c, dLc_c, iTp_c, tpK_c, iLst_c, lsK_d, lsK_m, iSeq_c, sqK_d, sqK_m, sqK_b, dSl_c, dNo_c, dPt_c, ptK_c, dYes_c, dBack_k, backK_c, dTupRg_c, dLstRg_c, dRg1_c, dRg2_c, rg1K_c, rg2K_c, tupRg_c, lstRg_c, dDict0_c, dDict1_c, gdName_c, gdTup_c, gdCons_c, gdNil_c, dApp_c, appK_c, apK_d, apK_m, dVar_c, varK_d, varK_m, varK_b, varK_s, varK_sc, varK_r, dNew_c, varK_mo, varK_bo, setK_mo, retK_mo, dDIn_c, dinK_i, dinK_s, dDGet_c, dDGet1_c, isBo_c, dget1K_i, dDPut_c, dputV_d, dputK_i, val_mo, dOwn0_c, dDispV_c, dispK_i, fRepT_c, fIsB_c, dM0_c, dM1_c, isStr_c, fQ0_c, fQ1_c, fSplit_c, fLenS_c, iEnSD_c, dSetdIf_c, setdB_f, enSK_m, enSK_d, dOrT_c, dAndT_c, orTK_n, dCallK_c, dCallK0_c, dCallD_c, dCallD0_c, dSaid_c, toldK_d, toldK_m, iRg1_c, rgK_c, iRg2_c, rgK2_c, iEnT_c, enK_c, iZp_c, zpK_tt, zpK_mm, zpK_ll, zpK_lm, zpK_ml, dPar_c, parK_im, parK_nm, parK_sm, parK_dd, parK_md]
      exact ⟨by decide, ha, hN⟩
    try simp only [startD, iEn, cvs, cv, vS, Sl.dat, Sl.seq, Sl.sq, Sl.fz, dats, dSetI, dAug, wipeD, List.length_cons, List.length_nil, List.length_append, List.length_replicate, Nat.reduceAdd, Nat.reduceSub, Nat.zero_add, List.replicate_succ, List.replicate_zero, List.cons_append, List.nil_append, List.append_nil, List.set_cons_zero, List.set_cons_succ, List.set_nil, List.getElem?_cons_zero, List.getElem?_cons_succ, Option.getD_some, List.map_cons, List.map_nil, Option.bind_some, fI0_c, fI_c, fU_c, fAddX_i, fAddX_t, fAddX_s, fAddX_mm, fAddX_bm, fAddX_mb, fAddX_bb, fAddX_lm, fAddX_ll, fMulX_i, fMulX_m, fSlX_t, fSlX_m, fSlX_b, fSlX_l, fIs_n, fIs_i, fIs_b, fIs_s, fIs_l, fIs_t, fIs_m, fIs_bl, fLen_t, fLen_l, fLen_m, fLen_b, fLen_scr, fIsi_c, fEqD_c, fEqD_mm, fEqD_bm, fEqD_bb, fEqD_dm, fEq_ss, fInt_i, fInt_b, fTuple_m, fTuple_b, fTuple_t, fTuple_l, fList_m, fList_b, fList_t, fList_l, f2I_c, fRepr_c, fRepr_m, fRepr_b, fStr_c, Bool.not_true, Bool.not_false, true_and, netT, Road.dt, reduceIte, Bool.false_eq_true, decide_true, decide_false, tupK, lstK, dNext_c, dBreak_c, dCont_c, dSeq_c, dDrop_c, dRet_c, retK_d, retK_m, retK_r, dRetN_c, dIfS_c, iteS_t, iteS_f, dSet_c, setK_d, setK_m, setK_s, setK_r, dAsg_c, asgK_d, asgK_m, dFz_c, dNever_c, dRaise_c, dC_c, dOp_c, dUn_c, dTst_c, tstK_c, dTru_c, truK_n, truK_b, truK_i, truK_t, truK_l, truK_m, truK_bl, dNot_c, dAnd_c, andK_t, andK_f, dOr_c, orK_t, orK_f, dAndV_c, andV_t, andV_f, dOrV_c, orV_t, orV_f, dNotV_c, dIf_c, iteE_t, iteE_f, dChain_c, chK_t, chK_f, dNil_c, dCons_c, dCB_c, dCall_c, dCall0_c, dTup_c, dLst_c, dFor_c, dLc_c, iTp_c, tpK_c, iLst_c, lsK_d, lsK_m, iSeq_c, sqK_d, sqK_m, sqK_b, dSl_c, dNo_c, dPt_c, ptK_c, dYes_c, dBack_k, backK_c, dTupRg_c, dLstRg_c, dRg1_c, dRg2_c, rg1K_c, rg2K_c, tupRg_c, lstRg_c, dDict0_c, dDict1_c, gdName_c, gdTup_c, gdCons_c, gdNil_c, dApp_c, appK_c, apK_d, apK_m, dVar_c, varK_d, varK_m, varK_b, varK_s, varK_sc, varK_r, dNew_c, varK_mo, varK_bo, setK_mo, retK_mo, dDIn_c, dinK_i, dinK_s, dDGet_c, dDGet1_c, isBo_c, dget1K_i, dDPut_c, dputV_d, dputK_i, val_mo, dOwn0_c, dDispV_c, dispK_i, fRepT_c, fIsB_c, dM0_c, dM1_c, isStr_c, fQ0_c, fQ1_c, fSplit_c, fLenS_c, iEnSD_c, dSetdIf_c, setdB_f, enSK_m, enSK_d, dOrT_c, dAndT_c, orTK_n, dCallK_c, dCallK0_c, dCallD_c, dCallD0_c, dSaid_c, toldK_d, toldK_m, iRg1_c, rgK_c, iRg2_c, rgK2_c, iEnT_c, enK_c, iZp_c, zpK_tt, zpK_mm, zpK_ll, zpK_lm, zpK_ml, dPar_c, parK_im, parK_nm, parK_sm, parK_dd, parK_md]
    refine ⟨by decide, ?_⟩
    refine ⟨p, rs.map Dl.Road.rev, s, by rw [netT, List.map_map]; rfl, rev_ok ok, s0, s1, ?_⟩
    try simp only [startD, iEn, cvs, cv, vS, Sl.dat, Sl.seq, Sl.sq, Sl.fz, dats, dSetI, dAug, wipeD, List.length_cons, List.length_nil, List.length_append, List.length_replicate, Nat.reduceAdd, Nat.reduceSub, Nat.zero_add, List.replicate_succ, List.replicate_zero, List.cons_append, List.nil_append, List.append_nil, List.set_cons_zero, List.set_cons_succ, List.set_nil, List.getElem?_cons_zero, List.getElem?_cons_succ, Option.getD_some, List.map_cons, List.map_nil, Option.bind_some, fI0_c, fI_c, fU_c, fAddX_i, fAddX_t, fAddX_s, fAddX_mm, fAddX_bm, fAddX_mb, fAddX_bb, fAddX_lm, fAddX_ll, fMulX_i, fMulX_m, fSlX_t, fSlX_m, fSlX_b, fSlX_l, fIs_n, fIs_i, fIs_b, fIs_s, fIs_l, fIs_t, fIs_m, fIs_bl, fLen_t, fLen_l, fLen_m, fLen_b, fLen_scr, fIsi_c, fEqD_c, fEqD_mm, fEqD_bm, fEqD_bb, fEqD_dm, fEq_ss, fInt_i, fInt_b, fTuple_m, fTuple_b, fTuple_t, fTuple_l, fList_m, fList_b, fList_t, fList_l, f2I_c, fRepr_c, fRepr_m, fRepr_b, fStr_c, Bool.not_true, Bool.not_false, true_and, netT, Road.dt, reduceIte, Bool.false_eq_true, decide_true, decide_false, tupK, lstK, dNext_c, dBreak_c, dCont_c, dSeq_c, dDrop_c, dRet_c, retK_d, retK_m, retK_r, dRetN_c, dIfS_c, iteS_t, iteS_f, dSet_c, setK_d, setK_m, setK_s, setK_r, dAsg_c, asgK_d, asgK_m, dFz_c, dNever_c, dRaise_c, dC_c, dOp_c, dUn_c, dTst_c, tstK_c, dTru_c, truK_n, truK_b, truK_i, truK_t, truK_l, truK_m, truK_bl, dNot_c, dAnd_c, andK_t, andK_f, dOr_c, orK_t, orK_f, dAndV_c, andV_t, andV_f, dOrV_c, orV_t, orV_f, dNotV_c, dIf_c, iteE_t, iteE_f, dChain_c, chK_t, chK_f, dNil_c, dCons_c, dCB_c, dCall_c, dCall0_c, dTup_c, dLst_c, dFor_c, dLc_c, iTp_c, tpK_c, iLst_c, lsK_d, lsK_m, iSeq_c, sqK_d, sqK_m, sqK_b, dSl_c, dNo_c, dPt_c, ptK_c, dYes_c, dBack_k, backK_c, dTupRg_c, dLstRg_c, dRg1_c, dRg2_c, rg1K_c, rg2K_c, tupRg_c, lstRg_c, dDict0_c, dDict1_c, gdName_c, gdTup_c, gdCons_c, gdNil_c, dApp_c, appK_c, apK_d, apK_m, dVar_c, varK_d, varK_m, varK_b, varK_s, varK_sc, varK_r, dNew_c, varK_mo, varK_bo, setK_mo, retK_mo, dDIn_c, dinK_i, dinK_s, dDGet_c, dDGet1_c, isBo_c, dget1K_i, dDPut_c, dputV_d, dputK_i, val_mo, dOwn0_c, dDispV_c, dispK_i, fRepT_c, fIsB_c, dM0_c, dM1_c, isStr_c, fQ0_c, fQ1_c, fSplit_c, fLenS_c, iEnSD_c, dSetdIf_c, setdB_f, enSK_m, enSK_d, dOrT_c, dAndT_c, orTK_n, dCallK_c, dCallK0_c, dCallD_c, dCallD0_c, dSaid_c, toldK_d, toldK_m, iRg1_c, rgK_c, iRg2_c, rgK2_c, iEnT_c, enK_c, iZp_c, zpK_tt, zpK_mm, zpK_ll, zpK_lm, zpK_ml, dPar_c, parK_im, parK_nm, parK_sm, parK_dd, parK_md]
    have key : ∀ v : Int, 0 ≤ v → v < p → (frontN (rs.map Dl.Road.rev) s (p - 1).toNat v).length ≤ 1001 := fun v v0 v1 => (frontN_ok (rev_ok ok) v0 v1 (by omega)).2
    refine (lcD_each (α := Nat) (fun v => .list ((frontN (rs.map Dl.Road.rev) s (p - 1).toNat (v : Int)).map frow)) (fun v => .tuple ((fnP p rs s (v : Int)).map prD)) (List.range p.toNat) (fun v hv acc N ha hN => ?_) (by rw [List.length_range]; exact Nat.le_trans (show p.toNat ≤ 10 by omega) (by decide)) ?_ : lcD _ _ _ _ _ _ (frD p (rs.map Dl.Road.rev) s (p - 1).toNat) [])
    · have := List.mem_range.mp hv
      unfold lcStep
      try simp only [startD, iEn, cvs, cv, vS, Sl.dat, Sl.seq, Sl.sq, Sl.fz, dats, dSetI, dAug, wipeD, List.length_cons, List.length_nil, List.length_append, List.length_replicate, Nat.reduceAdd, Nat.reduceSub, Nat.zero_add, List.replicate_succ, List.replicate_zero, List.cons_append, List.nil_append, List.append_nil, List.set_cons_zero, List.set_cons_succ, List.set_nil, List.getElem?_cons_zero, List.getElem?_cons_succ, Option.getD_some, List.map_cons, List.map_nil, Option.bind_some, fI0_c, fI_c, fU_c, fAddX_i, fAddX_t, fAddX_s, fAddX_mm, fAddX_bm, fAddX_mb, fAddX_bb, fAddX_lm, fAddX_ll, fMulX_i, fMulX_m, fSlX_t, fSlX_m, fSlX_b, fSlX_l, fIs_n, fIs_i, fIs_b, fIs_s, fIs_l, fIs_t, fIs_m, fIs_bl, fLen_t, fLen_l, fLen_m, fLen_b, fLen_scr, fIsi_c, fEqD_c, fEqD_mm, fEqD_bm, fEqD_bb, fEqD_dm, fEq_ss, fInt_i, fInt_b, fTuple_m, fTuple_b, fTuple_t, fTuple_l, fList_m, fList_b, fList_t, fList_l, f2I_c, fRepr_c, fRepr_m, fRepr_b, fStr_c, Bool.not_true, Bool.not_false, true_and, netT, Road.dt, reduceIte, Bool.false_eq_true, decide_true, decide_false, tupK, lstK, dNext_c, dBreak_c, dCont_c, dSeq_c, dDrop_c, dRet_c, retK_d, retK_m, retK_r, dRetN_c, dIfS_c, iteS_t, iteS_f, dSet_c, setK_d, setK_m, setK_s, setK_r, dAsg_c, asgK_d, asgK_m, dFz_c, dNever_c, dRaise_c, dC_c, dOp_c, dUn_c, dTst_c, tstK_c, dTru_c, truK_n, truK_b, truK_i, truK_t, truK_l, truK_m, truK_bl, dNot_c, dAnd_c, andK_t, andK_f, dOr_c, orK_t, orK_f, dAndV_c, andV_t, andV_f, dOrV_c, orV_t, orV_f, dNotV_c, dIf_c, iteE_t, iteE_f, dChain_c, chK_t, chK_f, dNil_c, dCons_c, dCB_c, dCall_c, dCall0_c, dTup_c, dLst_c, dFor_c, dLc_c, iTp_c, tpK_c, iLst_c, lsK_d, lsK_m, iSeq_c, sqK_d, sqK_m, sqK_b, dSl_c, dNo_c, dPt_c, ptK_c, dYes_c, dBack_k, backK_c, dTupRg_c, dLstRg_c, dRg1_c, dRg2_c, rg1K_c, rg2K_c, tupRg_c, lstRg_c, dDict0_c, dDict1_c, gdName_c, gdTup_c, gdCons_c, gdNil_c, dApp_c, appK_c, apK_d, apK_m, dVar_c, varK_d, varK_m, varK_b, varK_s, varK_sc, varK_r, dNew_c, varK_mo, varK_bo, setK_mo, retK_mo, dDIn_c, dinK_i, dinK_s, dDGet_c, dDGet1_c, isBo_c, dget1K_i, dDPut_c, dputV_d, dputK_i, val_mo, dOwn0_c, dDispV_c, dispK_i, fRepT_c, fIsB_c, dM0_c, dM1_c, isStr_c, fQ0_c, fQ1_c, fSplit_c, fLenS_c, iEnSD_c, dSetdIf_c, setdB_f, enSK_m, enSK_d, dOrT_c, dAndT_c, orTK_n, dCallK_c, dCallK0_c, dCallD_c, dCallD0_c, dSaid_c, toldK_d, toldK_m, iRg1_c, rgK_c, iRg2_c, rgK2_c, iEnT_c, enK_c, iZp_c, zpK_tt, zpK_mm, zpK_ll, zpK_lm, zpK_ml, dPar_c, parK_im, parK_nm, parK_sm, parK_dd, parK_md]
      refine lcD_each frow (fun r => prD (prOf r)) (frontN (rs.map Dl.Road.rev) s (p - 1).toNat (v : Int)) (fun r hr acc N ha hN => ?_) (Nat.le_trans (key v (by omega) (by omega)) (by decide)) ?_
      · unfold lcStep frow
        try simp only [startD, iEn, cvs, cv, vS, Sl.dat, Sl.seq, Sl.sq, Sl.fz, dats, dSetI, dAug, wipeD, List.length_cons, List.length_nil, List.length_append, List.length_replicate, Nat.reduceAdd, Nat.reduceSub, Nat.zero_add, List.replicate_succ, List.replicate_zero, List.cons_append, List.nil_append, List.append_nil, List.set_cons_zero, List.set_cons_succ, List.set_nil, List.getElem?_cons_zero, List.getElem?_cons_succ, Option.getD_some, List.map_cons, List.map_nil, Option.bind_some, fI0_c, fI_c, fU_c, fAddX_i, fAddX_t, fAddX_s, fAddX_mm, fAddX_bm, fAddX_mb, fAddX_bb, fAddX_lm, fAddX_ll, fMulX_i, fMulX_m, fSlX_t, fSlX_m, fSlX_b, fSlX_l, fIs_n, fIs_i, fIs_b, fIs_s, fIs_l, fIs_t, fIs_m, fIs_bl, fLen_t, fLen_l, fLen_m, fLen_b, fLen_scr, fIsi_c, fEqD_c, fEqD_mm, fEqD_bm, fEqD_bb, fEqD_dm, fEq_ss, fInt_i, fInt_b, fTuple_m, fTuple_b, fTuple_t, fTuple_l, fList_m, fList_b, fList_t, fList_l, f2I_c, fRepr_c, fRepr_m, fRepr_b, fStr_c, Bool.not_true, Bool.not_false, true_and, netT, Road.dt, reduceIte, Bool.false_eq_true, decide_true, decide_false, tupK, lstK, dNext_c, dBreak_c, dCont_c, dSeq_c, dDrop_c, dRet_c, retK_d, retK_m, retK_r, dRetN_c, dIfS_c, iteS_t, iteS_f, dSet_c, setK_d, setK_m, setK_s, setK_r, dAsg_c, asgK_d, asgK_m, dFz_c, dNever_c, dRaise_c, dC_c, dOp_c, dUn_c, dTst_c, tstK_c, dTru_c, truK_n, truK_b, truK_i, truK_t, truK_l, truK_m, truK_bl, dNot_c, dAnd_c, andK_t, andK_f, dOr_c, orK_t, orK_f, dAndV_c, andV_t, andV_f, dOrV_c, orV_t, orV_f, dNotV_c, dIf_c, iteE_t, iteE_f, dChain_c, chK_t, chK_f, dNil_c, dCons_c, dCB_c, dCall_c, dCall0_c, dTup_c, dLst_c, dFor_c, dLc_c, iTp_c, tpK_c, iLst_c, lsK_d, lsK_m, iSeq_c, sqK_d, sqK_m, sqK_b, dSl_c, dNo_c, dPt_c, ptK_c, dYes_c, dBack_k, backK_c, dTupRg_c, dLstRg_c, dRg1_c, dRg2_c, rg1K_c, rg2K_c, tupRg_c, lstRg_c, dDict0_c, dDict1_c, gdName_c, gdTup_c, gdCons_c, gdNil_c, dApp_c, appK_c, apK_d, apK_m, dVar_c, varK_d, varK_m, varK_b, varK_s, varK_sc, varK_r, dNew_c, varK_mo, varK_bo, setK_mo, retK_mo, dDIn_c, dinK_i, dinK_s, dDGet_c, dDGet1_c, isBo_c, dget1K_i, dDPut_c, dputV_d, dputK_i, val_mo, dOwn0_c, dDispV_c, dispK_i, fRepT_c, fIsB_c, dM0_c, dM1_c, isStr_c, fQ0_c, fQ1_c, fSplit_c, fLenS_c, iEnSD_c, dSetdIf_c, setdB_f, enSK_m, enSK_d, dOrT_c, dAndT_c, orTK_n, dCallK_c, dCallK0_c, dCallD_c, dCallD0_c, dSaid_c, toldK_d, toldK_m, iRg1_c, rgK_c, iRg2_c, rgK2_c, iEnT_c, enK_c, iZp_c, zpK_tt, zpK_mm, zpK_ll, zpK_lm, zpK_ml, dPar_c, parK_im, parK_nm, parK_sm, parK_dd, parK_md]
        exact ⟨by decide, ha, hN⟩
      have e : (frontN (rs.map Dl.Road.rev) s (p - 1).toNat (v : Int)).map (fun r => prD (prOf r)) = (fnP p rs s (v : Int)).map prD := by
        unfold fnP frontF
        rw [List.map_map]
        rfl
      rw [e]
      try simp only [startD, iEn, cvs, cv, vS, Sl.dat, Sl.seq, Sl.sq, Sl.fz, dats, dSetI, dAug, wipeD, List.length_cons, List.length_nil, List.length_append, List.length_replicate, Nat.reduceAdd, Nat.reduceSub, Nat.zero_add, List.replicate_succ, List.replicate_zero, List.cons_append, List.nil_append, List.append_nil, List.set_cons_zero, List.set_cons_succ, List.set_nil, List.getElem?_cons_zero, List.getElem?_cons_succ, Option.getD_some, List.map_cons, List.map_nil, Option.bind_some, fI0_c, fI_c, fU_c, fAddX_i, fAddX_t, fAddX_s, fAddX_mm, fAddX_bm, fAddX_mb, fAddX_bb, fAddX_lm, fAddX_ll, fMulX_i, fMulX_m, fSlX_t, fSlX_m, fSlX_b, fSlX_l, fIs_n, fIs_i, fIs_b, fIs_s, fIs_l, fIs_t, fIs_m, fIs_bl, fLen_t, fLen_l, fLen_m, fLen_b, fLen_scr, fIsi_c, fEqD_c, fEqD_mm, fEqD_bm, fEqD_bb, fEqD_dm, fEq_ss, fInt_i, fInt_b, fTuple_m, fTuple_b, fTuple_t, fTuple_l, fList_m, fList_b, fList_t, fList_l, f2I_c, fRepr_c, fRepr_m, fRepr_b, fStr_c, Bool.not_true, Bool.not_false, true_and, netT, Road.dt, reduceIte, Bool.false_eq_true, decide_true, decide_false, tupK, lstK, dNext_c, dBreak_c, dCont_c, dSeq_c, dDrop_c, dRet_c, retK_d, retK_m, retK_r, dRetN_c, dIfS_c, iteS_t, iteS_f, dSet_c, setK_d, setK_m, setK_s, setK_r, dAsg_c, asgK_d, asgK_m, dFz_c, dNever_c, dRaise_c, dC_c, dOp_c, dUn_c, dTst_c, tstK_c, dTru_c, truK_n, truK_b, truK_i, truK_t, truK_l, truK_m, truK_bl, dNot_c, dAnd_c, andK_t, andK_f, dOr_c, orK_t, orK_f, dAndV_c, andV_t, andV_f, dOrV_c, orV_t, orV_f, dNotV_c, dIf_c, iteE_t, iteE_f, dChain_c, chK_t, chK_f, dNil_c, dCons_c, dCB_c, dCall_c, dCall0_c, dTup_c, dLst_c, dFor_c, dLc_c, iTp_c, tpK_c, iLst_c, lsK_d, lsK_m, iSeq_c, sqK_d, sqK_m, sqK_b, dSl_c, dNo_c, dPt_c, ptK_c, dYes_c, dBack_k, backK_c, dTupRg_c, dLstRg_c, dRg1_c, dRg2_c, rg1K_c, rg2K_c, tupRg_c, lstRg_c, dDict0_c, dDict1_c, gdName_c, gdTup_c, gdCons_c, gdNil_c, dApp_c, appK_c, apK_d, apK_m, dVar_c, varK_d, varK_m, varK_b, varK_s, varK_sc, varK_r, dNew_c, varK_mo, varK_bo, setK_mo, retK_mo, dDIn_c, dinK_i, dinK_s, dDGet_c, dDGet1_c, isBo_c, dget1K_i, dDPut_c, dputV_d, dputK_i, val_mo, dOwn0_c, dDispV_c, dispK_i, fRepT_c, fIsB_c, dM0_c, dM1_c, isStr_c, fQ0_c, fQ1_c, fSplit_c, fLenS_c, iEnSD_c, dSetdIf_c, setdB_f, enSK_m, enSK_d, dOrT_c, dAndT_c, orTK_n, dCallK_c, dCallK0_c, dCallD_c, dCallD0_c, dSaid_c, toldK_d, toldK_m, iRg1_c, rgK_c, iRg2_c, rgK2_c, iEnT_c, enK_c, iZp_c, zpK_tt, zpK_mm, zpK_ll, zpK_lm, zpK_ml, dPar_c, parK_im, parK_nm, parK_sm, parK_dd, parK_md]
      exact ⟨ha, hN⟩
    try simp only [startD, iEn, cvs, cv, vS, Sl.dat, Sl.seq, Sl.sq, Sl.fz, dats, dSetI, dAug, wipeD, List.length_cons, List.length_nil, List.length_append, List.length_replicate, Nat.reduceAdd, Nat.reduceSub, Nat.zero_add, List.replicate_succ, List.replicate_zero, List.cons_append, List.nil_append, List.append_nil, List.set_cons_zero, List.set_cons_succ, List.set_nil, List.getElem?_cons_zero, List.getElem?_cons_succ, Option.getD_some, List.map_cons, List.map_nil, Option.bind_some, fI0_c, fI_c, fU_c, fAddX_i, fAddX_t, fAddX_s, fAddX_mm, fAddX_bm, fAddX_mb, fAddX_bb, fAddX_lm, fAddX_ll, fMulX_i, fMulX_m, fSlX_t, fSlX_m, fSlX_b, fSlX_l, fIs_n, fIs_i, fIs_b, fIs_s, fIs_l, fIs_t, fIs_m, fIs_bl, fLen_t, fLen_l, fLen_m, fLen_b, fLen_scr, fIsi_c, fEqD_c, fEqD_mm, fEqD_bm, fEqD_bb, fEqD_dm, fEq_ss, fInt_i, fInt_b, fTuple_m, fTuple_b, fTuple_t, fTuple_l, fList_m, fList_b, fList_t, fList_l, f2I_c, fRepr_c, fRepr_m, fRepr_b, fStr_c, Bool.not_true, Bool.not_false, true_and, netT, Road.dt, reduceIte, Bool.false_eq_true, decide_true, decide_false, tupK, lstK, dNext_c, dBreak_c, dCont_c, dSeq_c, dDrop_c, dRet_c, retK_d, retK_m, retK_r, dRetN_c, dIfS_c, iteS_t, iteS_f, dSet_c, setK_d, setK_m, setK_s, setK_r, dAsg_c, asgK_d, asgK_m, dFz_c, dNever_c, dRaise_c, dC_c, dOp_c, dUn_c, dTst_c, tstK_c, dTru_c, truK_n, truK_b, truK_i, truK_t, truK_l, truK_m, truK_bl, dNot_c, dAnd_c, andK_t, andK_f, dOr_c, orK_t, orK_f, dAndV_c, andV_t, andV_f, dOrV_c, orV_t, orV_f, dNotV_c, dIf_c, iteE_t, iteE_f, dChain_c, chK_t, chK_f, dNil_c, dCons_c, dCB_c, dCall_c, dCall0_c, dTup_c, dLst_c, dFor_c, dLc_c, iTp_c, tpK_c, iLst_c, lsK_d, lsK_m, iSeq_c, sqK_d, sqK_m, sqK_b, dSl_c, dNo_c, dPt_c, ptK_c, dYes_c, dBack_k, backK_c, dTupRg_c, dLstRg_c, dRg1_c, dRg2_c, rg1K_c, rg2K_c, tupRg_c, lstRg_c, dDict0_c, dDict1_c, gdName_c, gdTup_c, gdCons_c, gdNil_c, dApp_c, appK_c, apK_d, apK_m, dVar_c, varK_d, varK_m, varK_b, varK_s, varK_sc, varK_r, dNew_c, varK_mo, varK_bo, setK_mo, retK_mo, dDIn_c, dinK_i, dinK_s, dDGet_c, dDGet1_c, isBo_c, dget1K_i, dDPut_c, dputV_d, dputK_i, val_mo, dOwn0_c, dDispV_c, dispK_i, fRepT_c, fIsB_c, dM0_c, dM1_c, isStr_c, fQ0_c, fQ1_c, fSplit_c, fLenS_c, iEnSD_c, dSetdIf_c, setdB_f, enSK_m, enSK_d, dOrT_c, dAndT_c, orTK_n, dCallK_c, dCallK0_c, dCallD_c, dCallD0_c, dSaid_c, toldK_d, toldK_m, iRg1_c, rgK_c, iRg2_c, rgK2_c, iEnT_c, enK_c, iZp_c, zpK_tt, zpK_mm, zpK_ll, zpK_lm, zpK_ml, dPar_c, parK_im, parK_nm, parK_sm, parK_dd, parK_md]
    exact q
end
end Wy

set_option synthInstance.maxHeartbeats 2000000
set_option synthInstance.maxSize 100000
namespace Wy
open PySem PySem.Spec PyProof.Rows L2 Dl
section
variable {P : Program} {w : World} {K : PySem.W.Frag} {mg : Str → Option Value} {base : Heap} {C : Nat → Addr}
def pairsD (F : List Pr) : List PyData := F.map prD
/-- what is found, place by place -/
def fndD (p : Int) (f : Nat → List Pr) : List (List PyData) := (List.range p.toNat).map fun v => pairsD (f v)
theorem fndD_get {p : Int} {f : Nat → List Pr} {v : Nat} (h : v < p.toNat) : (fndD p f)[v]? = some (pairsD (f v)) := by
  unfold fndD
  rw [List.getElem?_map, List.getElem?_range h]
  rfl
theorem fndD_set {p : Int} {f : Nat → List Pr} {m : Tri} : (fndD p f).set m.v.toNat (pairsD (f m.v.toNat) ++ [prD (m.c, m.t)]) = fndD p (updF f m) := by
  refine List.ext_getElem? fun j => ?_
  have hl : (fndD p f).length = p.toNat := by
    unfold fndD
    rw [List.length_map, List.length_range]
  rw [List.getElem?_set]
  by_cases hj : j < p.toNat
  · rw [fndD_get hj, fndD_get hj]
    by_cases z : m.v.toNat = j
    · subst z
      rw [if_pos rfl, if_pos (by rw [hl]; exact hj), updF_at]
      unfold pairsD
      rw [List.map_append]
      rfl
    · rw [if_neg z, updF_ne (fun e => z e.symm)]
  · rw [List.getElem?_eq_none (l := fndD p f) (by rw [hl]; omega), List.getElem?_eq_none (l := fndD p (updF f m)) (by unfold fndD; rw [List.length_map, List.length_range]; omega)]
    split
    · rw [if_neg (by rw [hl]; omega)]
    · rfl
theorem lay_trD (x : Tri) : Lay (trD x) 1 := lay_tup (n := 0) fun y hy => by
  simp only [List.mem_cons, List.not_mem_nil, or_false] at hy
  rcases hy with rfl | rfl | rfl <;> exact lay_int _ _
theorem lay_prD (x : Pr) : Lay (prD x) 1 := lay_tup (n := 0) fun y hy => by
  simp only [List.mem_cons, List.not_mem_nil, or_false] at hy
  rcases hy with rfl | rfl <;> exact lay_int _ _
open PySem.W in
theorem trs_ok (p : Tri) (ps : List Tri) : minOk (trD p) (ps.map trD) := by
  have each : ∀ x ∈ trD p :: ps.map trD, ∃ r, x = trD r := fun x hx => by
    rw [← List.map_cons] at hx
    obtain ⟨r, _, rfl⟩ := List.mem_map.mp hx
    exact ⟨r, rfl⟩
  obtain ⟨z1, z2⟩ := lay_all (xs := trD p :: ps.map trD) (n := 1) fun x hx => by
    obtain ⟨r, rfl⟩ := each x hx
    exact lay_trD r
  refine ⟨z1, ⟨fun x hx y hy => ?_, fun x hx => ?_⟩, Nat.le_trans z2 (by decide)⟩
  · obtain ⟨r, rfl⟩ := each x hx
    obtain ⟨r', rfl⟩ := each y hy
    simp [trD, PySem.W.alike, PySem.W.alikeAll]
  · obtain ⟨r, rfl⟩ := each x hx
    exact fun z => nomatch z
/-- the least of the rows -/
theorem fMin_trs {Qd : Sl → Prop} {ps : List Tri} (ne : ps ≠ []) (h : ∀ m, m ∈ ps → (∀ r ∈ ps, LeK m r) → Qd (.d (trD m))) : fMinX [.bl (ps.map trD)] Qd := by
  cases ps with
  | nil => exact absurd rfl ne
  | cons p ps =>
    obtain ⟨m, h1, h2, h3, h4⟩ := min_tr ps p
    refine ⟨trs_ok p ps, ?_⟩
    show Qd (.d (PySem.W.minD (trD p) (ps.map trD)))
    rw [h2]
    refine h m ?_ fun r hr => ?_
    · rcases h1 with rfl | h1
      · exact List.mem_cons_self
      · exact List.mem_cons_of_mem _ h1
    · rcases List.mem_cons.mp hr with rfl | hr
      · exact h3
      · exact h4 r hr
theorem fIxB_pos {xs : List PyData} {i : Int} {d : PyData} {Qd : Sl → Prop} (h0 : 0 ≤ i) (e : xs[i.toNat]? = some d) (h : Qd (.d d)) : fIx (.bl xs) (.d (.int i)) Qd := by
  have := fIxB_nth (Qd := Qd) e h
  rw [show ((i.toNat : Nat) : Int) = i from by omega] at this
  exact this
theorem tr_gone (rows : List Tri) (m : Tri) : (rows.map trD).eraseP (fun z => PyData.eqv z (trD m)) = (rows.erase m).map trD := by
  rw [List.eraseP_map, List.erase_eq_eraseP']
  congr 1
  refine congrArg (fun q => List.eraseP q rows) ?_
  funext x
  show PyData.eqv (trD x) (trD m) = _
  rw [eqv_tr, Bool.beq_eq_decide_eq]
theorem tr_there {rows : List Tri} {m : Tri} (h : m ∈ rows) : ((rows.map trD).any fun z => PyData.eqv z (trD m)) = true := by
  rw [List.any_eq_true]
  exact ⟨trD m, List.mem_map.mpr ⟨m, h, rfl⟩, by rw [eqv_tr]; exact decide_eq_true rfl⟩
theorem sc__law_pairs : FnScope ["_law_net_here", "_law_start", "_law_found", "_law_rows", "_law_place", "_law_cost", "_law_time", "_law_one", "_law_other", "_law_more", "_law_longer", "_law_row"] ["_law_net_here", "_law_start"] (defScope s__law_pairs) := ⟨rfl, rfl, rfl, by decide +kernel, rfl, by decide +kernel, by decide +kernel⟩
def sd__law_pairs : SpD := fun ss Qd _ => ∃ (p : Int) (rs : List Road) (s : Int), ss = [.d (netT p rs), .d (.int s)] ∧ NetOk p rs ∧ 0 ≤ s ∧ s < p ∧ Qd (.d (fnD p rs s))
theorem c__law_pairs (T : Tx K mg C) : Cb P w K mg base CX0 1 "_law_pairs" ["_law_net_here", "_law_start"] (spD K [] sd__law_pairs) := by
  obtain ⟨f, fd, D⟩ := T.h__law_pairs
  refine ⟨f, fd, okD (k := 0) D.F sc__law_pairs (fun ss Qd R h => ?_) (fun cdv A outer s H E hr => ⟨_, (pss_nst (ps_par (i := 2) (j := 3) (by rfl) sc__law_pairs.nd rfl rfl (by decide) rfl rfl (pa_cons (pe_lc (own := [("_law_place", 4)]) (g := (gName 4)) (tt := tYes) (by rfl) sc__law_pairs.nd (pi_range1 (by rfl) T.range (pa_cons (pe_ix (ix_seqK (K := K) rfl) (pv 0) pe_int (fun _ _ => rfl)) pa_nil))
      (blkOk_by (own := [("_law_place", 4)]) (N := ["_law_net_here", "_law_start", "_law_found", "_law_rows", "_law_place", "_law_cost", "_law_time", "_law_one", "_law_other", "_law_more", "_law_longer", "_law_row"]) (sc := defScope s__law_pairs) (by decide +kernel)) (fun _ _ _ _ _ => (pg_name (i := 4) sc__law_pairs.nd rfl (.inl rfl))) (fun _ _ _ _ _ => pts_nil) (fun _ _ _ _ _ => (pe_lst pa_nil))) (pa_cons (pe_lst (pa_cons (pe_tup (pa_cons pe_int (pa_cons pe_int (pa_cons (pv 1) pa_nil)))) pa_nil)) pa_nil)) (by rfl))
    (ps_while PassesOwn.never (pt_cmpR (op_neK (K := K) rfl hr.units) (pv 3) (pe_lst pa_nil) (nomark _))
    (pss_cons (ps_asg (pe_callB (cr_minXK (K := K) rfl rfl hr.units) (by rfl) T.min (by decide +kernel) (pa_cons (pv 3) pa_nil)) (pg_tupK (n := 3) (K := K) rfl (by rfl) (pgs_cons (pg_name (i := 5) sc__law_pairs.nd rfl (.inr rfl)) (pgs_cons (pg_name (i := 6) sc__law_pairs.nd rfl (.inr rfl)) (pgs_cons (pg_name (i := 4) sc__law_pairs.nd rfl (.inl rfl)) pgs_nil)))))
    (pss_cons (ps_expr (pe_bmK (K := K) rfl PySem.F.plainAttrs_list PySem.F.slot_list_remove PySem.F.type_list_remove (mt_remDK (K := K) rfl hr.units) (pv 3) (pa_cons (pe_tup (pa_cons (pv 5) (pa_cons (pv 6) (pa_cons (pv 4) pa_nil)))) pa_nil)))
    (pss_one (ps_if (pt_cmpR (op_eqK (K := K) rfl hr.units) (pe_lc (own := [("_law_one", 7)]) (g := (gName 7)) (by rfl) sc__law_pairs.nd (pi_listK (K := K) rfl (pe_ix (ix_seqK (K := K) rfl) (pv 2) (pv 4) (fun _ _ => rfl)))
      (blkOk_by (own := [("_law_one", 7)]) (N := ["_law_net_here", "_law_start", "_law_found", "_law_rows", "_law_place", "_law_cost", "_law_time", "_law_one", "_law_other", "_law_more", "_law_longer", "_law_row"]) (sc := defScope s__law_pairs) (by decide +kernel)) (fun _ _ _ _ _ => (pg_name (i := 7) sc__law_pairs.nd rfl (.inl rfl))) (fun _ _ _ _ _ => (pts_one (PW.pt (pw_and (pt_cmpR op_le (pe_ix (ix_seqK (K := K) rfl) (pv 7) pe_int (fun _ _ => rfl)) (pv 5) (nomark _)) (pw_and1 (pt_cmpR op_le (pe_ix (ix_seqK (K := K) rfl) (pv 7) pe_int (fun _ _ => rfl)) (pv 6) (nomark _))))))) (fun _ _ _ _ _ => (pv 7))) (pe_lst pa_nil) (nomark _)) (pss_cons (ps_expr (pe_bmK (K := K) rfl PySem.F.plainAttrs_list PySem.F.slot_list_append PySem.F.type_list_append mt_append (pe_ix (ix_seqK (K := K) rfl) (pv 2) (pv 4) (fun _ _ => rfl)) (pa_cons (pe_tup (pa_cons (pv 5) (pa_cons (pv 6) pa_nil))) pa_nil)))
    (pss_one (ps_for PassesOwn.never rfl (pi_tupK (K := K) rfl (pe_ix (ix_seqK (K := K) rfl) (pv 0) pe_int (fun _ _ => rfl))) (pg_tupK (n := 4) (K := K) rfl (by rfl) (pgs_cons (pg_name (i := 7) sc__law_pairs.nd rfl (.inl rfl)) (pgs_cons (pg_name (i := 8) sc__law_pairs.nd rfl (.inl rfl)) (pgs_cons (pg_name (i := 9) sc__law_pairs.nd rfl (.inl rfl)) (pgs_cons (pg_name (i := 10) sc__law_pairs.nd rfl (.inl rfl)) pgs_nil)))))
    (pss_one (ps_if (pt_cmpR (op_eqK (K := K) rfl hr.units) (pv 7) (pv 4) (nomark _)) (pss_one (ps_expr (pe_bmK (K := K) rfl PySem.F.plainAttrs_list PySem.F.slot_list_append PySem.F.type_list_append mt_append (pv 3) (pa_cons (pe_tup (pa_cons (pe_op (op_addK (K := K) rfl) (pv 5) (pv 9)) (pa_cons (pe_op (op_addK (K := K) rfl) (pv 6) (pv 10)) (pa_cons (pv 8) pa_nil)))) pa_nil)))) pss_nil))))) pss_nil)))))
    (pss_one (ps_ret (pe_callTy (call_tupleK (K := K) rfl) (by rfl) T.tuple (by decide +kernel) (pa_cons (pe_lc (own := [("_law_row", 11)]) (g := (gName 11)) (tt := tYes) (by rfl) sc__law_pairs.nd (pi_listK (K := K) rfl (pv 2))
      (blkOk_by (own := [("_law_row", 11)]) (N := ["_law_net_here", "_law_start", "_law_found", "_law_rows", "_law_place", "_law_cost", "_law_time", "_law_one", "_law_other", "_law_more", "_law_longer", "_law_row"]) (sc := defScope s__law_pairs) (by decide +kernel)) (fun _ _ _ _ _ => (pg_name (i := 11) sc__law_pairs.nd rfl (.inl rfl))) (fun _ _ _ _ _ => pts_nil) (fun _ _ _ _ _ => (pe_callTy (call_tupleK (K := K) rfl) (by rfl) T.tuple (by decide +kernel) (pa_cons (pv 11) pa_nil)))) pa_nil))))), ?_⟩), D.g, D.F.kp, D.b⟩
  · obtain ⟨_, _, _, rfl, _⟩ := h
    rfl
  · refine ⟨_, fun τ => inferInstance, fun ss Qd R h => ?_⟩
    obtain ⟨p, rs, s, rfl, ok, s0, s1, q⟩ := h
    have p1 := ok.p1
    have p2 := ok.p2
    have l30 := ok.len
    rw [dSeq_c, dNst_c]
    try simp only [dRem_c, nSeq_c, nIf_c, iteN_t, iteN_f, nOf_c, nNext_c, startD, iEn, cvs, cv, vS, Sl.dat, Sl.seq, Sl.sq, Sl.fz, dats, dSetI, dAug, wipeD, List.length_cons, List.length_nil, List.length_append, List.length_replicate, Nat.reduceAdd, Nat.reduceSub, Nat.zero_add, List.replicate_succ, List.replicate_zero, List.cons_append, List.nil_append, List.append_nil, List.set_cons_zero, List.set_cons_succ, List.set_nil, List.getElem?_cons_zero, List.getElem?_cons_succ, Option.getD_some, List.map_cons, List.map_nil, Option.bind_some, fI0_c, fI_c, fU_c, fAddX_i, fAddX_t, fAddX_s, fAddX_mm, fAddX_bm, fAddX_mb, fAddX_bb, fAddX_lm, fAddX_ll, fMulX_i, fMulX_m, fSlX_t, fSlX_m, fSlX_b, fSlX_l, fIs_n, fIs_i, fIs_b, fIs_s, fIs_l, fIs_t, fIs_m, fIs_bl, fLen_t, fLen_l, fLen_m, fLen_b, fLen_scr, fIsi_c, fEqD_c, fEqD_mm, fEqD_bm, fEqD_bb, fEqD_dm, fEq_ss, fInt_i, fInt_b, fTuple_m, fTuple_b, fTuple_t, fTuple_l, fList_m, fList_b, fList_t, fList_l, f2I_c, fRepr_c, fRepr_m, fRepr_b, fStr_c, Bool.not_true, Bool.not_false, true_and, netT, Road.dt, reduceIte, Bool.false_eq_true, decide_true, decide_false, tupK, lstK, dNext_c, dBreak_c, dCont_c, dSeq_c, dDrop_c, dRet_c, retK_d, retK_m, retK_r, dRetN_c, dIfS_c, iteS_t, iteS_f, dSet_c, setK_d, setK_m, setK_s, setK_r, dAsg_c, asgK_d, asgK_m, dFz_c, dNever_c, dRaise_c, dC_c, dOp_c, dUn_c, dTst_c, tstK_c, dTru_c, truK_n, truK_b, truK_i, truK_t, truK_l, truK_m, truK_bl, dNot_c, dAnd_c, andK_t, andK_f, dOr_c, orK_t, orK_f, dAndV_c, andV_t, andV_f, dOrV_c, orV_t, orV_f, dNotV_c, dIf_c, iteE_t, iteE_f, dChain_c, chK_t, chK_f, dNil_c, dCons_c, dCB_c, dCall_c, dCall0_c, dTup_c, dLst_c, dFor_c, dLc_c, iTp_c, tpK_c, iLst_c, lsK_d, lsK_m, iSeq_c, sqK_d, sqK_m, sqK_b, dSl_c, dNo_c, dPt_c, ptK_c, dYes_c, dBack_k, backK_c, dTupRg_c, dLstRg_c, dRg1_c, dRg2_c, rg1K_c, rg2K_c, tupRg_c, lstRg_c, dDict0_c, dDict1_c, gdName_c, gdTup_c, gdCons_c, gdNil_c, dApp_c, appK_c, apK_d, apK_m, dVar_c, varK_d, varK_m, varK_b, varK_s, varK_sc, varK_r, dNew_c, varK_mo, varK_bo, setK_mo, retK_mo, dDIn_c, dinK_i, dinK_s, dDGet_c, dDGet1_c, isBo_c, dget1K_i, dDPut_c, dputV_d, dputK_i, val_mo, dOwn0_c, dDispV_c, dispK_i, fRepT_c, fIsB_c, dM0_c, dM1_c, isStr_c, fQ0_c, fQ1_c, fSplit_c, fLenS_c, iEnSD_c, dSetdIf_c, setdB_f, enSK_m, enSK_d, dOrT_c, dAndT_c, orTK_n, dCallK_c, dCallK0_c, dCallD_c, dCallD0_c, dSaid_c, toldK_d, toldK_m, iRg1_c, rgK_c, iRg2_c, rgK2_c, iEnT_c, enK_c, iZp_c, zpK_tt, zpK_mm, zpK_ll, zpK_lm, zpK_ml, dPar_c, parK_im, parK_nm, parK_sm, parK_dd, parK_md]
    refine fIx_at (n := 0) rfl ?_
    try simp only [dRem_c, nSeq_c, nIf_c, iteN_t, iteN_f, nOf_c, nNext_c, startD, iEn, cvs, cv, vS, Sl.dat, Sl.seq, Sl.sq, Sl.fz, dats, dSetI, dAug, wipeD, List.length_cons, List.length_nil, List.length_append, List.length_replicate, Nat.reduceAdd, Nat.reduceSub, Nat.zero_add, List.replicate_succ, List.replicate_zero, List.cons_append, List.nil_append, List.append_nil, List.set_cons_zero, List.set_cons_succ, List.set_nil, List.getElem?_cons_zero, List.getElem?_cons_succ, Option.getD_some, List.map_cons, List.map_nil, Option.bind_some, fI0_c, fI_c, fU_c, fAddX_i, fAddX_t, fAddX_s, fAddX_mm, fAddX_bm, fAddX_mb, fAddX_bb, fAddX_lm, fAddX_ll, fMulX_i, fMulX_m, fSlX_t, fSlX_m, fSlX_b, fSlX_l, fIs_n, fIs_i, fIs_b, fIs_s, fIs_l, fIs_t, fIs_m, fIs_bl, fLen_t, fLen_l, fLen_m, fLen_b, fLen_scr, fIsi_c, fEqD_c, fEqD_mm, fEqD_bm, fEqD_bb, fEqD_dm, fEq_ss, fInt_i, fInt_b, fTuple_m, fTuple_b, fTuple_t, fTuple_l, fList_m, fList_b, fList_t, fList_l, f2I_c, fRepr_c, fRepr_m, fRepr_b, fStr_c, Bool.not_true, Bool.not_false, true_and, netT, Road.dt, reduceIte, Bool.false_eq_true, decide_true, decide_false, tupK, lstK, dNext_c, dBreak_c, dCont_c, dSeq_c, dDrop_c, dRet_c, retK_d, retK_m, retK_r, dRetN_c, dIfS_c, iteS_t, iteS_f, dSet_c, setK_d, setK_m, setK_s, setK_r, dAsg_c, asgK_d, asgK_m, dFz_c, dNever_c, dRaise_c, dC_c, dOp_c, dUn_c, dTst_c, tstK_c, dTru_c, truK_n, truK_b, truK_i, truK_t, truK_l, truK_m, truK_bl, dNot_c, dAnd_c, andK_t, andK_f, dOr_c, orK_t, orK_f, dAndV_c, andV_t, andV_f, dOrV_c, orV_t, orV_f, dNotV_c, dIf_c, iteE_t, iteE_f, dChain_c, chK_t, chK_f, dNil_c, dCons_c, dCB_c, dCall_c, dCall0_c, dTup_c, dLst_c, dFor_c, dLc_c, iTp_c, tpK_c, iLst_c, lsK_d, lsK_m, iSeq_c, sqK_d, sqK_m, sqK_b, dSl_c, dNo_c, dPt_c, ptK_c, dYes_c, dBack_k, backK_c, dTupRg_c, dLstRg_c, dRg1_c, dRg2_c, rg1K_c, rg2K_c, tupRg_c, lstRg_c, dDict0_c, dDict1_c, gdName_c, gdTup_c, gdCons_c, gdNil_c, dApp_c, appK_c, apK_d, apK_m, dVar_c, varK_d, varK_m, varK_b, varK_s, varK_sc, varK_r, dNew_c, varK_mo, varK_bo, setK_mo, retK_mo, dDIn_c, dinK_i, dinK_s, dDGet_c, dDGet1_c, isBo_c, dget1K_i, dDPut_c, dputV_d, dputK_i, val_mo, dOwn0_c, dDispV_c, dispK_i, fRepT_c, fIsB_c, dM0_c, dM1_c, isStr_c, fQ0_c, fQ1_c, fSplit_c, fLenS_c, iEnSD_c, dSetdIf_c, setdB_f, enSK_m, enSK_d, dOrT_c, dAndT_c, orTK_n, dCallK_c, dCallK0_c, dCallD_c, dCallD0_c, dSaid_c, toldK_d, toldK_m, iRg1_c, rgK_c, iRg2_c, rgK2_c, iEnT_c, enK_c, iZp_c, zpK_tt, zpK_mm, zpK_ll, zpK_lm, zpK_ml, dPar_c, parK_im, parK_nm, parK_sm, parK_dd, parK_md]
    refine ⟨by omega, by omega, ?_⟩
    refine lcO_map (α := Nat) (fun j => .int (0 + (j : Int))) (fun _ => []) (List.range p.toNat) [] (fun j hj N hN => ?_) ?_ ?_
    · try simp only [dRem_c, nSeq_c, nIf_c, iteN_t, iteN_f, nOf_c, nNext_c, startD, iEn, cvs, cv, vS, Sl.dat, Sl.seq, Sl.sq, Sl.fz, dats, dSetI, dAug, wipeD, List.length_cons, List.length_nil, List.length_append, List.length_replicate, Nat.reduceAdd, Nat.reduceSub, Nat.zero_add, List.replicate_succ, List.replicate_zero, List.cons_append, List.nil_append, List.append_nil, List.set_cons_zero, List.set_cons_succ, List.set_nil, List.getElem?_cons_zero, List.getElem?_cons_succ, Option.getD_some, List.map_cons, List.map_nil, Option.bind_some, fI0_c, fI_c, fU_c, fAddX_i, fAddX_t, fAddX_s, fAddX_mm, fAddX_bm, fAddX_mb, fAddX_bb, fAddX_lm, fAddX_ll, fMulX_i, fMulX_m, fSlX_t, fSlX_m, fSlX_b, fSlX_l, fIs_n, fIs_i, fIs_b, fIs_s, fIs_l, fIs_t, fIs_m, fIs_bl, fLen_t, fLen_l, fLen_m, fLen_b, fLen_scr, fIsi_c, fEqD_c, fEqD_mm, fEqD_bm, fEqD_bb, fEqD_dm, fEq_ss, fInt_i, fInt_b, fTuple_m, fTuple_b, fTuple_t, fTuple_l, fList_m, fList_b, fList_t, fList_l, f2I_c, fRepr_c, fRepr_m, fRepr_b, fStr_c, Bool.not_true, Bool.not_false, true_and, netT, Road.dt, reduceIte, Bool.false_eq_true, decide_true, decide_false, tupK, lstK, dNext_c, dBreak_c, dCont_c, dSeq_c, dDrop_c, dRet_c, retK_d, retK_m, retK_r, dRetN_c, dIfS_c, iteS_t, iteS_f, dSet_c, setK_d, setK_m, setK_s, setK_r, dAsg_c, asgK_d, asgK_m, dFz_c, dNever_c, dRaise_c, dC_c, dOp_c, dUn_c, dTst_c, tstK_c, dTru_c, truK_n, truK_b, truK_i, truK_t, truK_l, truK_m, truK_bl, dNot_c, dAnd_c, andK_t, andK_f, dOr_c, orK_t, orK_f, dAndV_c, andV_t, andV_f, dOrV_c, orV_t, orV_f, dNotV_c, dIf_c, iteE_t, iteE_f, dChain_c, chK_t, chK_f, dNil_c, dCons_c, dCB_c, dCall_c, dCall0_c, dTup_c, dLst_c, dFor_c, dLc_c, iTp_c, tpK_c, iLst_c, lsK_d, lsK_m, iSeq_c, sqK_d, sqK_m, sqK_b, dSl_c, dNo_c, dPt_c, ptK_c, dYes_c, dBack_k, backK_c, dTupRg_c, dLstRg_c, dRg1_c, dRg2_c, rg1K_c, rg2K_c, tupRg_c, lstRg_c, dDict0_c, dDict1_c, gdName_c, gdTup_c, gdCons_c, gdNil_c, dApp_c, appK_c, apK_d, apK_m, dVar_c, varK_d, varK_m, varK_b, varK_s, varK_sc, varK_r, dNew_c, varK_mo, varK_bo, setK_mo, retK_mo, dDIn_c, dinK_i, dinK_s, dDGet_c, dDGet1_c, isBo_c, dget1K_i, dDPut_c, dputV_d, dputK_i, val_mo, dOwn0_c, dDispV_c, dispK_i, fRepT_c, fIsB_c, dM0_c, dM1_c, isStr_c, fQ0_c, fQ1_c, fSplit_c, fLenS_c, iEnSD_c, dSetdIf_c, setdB_f, enSK_m, enSK_d, dOrT_c, dAndT_c, orTK_n, dCallK_c, dCallK0_c, dCallD_c, dCallD0_c, dSaid_c, toldK_d, toldK_m, iRg1_c, rgK_c, iRg2_c, rgK2_c, iEnT_c, enK_c, iZp_c, zpK_tt, zpK_mm, zpK_ll, zpK_lm, zpK_ml, dPar_c, parK_im, parK_nm, parK_sm, parK_dd, parK_md]
      exact ⟨Nat.zero_le _, hN⟩
    · rw [List.length_nil, List.length_range]
      exact Nat.le_trans (show 0 + p.toNat ≤ 10 by omega) (by decide)
    rw [List.nil_append, show (List.range p.toNat).map (fun _ => ([] : List PyData)) = fndD p (fun _ => []) from rfl]
    try simp only [dRem_c, nSeq_c, nIf_c, iteN_t, iteN_f, nOf_c, nNext_c, startD, iEn, cvs, cv, vS, Sl.dat, Sl.seq, Sl.sq, Sl.fz, dats, dSetI, dAug, wipeD, List.length_cons, List.length_nil, List.length_append, List.length_replicate, Nat.reduceAdd, Nat.reduceSub, Nat.zero_add, List.replicate_succ, List.replicate_zero, List.cons_append, List.nil_append, List.append_nil, List.set_cons_zero, List.set_cons_succ, List.set_nil, List.getElem?_cons_zero, List.getElem?_cons_succ, Option.getD_some, List.map_cons, List.map_nil, Option.bind_some, fI0_c, fI_c, fU_c, fAddX_i, fAddX_t, fAddX_s, fAddX_mm, fAddX_bm, fAddX_mb, fAddX_bb, fAddX_lm, fAddX_ll, fMulX_i, fMulX_m, fSlX_t, fSlX_m, fSlX_b, fSlX_l, fIs_n, fIs_i, fIs_b, fIs_s, fIs_l, fIs_t, fIs_m, fIs_bl, fLen_t, fLen_l, fLen_m, fLen_b, fLen_scr, fIsi_c, fEqD_c, fEqD_mm, fEqD_bm, fEqD_bb, fEqD_dm, fEq_ss, fInt_i, fInt_b, fTuple_m, fTuple_b, fTuple_t, fTuple_l, fList_m, fList_b, fList_t, fList_l, f2I_c, fRepr_c, fRepr_m, fRepr_b, fStr_c, Bool.not_true, Bool.not_false, true_and, netT, Road.dt, reduceIte, Bool.false_eq_true, decide_true, decide_false, tupK, lstK, dNext_c, dBreak_c, dCont_c, dSeq_c, dDrop_c, dRet_c, retK_d, retK_m, retK_r, dRetN_c, dIfS_c, iteS_t, iteS_f, dSet_c, setK_d, setK_m, setK_s, setK_r, dAsg_c, asgK_d, asgK_m, dFz_c, dNever_c, dRaise_c, dC_c, dOp_c, dUn_c, dTst_c, tstK_c, dTru_c, truK_n, truK_b, truK_i, truK_t, truK_l, truK_m, truK_bl, dNot_c, dAnd_c, andK_t, andK_f, dOr_c, orK_t, orK_f, dAndV_c, andV_t, andV_f, dOrV_c, orV_t, orV_f, dNotV_c, dIf_c, iteE_t, iteE_f, dChain_c, chK_t, chK_f, dNil_c, dCons_c, dCB_c, dCall_c, dCall0_c, dTup_c, dLst_c, dFor_c, dLc_c, iTp_c, tpK_c, iLst_c, lsK_d, lsK_m, iSeq_c, sqK_d, sqK_m, sqK_b, dSl_c, dNo_c, dPt_c, ptK_c, dYes_c, dBack_k, backK_c, dTupRg_c, dLstRg_c, dRg1_c, dRg2_c, rg1K_c, rg2K_c, tupRg_c, lstRg_c, dDict0_c, dDict1_c, gdName_c, gdTup_c, gdCons_c, gdNil_c, dApp_c, appK_c, apK_d, apK_m, dVar_c, varK_d, varK_m, varK_b, varK_s, varK_sc, varK_r, dNew_c, varK_mo, varK_bo, setK_mo, retK_mo, dDIn_c, dinK_i, dinK_s, dDGet_c, dDGet1_c, isBo_c, dget1K_i, dDPut_c, dputV_d, dputK_i, val_mo, dOwn0_c, dDispV_c, dispK_i, fRepT_c, fIsB_c, dM0_c, dM1_c, isStr_c, fQ0_c, fQ1_c, fSplit_c, fLenS_c, iEnSD_c, dSetdIf_c, setdB_f, enSK_m, enSK_d, dOrT_c, dAndT_c, orTK_n, dCallK_c, dCallK0_c, dCallD_c, dCallD0_c, dSaid_c, toldK_d, toldK_m, iRg1_c, rgK_c, iRg2_c, rgK2_c, iEnT_c, enK_c, iZp_c, zpK_tt, zpK_mm, zpK_ll, zpK_lm, zpK_ml, dPar_c, parK_im, parK_nm, parK_sm, parK_dd, parK_md]
    refine ⟨by decide, by decide, _, rfl, by decide, by decide, fun L => ?_⟩
    rw [nWhile_c]
    have DL : ∀ v : Nat, v < p.toNat → (fnP p rs s (v : Int)).length ≤ 1001 := fun v hv => fnP_len ok s (by omega) (by omega)
    refine ⟨fun k rows ρ => ∃ (f : Nat → List Pr) (tr : List Tri) (y4 y5 y6 y7 y8 y9 y10 y11 : Sl), rows = fndD p f ∧ ρ = [.d (netT p rs), .d (.int s), .raw (.ref L), .ml (tr.map trD), y4, y5, y6, y7, y8, y9, y10, y11] ∧ [y4, y5, y6, y7, y8, y9, y10, y11].all Sl.noB = true ∧ Fnd p rs s f tr ∧ k = tr.length + 31 * leftF (fun v => fnP p rs s (v : Int)) f p.toNat ∧ k ≤ 400000, ⟨_, fun _ => [], [⟨0, 0, s⟩], .un, .un, .un, .un, .un, .un, .un, .un, rfl, rfl, rfl, Fnd.start s0 s1, rfl, ?_⟩, ?_⟩
    · have h1 := leftF_le (D := fun v => fnP p rs s (v : Int)) (f := fun _ => []) (b := 1001) (n := p.toNat) DL
      have h2 : p.toNat * 1001 ≤ 10 * 1001 := Nat.mul_le_mul_right _ (by omega)
      show 1 + 31 * _ ≤ 400000
      omega
    rintro k rows ρ ⟨f, tr, y4, y5, y6, y7, y8, y9, y10, y11, rfl, rfl, hb, hF, hk, hk1⟩
    have lt_ := fun v (hv : v < p.toNat) => hF.lt ok (v := v) (by omega)
    try simp only [dRem_c, nSeq_c, nIf_c, iteN_t, iteN_f, nOf_c, nNext_c, startD, iEn, cvs, cv, vS, Sl.dat, Sl.seq, Sl.sq, Sl.fz, dats, dSetI, dAug, wipeD, List.length_cons, List.length_nil, List.length_append, List.length_replicate, Nat.reduceAdd, Nat.reduceSub, Nat.zero_add, List.replicate_succ, List.replicate_zero, List.cons_append, List.nil_append, List.append_nil, List.set_cons_zero, List.set_cons_succ, List.set_nil, List.getElem?_cons_zero, List.getElem?_cons_succ, Option.getD_some, List.map_cons, List.map_nil, Option.bind_some, fI0_c, fI_c, fU_c, fAddX_i, fAddX_t, fAddX_s, fAddX_mm, fAddX_bm, fAddX_mb, fAddX_bb, fAddX_lm, fAddX_ll, fMulX_i, fMulX_m, fSlX_t, fSlX_m, fSlX_b, fSlX_l, fIs_n, fIs_i, fIs_b, fIs_s, fIs_l, fIs_t, fIs_m, fIs_bl, fLen_t, fLen_l, fLen_m, fLen_b, fLen_scr, fIsi_c, fEqD_c, fEqD_mm, fEqD_bm, fEqD_bb, fEqD_dm, fEq_ss, fInt_i, fInt_b, fTuple_m, fTuple_b, fTuple_t, fTuple_l, fList_m, fList_b, fList_t, fList_l, f2I_c, fRepr_c, fRepr_m, fRepr_b, fStr_c, Bool.not_true, Bool.not_false, true_and, netT, Road.dt, reduceIte, Bool.false_eq_true, decide_true, decide_false, tupK, lstK, dNext_c, dBreak_c, dCont_c, dSeq_c, dDrop_c, dRet_c, retK_d, retK_m, retK_r, dRetN_c, dIfS_c, iteS_t, iteS_f, dSet_c, setK_d, setK_m, setK_s, setK_r, dAsg_c, asgK_d, asgK_m, dFz_c, dNever_c, dRaise_c, dC_c, dOp_c, dUn_c, dTst_c, tstK_c, dTru_c, truK_n, truK_b, truK_i, truK_t, truK_l, truK_m, truK_bl, dNot_c, dAnd_c, andK_t, andK_f, dOr_c, orK_t, orK_f, dAndV_c, andV_t, andV_f, dOrV_c, orV_t, orV_f, dNotV_c, dIf_c, iteE_t, iteE_f, dChain_c, chK_t, chK_f, dNil_c, dCons_c, dCB_c, dCall_c, dCall0_c, dTup_c, dLst_c, dFor_c, dLc_c, iTp_c, tpK_c, iLst_c, lsK_d, lsK_m, iSeq_c, sqK_d, sqK_m, sqK_b, dSl_c, dNo_c, dPt_c, ptK_c, dYes_c, dBack_k, backK_c, dTupRg_c, dLstRg_c, dRg1_c, dRg2_c, rg1K_c, rg2K_c, tupRg_c, lstRg_c, dDict0_c, dDict1_c, gdName_c, gdTup_c, gdCons_c, gdNil_c, dApp_c, appK_c, apK_d, apK_m, dVar_c, varK_d, varK_m, varK_b, varK_s, varK_sc, varK_r, dNew_c, varK_mo, varK_bo, setK_mo, retK_mo, dDIn_c, dinK_i, dinK_s, dDGet_c, dDGet1_c, isBo_c, dget1K_i, dDPut_c, dputV_d, dputK_i, val_mo, dOwn0_c, dDispV_c, dispK_i, fRepT_c, fIsB_c, dM0_c, dM1_c, isStr_c, fQ0_c, fQ1_c, fSplit_c, fLenS_c, iEnSD_c, dSetdIf_c, setdB_f, enSK_m, enSK_d, dOrT_c, dAndT_c, orTK_n, dCallK_c, dCallK0_c, dCallD_c, dCallD0_c, dSaid_c, toldK_d, toldK_m, iRg1_c, rgK_c, iRg2_c, rgK2_c, iEnT_c, enK_c, iZp_c, zpK_tt, zpK_mm, zpK_ll, zpK_lm, zpK_ml, dPar_c, parK_im, parK_nm, parK_sm, parK_dd, parK_md]
    refine ⟨Nat.zero_le _, (lay_lst (n := 1) fun d hd => by
      obtain ⟨x, _, rfl⟩ := List.mem_map.mp hd
      exact lay_trD x).sh (by decide), by decide +kernel, ?_⟩
    rw [eqv_nil]
    rcases List.eq_nil_or_concat tr with rfl | ⟨tr0, x0, ec⟩
    · rw [show (([] : List Tri).map trD).isEmpty = true from rfl]
      rw [Bool.not_true, whN_f]
      refine ⟨?_, ?_⟩
      · simp only [List.all_cons, List.all_nil, Bool.and_eq_true] at hb ⊢
        exact ⟨rfl, rfl, rfl, rfl, hb⟩
      try simp only [dRem_c, nSeq_c, nIf_c, iteN_t, iteN_f, nOf_c, nNext_c, startD, iEn, cvs, cv, vS, Sl.dat, Sl.seq, Sl.sq, Sl.fz, dats, dSetI, dAug, wipeD, List.length_cons, List.length_nil, List.length_append, List.length_replicate, Nat.reduceAdd, Nat.reduceSub, Nat.zero_add, List.replicate_succ, List.replicate_zero, List.cons_append, List.nil_append, List.append_nil, List.set_cons_zero, List.set_cons_succ, List.set_nil, List.getElem?_cons_zero, List.getElem?_cons_succ, Option.getD_some, List.map_cons, List.map_nil, Option.bind_some, fI0_c, fI_c, fU_c, fAddX_i, fAddX_t, fAddX_s, fAddX_mm, fAddX_bm, fAddX_mb, fAddX_bb, fAddX_lm, fAddX_ll, fMulX_i, fMulX_m, fSlX_t, fSlX_m, fSlX_b, fSlX_l, fIs_n, fIs_i, fIs_b, fIs_s, fIs_l, fIs_t, fIs_m, fIs_bl, fLen_t, fLen_l, fLen_m, fLen_b, fLen_scr, fIsi_c, fEqD_c, fEqD_mm, fEqD_bm, fEqD_bb, fEqD_dm, fEq_ss, fInt_i, fInt_b, fTuple_m, fTuple_b, fTuple_t, fTuple_l, fList_m, fList_b, fList_t, fList_l, f2I_c, fRepr_c, fRepr_m, fRepr_b, fStr_c, Bool.not_true, Bool.not_false, true_and, netT, Road.dt, reduceIte, Bool.false_eq_true, decide_true, decide_false, tupK, lstK, dNext_c, dBreak_c, dCont_c, dSeq_c, dDrop_c, dRet_c, retK_d, retK_m, retK_r, dRetN_c, dIfS_c, iteS_t, iteS_f, dSet_c, setK_d, setK_m, setK_s, setK_r, dAsg_c, asgK_d, asgK_m, dFz_c, dNever_c, dRaise_c, dC_c, dOp_c, dUn_c, dTst_c, tstK_c, dTru_c, truK_n, truK_b, truK_i, truK_t, truK_l, truK_m, truK_bl, dNot_c, dAnd_c, andK_t, andK_f, dOr_c, orK_t, orK_f, dAndV_c, andV_t, andV_f, dOrV_c, orV_t, orV_f, dNotV_c, dIf_c, iteE_t, iteE_f, dChain_c, chK_t, chK_f, dNil_c, dCons_c, dCB_c, dCall_c, dCall0_c, dTup_c, dLst_c, dFor_c, dLc_c, iTp_c, tpK_c, iLst_c, lsK_d, lsK_m, iSeq_c, sqK_d, sqK_m, sqK_b, dSl_c, dNo_c, dPt_c, ptK_c, dYes_c, dBack_k, backK_c, dTupRg_c, dLstRg_c, dRg1_c, dRg2_c, rg1K_c, rg2K_c, tupRg_c, lstRg_c, dDict0_c, dDict1_c, gdName_c, gdTup_c, gdCons_c, gdNil_c, dApp_c, appK_c, apK_d, apK_m, dVar_c, varK_d, varK_m, varK_b, varK_s, varK_sc, varK_r, dNew_c, varK_mo, varK_bo, setK_mo, retK_mo, dDIn_c, dinK_i, dinK_s, dDGet_c, dDGet1_c, isBo_c, dget1K_i, dDPut_c, dputV_d, dputK_i, val_mo, dOwn0_c, dDispV_c, dispK_i, fRepT_c, fIsB_c, dM0_c, dM1_c, isStr_c, fQ0_c, fQ1_c, fSplit_c, fLenS_c, iEnSD_c, dSetdIf_c, setdB_f, enSK_m, enSK_d, dOrT_c, dAndT_c, orTK_n, dCallK_c, dCallK0_c, dCallD_c, dCallD0_c, dSaid_c, toldK_d, toldK_m, iRg1_c, rgK_c, iRg2_c, rgK2_c, iEnT_c, enK_c, iZp_c, zpK_tt, zpK_mm, zpK_ll, zpK_lm, zpK_ml, dPar_c, parK_im, parK_nm, parK_sm, parK_dd, parK_md]
      rw [show (fndD p f).map PyData.list = (List.range p.toNat).map fun v => PyData.list (pairsD (f v)) from by unfold fndD; rw [List.map_map]; rfl]
      refine lcD_each (α := Nat) (fun v => .list (pairsD (f v))) (fun v => .tuple (pairsD (f v))) (List.range p.toNat) (fun v hv acc N' ha hN' => ?_) (by rw [List.length_range]; exact Nat.le_trans (show p.toNat ≤ 10 by omega) (by decide)) ?_
      · have hv := List.mem_range.mp hv
        unfold lcStep
        try simp only [dRem_c, nSeq_c, nIf_c, iteN_t, iteN_f, nOf_c, nNext_c, startD, iEn, cvs, cv, vS, Sl.dat, Sl.seq, Sl.sq, Sl.fz, dats, dSetI, dAug, wipeD, List.length_cons, List.length_nil, List.length_append, List.length_replicate, Nat.reduceAdd, Nat.reduceSub, Nat.zero_add, List.replicate_succ, List.replicate_zero, List.cons_append, List.nil_append, List.append_nil, List.set_cons_zero, List.set_cons_succ, List.set_nil, List.getElem?_cons_zero, List.getElem?_cons_succ, Option.getD_some, List.map_cons, List.map_nil, Option.bind_some, fI0_c, fI_c, fU_c, fAddX_i, fAddX_t, fAddX_s, fAddX_mm, fAddX_bm, fAddX_mb, fAddX_bb, fAddX_lm, fAddX_ll, fMulX_i, fMulX_m, fSlX_t, fSlX_m, fSlX_b, fSlX_l, fIs_n, fIs_i, fIs_b, fIs_s, fIs_l, fIs_t, fIs_m, fIs_bl, fLen_t, fLen_l, fLen_m, fLen_b, fLen_scr, fIsi_c, fEqD_c, fEqD_mm, fEqD_bm, fEqD_bb, fEqD_dm, fEq_ss, fInt_i, fInt_b, fTuple_m, fTuple_b, fTuple_t, fTuple_l, fList_m, fList_b, fList_t, fList_l, f2I_c, fRepr_c, fRepr_m, fRepr_b, fStr_c, Bool.not_true, Bool.not_false, true_and, netT, Road.dt, reduceIte, Bool.false_eq_true, decide_true, decide_false, tupK, lstK, dNext_c, dBreak_c, dCont_c, dSeq_c, dDrop_c, dRet_c, retK_d, retK_m, retK_r, dRetN_c, dIfS_c, iteS_t, iteS_f, dSet_c, setK_d, setK_m, setK_s, setK_r, dAsg_c, asgK_d, asgK_m, dFz_c, dNever_c, dRaise_c, dC_c, dOp_c, dUn_c, dTst_c, tstK_c, dTru_c, truK_n, truK_b, truK_i, truK_t, truK_l, truK_m, truK_bl, dNot_c, dAnd_c, andK_t, andK_f, dOr_c, orK_t, orK_f, dAndV_c, andV_t, andV_f, dOrV_c, orV_t, orV_f, dNotV_c, dIf_c, iteE_t, iteE_f, dChain_c, chK_t, chK_f, dNil_c, dCons_c, dCB_c, dCall_c, dCall0_c, dTup_c, dLst_c, dFor_c, dLc_c, iTp_c, tpK_c, iLst_c, lsK_d, lsK_m, iSeq_c, sqK_d, sqK_m, sqK_b, dSl_c, dNo_c, dPt_c, ptK_c, dYes_c, dBack_k, backK_c, dTupRg_c, dLstRg_c, dRg1_c, dRg2_c, rg1K_c, rg2K_c, tupRg_c, lstRg_c, dDict0_c, dDict1_c, gdName_c, gdTup_c, gdCons_c, gdNil_c, dApp_c, appK_c, apK_d, apK_m, dVar_c, varK_d, varK_m, varK_b, varK_s, varK_sc, varK_r, dNew_c, varK_mo, varK_bo, setK_mo, retK_mo, dDIn_c, dinK_i, dinK_s, dDGet_c, dDGet1_c, isBo_c, dget1K_i, dDPut_c, dputV_d, dputK_i, val_mo, dOwn0_c, dDispV_c, dispK_i, fRepT_c, fIsB_c, dM0_c, dM1_c, isStr_c, fQ0_c, fQ1_c, fSplit_c, fLenS_c, iEnSD_c, dSetdIf_c, setdB_f, enSK_m, enSK_d, dOrT_c, dAndT_c, orTK_n, dCallK_c, dCallK0_c, dCallD_c, dCallD0_c, dSaid_c, toldK_d, toldK_m, iRg1_c, rgK_c, iRg2_c, rgK2_c, iEnT_c, enK_c, iZp_c, zpK_tt, zpK_mm, zpK_ll, zpK_lm, zpK_ml, dPar_c, parK_im, parK_nm, parK_sm, parK_dd, parK_md]
        exact ⟨ha, hN'⟩
      · have ef : ((List.range p.toNat).map fun v => PyData.tuple (pairsD (f v))) = (List.range p.toNat).map fun (v : Nat) => PyData.tuple ((fnP p rs s (v : Int)).map prD) := List.map_congr_left fun v hv => by
          have hv := List.mem_range.mp hv
          rw [hF.fin ok s0 s1 (v := v) (by omega)]
          rfl
        rw [ef]
        exact q
    have ne : tr ≠ [] := fun z => by
      rw [z] at ec
      exact absurd ec.symm (by simp)
    have nem : (tr.map trD).isEmpty = false := by
      cases tr with
      | nil => exact absurd rfl ne
      | cons _ _ => rfl
    rw [nem, Bool.not_false, whN_t]
    try simp only [dRem_c, nSeq_c, nIf_c, iteN_t, iteN_f, nOf_c, nNext_c, startD, iEn, cvs, cv, vS, Sl.dat, Sl.seq, Sl.sq, Sl.fz, dats, dSetI, dAug, wipeD, List.length_cons, List.length_nil, List.length_append, List.length_replicate, Nat.reduceAdd, Nat.reduceSub, Nat.zero_add, List.replicate_succ, List.replicate_zero, List.cons_append, List.nil_append, List.append_nil, List.set_cons_zero, List.set_cons_succ, List.set_nil, List.getElem?_cons_zero, List.getElem?_cons_succ, Option.getD_some, List.map_cons, List.map_nil, Option.bind_some, fI0_c, fI_c, fU_c, fAddX_i, fAddX_t, fAddX_s, fAddX_mm, fAddX_bm, fAddX_mb, fAddX_bb, fAddX_lm, fAddX_ll, fMulX_i, fMulX_m, fSlX_t, fSlX_m, fSlX_b, fSlX_l, fIs_n, fIs_i, fIs_b, fIs_s, fIs_l, fIs_t, fIs_m, fIs_bl, fLen_t, fLen_l, fLen_m, fLen_b, fLen_scr, fIsi_c, fEqD_c, fEqD_mm, fEqD_bm, fEqD_bb, fEqD_dm, fEq_ss, fInt_i, fInt_b, fTuple_m, fTuple_b, fTuple_t, fTuple_l, fList_m, fList_b, fList_t, fList_l, f2I_c, fRepr_c, fRepr_m, fRepr_b, fStr_c, Bool.not_true, Bool.not_false, true_and, netT, Road.dt, reduceIte, Bool.false_eq_true, decide_true, decide_false, tupK, lstK, dNext_c, dBreak_c, dCont_c, dSeq_c, dDrop_c, dRet_c, retK_d, retK_m, retK_r, dRetN_c, dIfS_c, iteS_t, iteS_f, dSet_c, setK_d, setK_m, setK_s, setK_r, dAsg_c, asgK_d, asgK_m, dFz_c, dNever_c, dRaise_c, dC_c, dOp_c, dUn_c, dTst_c, tstK_c, dTru_c, truK_n, truK_b, truK_i, truK_t, truK_l, truK_m, truK_bl, dNot_c, dAnd_c, andK_t, andK_f, dOr_c, orK_t, orK_f, dAndV_c, andV_t, andV_f, dOrV_c, orV_t, orV_f, dNotV_c, dIf_c, iteE_t, iteE_f, dChain_c, chK_t, chK_f, dNil_c, dCons_c, dCB_c, dCall_c, dCall0_c, dTup_c, dLst_c, dFor_c, dLc_c, iTp_c, tpK_c, iLst_c, lsK_d, lsK_m, iSeq_c, sqK_d, sqK_m, sqK_b, dSl_c, dNo_c, dPt_c, ptK_c, dYes_c, dBack_k, backK_c, dTupRg_c, dLstRg_c, dRg1_c, dRg2_c, rg1K_c, rg2K_c, tupRg_c, lstRg_c, dDict0_c, dDict1_c, gdName_c, gdTup_c, gdCons_c, gdNil_c, dApp_c, appK_c, apK_d, apK_m, dVar_c, varK_d, varK_m, varK_b, varK_s, varK_sc, varK_r, dNew_c, varK_mo, varK_bo, setK_mo, retK_mo, dDIn_c, dinK_i, dinK_s, dDGet_c, dDGet1_c, isBo_c, dget1K_i, dDPut_c, dputV_d, dputK_i, val_mo, dOwn0_c, dDispV_c, dispK_i, fRepT_c, fIsB_c, dM0_c, dM1_c, isStr_c, fQ0_c, fQ1_c, fSplit_c, fLenS_c, iEnSD_c, dSetdIf_c, setdB_f, enSK_m, enSK_d, dOrT_c, dAndT_c, orTK_n, dCallK_c, dCallK0_c, dCallD_c, dCallD0_c, dSaid_c, toldK_d, toldK_m, iRg1_c, rgK_c, iRg2_c, rgK2_c, iEnT_c, enK_c, iZp_c, zpK_tt, zpK_mm, zpK_ll, zpK_lm, zpK_ml, dPar_c, parK_im, parK_nm, parK_sm, parK_dd, parK_md]
    refine fMin_trs ne fun m hm hle => ?_
    rw [show trD m = .tuple [.int m.c, .int m.t, .int m.v] from rfl]
    obtain ⟨v0, v1, hw⟩ := hF.snd m hm
    try simp only [dRem_c, nSeq_c, nIf_c, iteN_t, iteN_f, nOf_c, nNext_c, startD, iEn, cvs, cv, vS, Sl.dat, Sl.seq, Sl.sq, Sl.fz, dats, dSetI, dAug, wipeD, List.length_cons, List.length_nil, List.length_append, List.length_replicate, Nat.reduceAdd, Nat.reduceSub, Nat.zero_add, List.replicate_succ, List.replicate_zero, List.cons_append, List.nil_append, List.append_nil, List.set_cons_zero, List.set_cons_succ, List.set_nil, List.getElem?_cons_zero, List.getElem?_cons_succ, Option.getD_some, List.map_cons, List.map_nil, Option.bind_some, fI0_c, fI_c, fU_c, fAddX_i, fAddX_t, fAddX_s, fAddX_mm, fAddX_bm, fAddX_mb, fAddX_bb, fAddX_lm, fAddX_ll, fMulX_i, fMulX_m, fSlX_t, fSlX_m, fSlX_b, fSlX_l, fIs_n, fIs_i, fIs_b, fIs_s, fIs_l, fIs_t, fIs_m, fIs_bl, fLen_t, fLen_l, fLen_m, fLen_b, fLen_scr, fIsi_c, fEqD_c, fEqD_mm, fEqD_bm, fEqD_bb, fEqD_dm, fEq_ss, fInt_i, fInt_b, fTuple_m, fTuple_b, fTuple_t, fTuple_l, fList_m, fList_b, fList_t, fList_l, f2I_c, fRepr_c, fRepr_m, fRepr_b, fStr_c, Bool.not_true, Bool.not_false, true_and, netT, Road.dt, reduceIte, Bool.false_eq_true, decide_true, decide_false, tupK, lstK, dNext_c, dBreak_c, dCont_c, dSeq_c, dDrop_c, dRet_c, retK_d, retK_m, retK_r, dRetN_c, dIfS_c, iteS_t, iteS_f, dSet_c, setK_d, setK_m, setK_s, setK_r, dAsg_c, asgK_d, asgK_m, dFz_c, dNever_c, dRaise_c, dC_c, dOp_c, dUn_c, dTst_c, tstK_c, dTru_c, truK_n, truK_b, truK_i, truK_t, truK_l, truK_m, truK_bl, dNot_c, dAnd_c, andK_t, andK_f, dOr_c, orK_t, orK_f, dAndV_c, andV_t, andV_f, dOrV_c, orV_t, orV_f, dNotV_c, dIf_c, iteE_t, iteE_f, dChain_c, chK_t, chK_f, dNil_c, dCons_c, dCB_c, dCall_c, dCall0_c, dTup_c, dLst_c, dFor_c, dLc_c, iTp_c, tpK_c, iLst_c, lsK_d, lsK_m, iSeq_c, sqK_d, sqK_m, sqK_b, dSl_c, dNo_c, dPt_c, ptK_c, dYes_c, dBack_k, backK_c, dTupRg_c, dLstRg_c, dRg1_c, dRg2_c, rg1K_c, rg2K_c, tupRg_c, lstRg_c, dDict0_c, dDict1_c, gdName_c, gdTup_c, gdCons_c, gdNil_c, dApp_c, appK_c, apK_d, apK_m, dVar_c, varK_d, varK_m, varK_b, varK_s, varK_sc, varK_r, dNew_c, varK_mo, varK_bo, setK_mo, retK_mo, dDIn_c, dinK_i, dinK_s, dDGet_c, dDGet1_c, isBo_c, dget1K_i, dDPut_c, dputV_d, dputK_i, val_mo, dOwn0_c, dDispV_c, dispK_i, fRepT_c, fIsB_c, dM0_c, dM1_c, isStr_c, fQ0_c, fQ1_c, fSplit_c, fLenS_c, iEnSD_c, dSetdIf_c, setdB_f, enSK_m, enSK_d, dOrT_c, dAndT_c, orTK_n, dCallK_c, dCallK0_c, dCallD_c, dCallD0_c, dSaid_c, toldK_d, toldK_m, iRg1_c, rgK_c, iRg2_c, rgK2_c, iEnT_c, enK_c, iZp_c, zpK_tt, zpK_mm, zpK_ll, zpK_lm, zpK_ml, dPar_c, parK_im, parK_nm, parK_sm, parK_dd, parK_md]
    refine ⟨by decide, trD m, rfl, (lay_trD m).c, (lay_all (n := 1) fun d hd => by
      obtain ⟨x, _, rfl⟩ := List.mem_map.mp hd
      exact lay_trD x).1, Nat.le_trans (lay_trD m).k (by decide), tr_there hm, ?_⟩
    rw [tr_gone]
    try simp only [dRem_c, nSeq_c, nIf_c, iteN_t, iteN_f, nOf_c, nNext_c, startD, iEn, cvs, cv, vS, Sl.dat, Sl.seq, Sl.sq, Sl.fz, dats, dSetI, dAug, wipeD, List.length_cons, List.length_nil, List.length_append, List.length_replicate, Nat.reduceAdd, Nat.reduceSub, Nat.zero_add, List.replicate_succ, List.replicate_zero, List.cons_append, List.nil_append, List.append_nil, List.set_cons_zero, List.set_cons_succ, List.set_nil, List.getElem?_cons_zero, List.getElem?_cons_succ, Option.getD_some, List.map_cons, List.map_nil, Option.bind_some, fI0_c, fI_c, fU_c, fAddX_i, fAddX_t, fAddX_s, fAddX_mm, fAddX_bm, fAddX_mb, fAddX_bb, fAddX_lm, fAddX_ll, fMulX_i, fMulX_m, fSlX_t, fSlX_m, fSlX_b, fSlX_l, fIs_n, fIs_i, fIs_b, fIs_s, fIs_l, fIs_t, fIs_m, fIs_bl, fLen_t, fLen_l, fLen_m, fLen_b, fLen_scr, fIsi_c, fEqD_c, fEqD_mm, fEqD_bm, fEqD_bb, fEqD_dm, fEq_ss, fInt_i, fInt_b, fTuple_m, fTuple_b, fTuple_t, fTuple_l, fList_m, fList_b, fList_t, fList_l, f2I_c, fRepr_c, fRepr_m, fRepr_b, fStr_c, Bool.not_true, Bool.not_false, true_and, netT, Road.dt, reduceIte, Bool.false_eq_true, decide_true, decide_false, tupK, lstK, dNext_c, dBreak_c, dCont_c, dSeq_c, dDrop_c, dRet_c, retK_d, retK_m, retK_r, dRetN_c, dIfS_c, iteS_t, iteS_f, dSet_c, setK_d, setK_m, setK_s, setK_r, dAsg_c, asgK_d, asgK_m, dFz_c, dNever_c, dRaise_c, dC_c, dOp_c, dUn_c, dTst_c, tstK_c, dTru_c, truK_n, truK_b, truK_i, truK_t, truK_l, truK_m, truK_bl, dNot_c, dAnd_c, andK_t, andK_f, dOr_c, orK_t, orK_f, dAndV_c, andV_t, andV_f, dOrV_c, orV_t, orV_f, dNotV_c, dIf_c, iteE_t, iteE_f, dChain_c, chK_t, chK_f, dNil_c, dCons_c, dCB_c, dCall_c, dCall0_c, dTup_c, dLst_c, dFor_c, dLc_c, iTp_c, tpK_c, iLst_c, lsK_d, lsK_m, iSeq_c, sqK_d, sqK_m, sqK_b, dSl_c, dNo_c, dPt_c, ptK_c, dYes_c, dBack_k, backK_c, dTupRg_c, dLstRg_c, dRg1_c, dRg2_c, rg1K_c, rg2K_c, tupRg_c, lstRg_c, dDict0_c, dDict1_c, gdName_c, gdTup_c, gdCons_c, gdNil_c, dApp_c, appK_c, apK_d, apK_m, dVar_c, varK_d, varK_m, varK_b, varK_s, varK_sc, varK_r, dNew_c, varK_mo, varK_bo, setK_mo, retK_mo, dDIn_c, dinK_i, dinK_s, dDGet_c, dDGet1_c, isBo_c, dget1K_i, dDPut_c, dputV_d, dputK_i, val_mo, dOwn0_c, dDispV_c, dispK_i, fRepT_c, fIsB_c, dM0_c, dM1_c, isStr_c, fQ0_c, fQ1_c, fSplit_c, fLenS_c, iEnSD_c, dSetdIf_c, setdB_f, enSK_m, enSK_d, dOrT_c, dAndT_c, orTK_n, dCallK_c, dCallK0_c, dCallD_c, dCallD0_c, dSaid_c, toldK_d, toldK_m, iRg1_c, rgK_c, iRg2_c, rgK2_c, iEnT_c, enK_c, iZp_c, zpK_tt, zpK_mm, zpK_ll, zpK_lm, zpK_ml, dPar_c, parK_im, parK_nm, parK_sm, parK_dd, parK_md]
    refine fIxB_pos v0 (d := .list (pairsD (f m.v.toNat))) (by rw [List.getElem?_map, fndD_get (by omega)]; rfl) ?_
    try simp only [dRem_c, nSeq_c, nIf_c, iteN_t, iteN_f, nOf_c, nNext_c, startD, iEn, cvs, cv, vS, Sl.dat, Sl.seq, Sl.sq, Sl.fz, dats, dSetI, dAug, wipeD, List.length_cons, List.length_nil, List.length_append, List.length_replicate, Nat.reduceAdd, Nat.reduceSub, Nat.zero_add, List.replicate_succ, List.replicate_zero, List.cons_append, List.nil_append, List.append_nil, List.set_cons_zero, List.set_cons_succ, List.set_nil, List.getElem?_cons_zero, List.getElem?_cons_succ, Option.getD_some, List.map_cons, List.map_nil, Option.bind_some, fI0_c, fI_c, fU_c, fAddX_i, fAddX_t, fAddX_s, fAddX_mm, fAddX_bm, fAddX_mb, fAddX_bb, fAddX_lm, fAddX_ll, fMulX_i, fMulX_m, fSlX_t, fSlX_m, fSlX_b, fSlX_l, fIs_n, fIs_i, fIs_b, fIs_s, fIs_l, fIs_t, fIs_m, fIs_bl, fLen_t, fLen_l, fLen_m, fLen_b, fLen_scr, fIsi_c, fEqD_c, fEqD_mm, fEqD_bm, fEqD_bb, fEqD_dm, fEq_ss, fInt_i, fInt_b, fTuple_m, fTuple_b, fTuple_t, fTuple_l, fList_m, fList_b, fList_t, fList_l, f2I_c, fRepr_c, fRepr_m, fRepr_b, fStr_c, Bool.not_true, Bool.not_false, true_and, netT, Road.dt, reduceIte, Bool.false_eq_true, decide_true, decide_false, tupK, lstK, dNext_c, dBreak_c, dCont_c, dSeq_c, dDrop_c, dRet_c, retK_d, retK_m, retK_r, dRetN_c, dIfS_c, iteS_t, iteS_f, dSet_c, setK_d, setK_m, setK_s, setK_r, dAsg_c, asgK_d, asgK_m, dFz_c, dNever_c, dRaise_c, dC_c, dOp_c, dUn_c, dTst_c, tstK_c, dTru_c, truK_n, truK_b, truK_i, truK_t, truK_l, truK_m, truK_bl, dNot_c, dAnd_c, andK_t, andK_f, dOr_c, orK_t, orK_f, dAndV_c, andV_t, andV_f, dOrV_c, orV_t, orV_f, dNotV_c, dIf_c, iteE_t, iteE_f, dChain_c, chK_t, chK_f, dNil_c, dCons_c, dCB_c, dCall_c, dCall0_c, dTup_c, dLst_c, dFor_c, dLc_c, iTp_c, tpK_c, iLst_c, lsK_d, lsK_m, iSeq_c, sqK_d, sqK_m, sqK_b, dSl_c, dNo_c, dPt_c, ptK_c, dYes_c, dBack_k, backK_c, dTupRg_c, dLstRg_c, dRg1_c, dRg2_c, rg1K_c, rg2K_c, tupRg_c, lstRg_c, dDict0_c, dDict1_c, gdName_c, gdTup_c, gdCons_c, gdNil_c, dApp_c, appK_c, apK_d, apK_m, dVar_c, varK_d, varK_m, varK_b, varK_s, varK_sc, varK_r, dNew_c, varK_mo, varK_bo, setK_mo, retK_mo, dDIn_c, dinK_i, dinK_s, dDGet_c, dDGet1_c, isBo_c, dget1K_i, dDPut_c, dputV_d, dputK_i, val_mo, dOwn0_c, dDispV_c, dispK_i, fRepT_c, fIsB_c, dM0_c, dM1_c, isStr_c, fQ0_c, fQ1_c, fSplit_c, fLenS_c, iEnSD_c, dSetdIf_c, setdB_f, enSK_m, enSK_d, dOrT_c, dAndT_c, orTK_n, dCallK_c, dCallK0_c, dCallD_c, dCallD0_c, dSaid_c, toldK_d, toldK_m, iRg1_c, rgK_c, iRg2_c, rgK2_c, iEnT_c, enK_c, iZp_c, zpK_tt, zpK_mm, zpK_ll, zpK_lm, zpK_ml, dPar_c, parK_im, parK_nm, parK_sm, parK_dd, parK_md]
    refine lcD_those prD prD (fun x => decide (x.1 ≤ m.c) && decide (x.2 ≤ m.t)) (f m.v.toNat) (fun x hx acc N ha hT hF => ?_) ?_ ?_
    · unfold lcStep prD
      try simp only [dRem_c, nSeq_c, nIf_c, iteN_t, iteN_f, nOf_c, nNext_c, startD, iEn, cvs, cv, vS, Sl.dat, Sl.seq, Sl.sq, Sl.fz, dats, dSetI, dAug, wipeD, List.length_cons, List.length_nil, List.length_append, List.length_replicate, Nat.reduceAdd, Nat.reduceSub, Nat.zero_add, List.replicate_succ, List.replicate_zero, List.cons_append, List.nil_append, List.append_nil, List.set_cons_zero, List.set_cons_succ, List.set_nil, List.getElem?_cons_zero, List.getElem?_cons_succ, Option.getD_some, List.map_cons, List.map_nil, Option.bind_some, fI0_c, fI_c, fU_c, fAddX_i, fAddX_t, fAddX_s, fAddX_mm, fAddX_bm, fAddX_mb, fAddX_bb, fAddX_lm, fAddX_ll, fMulX_i, fMulX_m, fSlX_t, fSlX_m, fSlX_b, fSlX_l, fIs_n, fIs_i, fIs_b, fIs_s, fIs_l, fIs_t, fIs_m, fIs_bl, fLen_t, fLen_l, fLen_m, fLen_b, fLen_scr, fIsi_c, fEqD_c, fEqD_mm, fEqD_bm, fEqD_bb, fEqD_dm, fEq_ss, fInt_i, fInt_b, fTuple_m, fTuple_b, fTuple_t, fTuple_l, fList_m, fList_b, fList_t, fList_l, f2I_c, fRepr_c, fRepr_m, fRepr_b, fStr_c, Bool.not_true, Bool.not_false, true_and, netT, Road.dt, reduceIte, Bool.false_eq_true, decide_true, decide_false, tupK, lstK, dNext_c, dBreak_c, dCont_c, dSeq_c, dDrop_c, dRet_c, retK_d, retK_m, retK_r, dRetN_c, dIfS_c, iteS_t, iteS_f, dSet_c, setK_d, setK_m, setK_s, setK_r, dAsg_c, asgK_d, asgK_m, dFz_c, dNever_c, dRaise_c, dC_c, dOp_c, dUn_c, dTst_c, tstK_c, dTru_c, truK_n, truK_b, truK_i, truK_t, truK_l, truK_m, truK_bl, dNot_c, dAnd_c, andK_t, andK_f, dOr_c, orK_t, orK_f, dAndV_c, andV_t, andV_f, dOrV_c, orV_t, orV_f, dNotV_c, dIf_c, iteE_t, iteE_f, dChain_c, chK_t, chK_f, dNil_c, dCons_c, dCB_c, dCall_c, dCall0_c, dTup_c, dLst_c, dFor_c, dLc_c, iTp_c, tpK_c, iLst_c, lsK_d, lsK_m, iSeq_c, sqK_d, sqK_m, sqK_b, dSl_c, dNo_c, dPt_c, ptK_c, dYes_c, dBack_k, backK_c, dTupRg_c, dLstRg_c, dRg1_c, dRg2_c, rg1K_c, rg2K_c, tupRg_c, lstRg_c, dDict0_c, dDict1_c, gdName_c, gdTup_c, gdCons_c, gdNil_c, dApp_c, appK_c, apK_d, apK_m, dVar_c, varK_d, varK_m, varK_b, varK_s, varK_sc, varK_r, dNew_c, varK_mo, varK_bo, setK_mo, retK_mo, dDIn_c, dinK_i, dinK_s, dDGet_c, dDGet1_c, isBo_c, dget1K_i, dDPut_c, dputV_d, dputK_i, val_mo, dOwn0_c, dDispV_c, dispK_i, fRepT_c, fIsB_c, dM0_c, dM1_c, isStr_c, fQ0_c, fQ1_c, fSplit_c, fLenS_c, iEnSD_c, dSetdIf_c, setdB_f, enSK_m, enSK_d, dOrT_c, dAndT_c, orTK_n, dCallK_c, dCallK0_c, dCallD_c, dCallD0_c, dSaid_c, toldK_d, toldK_m, iRg1_c, rgK_c, iRg2_c, rgK2_c, iEnT_c, enK_c, iZp_c, zpK_tt, zpK_mm, zpK_ll, zpK_lm, zpK_ml, dPar_c, parK_im, parK_nm, parK_sm, parK_dd, parK_md]
      refine fIx_at (n := 0) rfl ?_
      try simp only [dRem_c, nSeq_c, nIf_c, iteN_t, iteN_f, nOf_c, nNext_c, startD, iEn, cvs, cv, vS, Sl.dat, Sl.seq, Sl.sq, Sl.fz, dats, dSetI, dAug, wipeD, List.length_cons, List.length_nil, List.length_append, List.length_replicate, Nat.reduceAdd, Nat.reduceSub, Nat.zero_add, List.replicate_succ, List.replicate_zero, List.cons_append, List.nil_append, List.append_nil, List.set_cons_zero, List.set_cons_succ, List.set_nil, List.getElem?_cons_zero, List.getElem?_cons_succ, Option.getD_some, List.map_cons, List.map_nil, Option.bind_some, fI0_c, fI_c, fU_c, fAddX_i, fAddX_t, fAddX_s, fAddX_mm, fAddX_bm, fAddX_mb, fAddX_bb, fAddX_lm, fAddX_ll, fMulX_i, fMulX_m, fSlX_t, fSlX_m, fSlX_b, fSlX_l, fIs_n, fIs_i, fIs_b, fIs_s, fIs_l, fIs_t, fIs_m, fIs_bl, fLen_t, fLen_l, fLen_m, fLen_b, fLen_scr, fIsi_c, fEqD_c, fEqD_mm, fEqD_bm, fEqD_bb, fEqD_dm, fEq_ss, fInt_i, fInt_b, fTuple_m, fTuple_b, fTuple_t, fTuple_l, fList_m, fList_b, fList_t, fList_l, f2I_c, fRepr_c, fRepr_m, fRepr_b, fStr_c, Bool.not_true, Bool.not_false, true_and, netT, Road.dt, reduceIte, Bool.false_eq_true, decide_true, decide_false, tupK, lstK, dNext_c, dBreak_c, dCont_c, dSeq_c, dDrop_c, dRet_c, retK_d, retK_m, retK_r, dRetN_c, dIfS_c, iteS_t, iteS_f, dSet_c, setK_d, setK_m, setK_s, setK_r, dAsg_c, asgK_d, asgK_m, dFz_c, dNever_c, dRaise_c, dC_c, dOp_c, dUn_c, dTst_c, tstK_c, dTru_c, truK_n, truK_b, truK_i, truK_t, truK_l, truK_m, truK_bl, dNot_c, dAnd_c, andK_t, andK_f, dOr_c, orK_t, orK_f, dAndV_c, andV_t, andV_f, dOrV_c, orV_t, orV_f, dNotV_c, dIf_c, iteE_t, iteE_f, dChain_c, chK_t, chK_f, dNil_c, dCons_c, dCB_c, dCall_c, dCall0_c, dTup_c, dLst_c, dFor_c, dLc_c, iTp_c, tpK_c, iLst_c, lsK_d, lsK_m, iSeq_c, sqK_d, sqK_m, sqK_b, dSl_c, dNo_c, dPt_c, ptK_c, dYes_c, dBack_k, backK_c, dTupRg_c, dLstRg_c, dRg1_c, dRg2_c, rg1K_c, rg2K_c, tupRg_c, lstRg_c, dDict0_c, dDict1_c, gdName_c, gdTup_c, gdCons_c, gdNil_c, dApp_c, appK_c, apK_d, apK_m, dVar_c, varK_d, varK_m, varK_b, varK_s, varK_sc, varK_r, dNew_c, varK_mo, varK_bo, setK_mo, retK_mo, dDIn_c, dinK_i, dinK_s, dDGet_c, dDGet1_c, isBo_c, dget1K_i, dDPut_c, dputV_d, dputK_i, val_mo, dOwn0_c, dDispV_c, dispK_i, fRepT_c, fIsB_c, dM0_c, dM1_c, isStr_c, fQ0_c, fQ1_c, fSplit_c, fLenS_c, iEnSD_c, dSetdIf_c, setdB_f, enSK_m, enSK_d, dOrT_c, dAndT_c, orTK_n, dCallK_c, dCallK0_c, dCallD_c, dCallD0_c, dSaid_c, toldK_d, toldK_m, iRg1_c, rgK_c, iRg2_c, rgK2_c, iEnT_c, enK_c, iZp_c, zpK_tt, zpK_mm, zpK_ll, zpK_lm, zpK_ml, dPar_c, parK_im, parK_nm, parK_sm, parK_dd, parK_md]
      by_cases h1 : x.1 ≤ m.c
      · rw [decide_eq_true h1] at hT hF ⊢
        try simp only [dRem_c, nSeq_c, nIf_c, iteN_t, iteN_f, nOf_c, nNext_c, startD, iEn, cvs, cv, vS, Sl.dat, Sl.seq, Sl.sq, Sl.fz, dats, dSetI, dAug, wipeD, List.length_cons, List.length_nil, List.length_append, List.length_replicate, Nat.reduceAdd, Nat.reduceSub, Nat.zero_add, List.replicate_succ, List.replicate_zero, List.cons_append, List.nil_append, List.append_nil, List.set_cons_zero, List.set_cons_succ, List.set_nil, List.getElem?_cons_zero, List.getElem?_cons_succ, Option.getD_some, List.map_cons, List.map_nil, Option.bind_some, fI0_c, fI_c, fU_c, fAddX_i, fAddX_t, fAddX_s, fAddX_mm, fAddX_bm, fAddX_mb, fAddX_bb, fAddX_lm, fAddX_ll, fMulX_i, fMulX_m, fSlX_t, fSlX_m, fSlX_b, fSlX_l, fIs_n, fIs_i, fIs_b, fIs_s, fIs_l, fIs_t, fIs_m, fIs_bl, fLen_t, fLen_l, fLen_m, fLen_b, fLen_scr, fIsi_c, fEqD_c, fEqD_mm, fEqD_bm, fEqD_bb, fEqD_dm, fEq_ss, fInt_i, fInt_b, fTuple_m, fTuple_b, fTuple_t, fTuple_l, fList_m, fList_b, fList_t, fList_l, f2I_c, fRepr_c, fRepr_m, fRepr_b, fStr_c, Bool.not_true, Bool.not_false, true_and, netT, Road.dt, reduceIte, Bool.false_eq_true, decide_true, decide_false, tupK, lstK, dNext_c, dBreak_c, dCont_c, dSeq_c, dDrop_c, dRet_c, retK_d, retK_m, retK_r, dRetN_c, dIfS_c, iteS_t, iteS_f, dSet_c, setK_d, setK_m, setK_s, setK_r, dAsg_c, asgK_d, asgK_m, dFz_c, dNever_c, dRaise_c, dC_c, dOp_c, dUn_c, dTst_c, tstK_c, dTru_c, truK_n, truK_b, truK_i, truK_t, truK_l, truK_m, truK_bl, dNot_c, dAnd_c, andK_t, andK_f, dOr_c, orK_t, orK_f, dAndV_c, andV_t, andV_f, dOrV_c, orV_t, orV_f, dNotV_c, dIf_c, iteE_t, iteE_f, dChain_c, chK_t, chK_f, dNil_c, dCons_c, dCB_c, dCall_c, dCall0_c, dTup_c, dLst_c, dFor_c, dLc_c, iTp_c, tpK_c, iLst_c, lsK_d, lsK_m, iSeq_c, sqK_d, sqK_m, sqK_b, dSl_c, dNo_c, dPt_c, ptK_c, dYes_c, dBack_k, backK_c, dTupRg_c, dLstRg_c, dRg1_c, dRg2_c, rg1K_c, rg2K_c, tupRg_c, lstRg_c, dDict0_c, dDict1_c, gdName_c, gdTup_c, gdCons_c, gdNil_c, dApp_c, appK_c, apK_d, apK_m, dVar_c, varK_d, varK_m, varK_b, varK_s, varK_sc, varK_r, dNew_c, varK_mo, varK_bo, setK_mo, retK_mo, dDIn_c, dinK_i, dinK_s, dDGet_c, dDGet1_c, isBo_c, dget1K_i, dDPut_c, dputV_d, dputK_i, val_mo, dOwn0_c, dDispV_c, dispK_i, fRepT_c, fIsB_c, dM0_c, dM1_c, isStr_c, fQ0_c, fQ1_c, fSplit_c, fLenS_c, iEnSD_c, dSetdIf_c, setdB_f, enSK_m, enSK_d, dOrT_c, dAndT_c, orTK_n, dCallK_c, dCallK0_c, dCallD_c, dCallD0_c, dSaid_c, toldK_d, toldK_m, iRg1_c, rgK_c, iRg2_c, rgK2_c, iEnT_c, enK_c, iZp_c, zpK_tt, zpK_mm, zpK_ll, zpK_lm, zpK_ml, dPar_c, parK_im, parK_nm, parK_sm, parK_dd, parK_md]
        refine fIx_at (n := 1) rfl ?_
        try simp only [dRem_c, nSeq_c, nIf_c, iteN_t, iteN_f, nOf_c, nNext_c, startD, iEn, cvs, cv, vS, Sl.dat, Sl.seq, Sl.sq, Sl.fz, dats, dSetI, dAug, wipeD, List.length_cons, List.length_nil, List.length_append, List.length_replicate, Nat.reduceAdd, Nat.reduceSub, Nat.zero_add, List.replicate_succ, List.replicate_zero, List.cons_append, List.nil_append, List.append_nil, List.set_cons_zero, List.set_cons_succ, List.set_nil, List.getElem?_cons_zero, List.getElem?_cons_succ, Option.getD_some, List.map_cons, List.map_nil, Option.bind_some, fI0_c, fI_c, fU_c, fAddX_i, fAddX_t, fAddX_s, fAddX_mm, fAddX_bm, fAddX_mb, fAddX_bb, fAddX_lm, fAddX_ll, fMulX_i, fMulX_m, fSlX_t, fSlX_m, fSlX_b, fSlX_l, fIs_n, fIs_i, fIs_b, fIs_s, fIs_l, fIs_t, fIs_m, fIs_bl, fLen_t, fLen_l, fLen_m, fLen_b, fLen_scr, fIsi_c, fEqD_c, fEqD_mm, fEqD_bm, fEqD_bb, fEqD_dm, fEq_ss, fInt_i, fInt_b, fTuple_m, fTuple_b, fTuple_t, fTuple_l, fList_m, fList_b, fList_t, fList_l, f2I_c, fRepr_c, fRepr_m, fRepr_b, fStr_c, Bool.not_true, Bool.not_false, true_and, netT, Road.dt, reduceIte, Bool.false_eq_true, decide_true, decide_false, tupK, lstK, dNext_c, dBreak_c, dCont_c, dSeq_c, dDrop_c, dRet_c, retK_d, retK_m, retK_r, dRetN_c, dIfS_c, iteS_t, iteS_f, dSet_c, setK_d, setK_m, setK_s, setK_r, dAsg_c, asgK_d, asgK_m, dFz_c, dNever_c, dRaise_c, dC_c, dOp_c, dUn_c, dTst_c, tstK_c, dTru_c, truK_n, truK_b, truK_i, truK_t, truK_l, truK_m, truK_bl, dNot_c, dAnd_c, andK_t, andK_f, dOr_c, orK_t, orK_f, dAndV_c, andV_t, andV_f, dOrV_c, orV_t, orV_f, dNotV_c, dIf_c, iteE_t, iteE_f, dChain_c, chK_t, chK_f, dNil_c, dCons_c, dCB_c, dCall_c, dCall0_c, dTup_c, dLst_c, dFor_c, dLc_c, iTp_c, tpK_c, iLst_c, lsK_d, lsK_m, iSeq_c, sqK_d, sqK_m, sqK_b, dSl_c, dNo_c, dPt_c, ptK_c, dYes_c, dBack_k, backK_c, dTupRg_c, dLstRg_c, dRg1_c, dRg2_c, rg1K_c, rg2K_c, tupRg_c, lstRg_c, dDict0_c, dDict1_c, gdName_c, gdTup_c, gdCons_c, gdNil_c, dApp_c, appK_c, apK_d, apK_m, dVar_c, varK_d, varK_m, varK_b, varK_s, varK_sc, varK_r, dNew_c, varK_mo, varK_bo, setK_mo, retK_mo, dDIn_c, dinK_i, dinK_s, dDGet_c, dDGet1_c, isBo_c, dget1K_i, dDPut_c, dputV_d, dputK_i, val_mo, dOwn0_c, dDispV_c, dispK_i, fRepT_c, fIsB_c, dM0_c, dM1_c, isStr_c, fQ0_c, fQ1_c, fSplit_c, fLenS_c, iEnSD_c, dSetdIf_c, setdB_f, enSK_m, enSK_d, dOrT_c, dAndT_c, orTK_n, dCallK_c, dCallK0_c, dCallD_c, dCallD0_c, dSaid_c, toldK_d, toldK_m, iRg1_c, rgK_c, iRg2_c, rgK2_c, iEnT_c, enK_c, iZp_c, zpK_tt, zpK_mm, zpK_ll, zpK_lm, zpK_ml, dPar_c, parK_im, parK_nm, parK_sm, parK_dd, parK_md]
        by_cases h2 : x.2 ≤ m.t
        · rw [decide_eq_true h2] at hT ⊢
          exact ⟨ha, hT rfl⟩
        · rw [decide_eq_false h2] at hF ⊢
          exact hF rfl
      · rw [decide_eq_false h1] at hF ⊢
        try simp only [dRem_c, nSeq_c, nIf_c, iteN_t, iteN_f, nOf_c, nNext_c, startD, iEn, cvs, cv, vS, Sl.dat, Sl.seq, Sl.sq, Sl.fz, dats, dSetI, dAug, wipeD, List.length_cons, List.length_nil, List.length_append, List.length_replicate, Nat.reduceAdd, Nat.reduceSub, Nat.zero_add, List.replicate_succ, List.replicate_zero, List.cons_append, List.nil_append, List.append_nil, List.set_cons_zero, List.set_cons_succ, List.set_nil, List.getElem?_cons_zero, List.getElem?_cons_succ, Option.getD_some, List.map_cons, List.map_nil, Option.bind_some, fI0_c, fI_c, fU_c, fAddX_i, fAddX_t, fAddX_s, fAddX_mm, fAddX_bm, fAddX_mb, fAddX_bb, fAddX_lm, fAddX_ll, fMulX_i, fMulX_m, fSlX_t, fSlX_m, fSlX_b, fSlX_l, fIs_n, fIs_i, fIs_b, fIs_s, fIs_l, fIs_t, fIs_m, fIs_bl, fLen_t, fLen_l, fLen_m, fLen_b, fLen_scr, fIsi_c, fEqD_c, fEqD_mm, fEqD_bm, fEqD_bb, fEqD_dm, fEq_ss, fInt_i, fInt_b, fTuple_m, fTuple_b, fTuple_t, fTuple_l, fList_m, fList_b, fList_t, fList_l, f2I_c, fRepr_c, fRepr_m, fRepr_b, fStr_c, Bool.not_true, Bool.not_false, true_and, netT, Road.dt, reduceIte, Bool.false_eq_true, decide_true, decide_false, tupK, lstK, dNext_c, dBreak_c, dCont_c, dSeq_c, dDrop_c, dRet_c, retK_d, retK_m, retK_r, dRetN_c, dIfS_c, iteS_t, iteS_f, dSet_c, setK_d, setK_m, setK_s, setK_r, dAsg_c, asgK_d, asgK_m, dFz_c, dNever_c, dRaise_c, dC_c, dOp_c, dUn_c, dTst_c, tstK_c, dTru_c, truK_n, truK_b, truK_i, truK_t, truK_l, truK_m, truK_bl, dNot_c, dAnd_c, andK_t, andK_f, dOr_c, orK_t, orK_f, dAndV_c, andV_t, andV_f, dOrV_c, orV_t, orV_f, dNotV_c, dIf_c, iteE_t, iteE_f, dChain_c, chK_t, chK_f, dNil_c, dCons_c, dCB_c, dCall_c, dCall0_c, dTup_c, dLst_c, dFor_c, dLc_c, iTp_c, tpK_c, iLst_c, lsK_d, lsK_m, iSeq_c, sqK_d, sqK_m, sqK_b, dSl_c, dNo_c, dPt_c, ptK_c, dYes_c, dBack_k, backK_c, dTupRg_c, dLstRg_c, dRg1_c, dRg2_c, rg1K_c, rg2K_c, tupRg_c, lstRg_c, dDict0_c, dDict1_c, gdName_c, gdTup_c, gdCons_c, gdNil_c, dApp_c, appK_c, apK_d, apK_m, dVar_c, varK_d, varK_m, varK_b, varK_s, varK_sc, varK_r, dNew_c, varK_mo, varK_bo, setK_mo, retK_mo, dDIn_c, dinK_i, dinK_s, dDGet_c, dDGet1_c, isBo_c, dget1K_i, dDPut_c, dputV_d, dputK_i, val_mo, dOwn0_c, dDispV_c, dispK_i, fRepT_c, fIsB_c, dM0_c, dM1_c, isStr_c, fQ0_c, fQ1_c, fSplit_c, fLenS_c, iEnSD_c, dSetdIf_c, setdB_f, enSK_m, enSK_d, dOrT_c, dAndT_c, orTK_n, dCallK_c, dCallK0_c, dCallD_c, dCallD0_c, dSaid_c, toldK_d, toldK_m, iRg1_c, rgK_c, iRg2_c, rgK2_c, iEnT_c, enK_c, iZp_c, zpK_tt, zpK_mm, zpK_ll, zpK_lm, zpK_ml, dPar_c, parK_im, parK_nm, parK_sm, parK_dd, parK_md]
        exact hF rfl
    · exact Nat.le_trans (lt_ _ (by omega)) (Nat.le_trans (DL _ (by omega)) (by decide))
    try simp only [dRem_c, nSeq_c, nIf_c, iteN_t, iteN_f, nOf_c, nNext_c, startD, iEn, cvs, cv, vS, Sl.dat, Sl.seq, Sl.sq, Sl.fz, dats, dSetI, dAug, wipeD, List.length_cons, List.length_nil, List.length_append, List.length_replicate, Nat.reduceAdd, Nat.reduceSub, Nat.zero_add, List.replicate_succ, List.replicate_zero, List.cons_append, List.nil_append, List.append_nil, List.set_cons_zero, List.set_cons_succ, List.set_nil, List.getElem?_cons_zero, List.getElem?_cons_succ, Option.getD_some, List.map_cons, List.map_nil, Option.bind_some, fI0_c, fI_c, fU_c, fAddX_i, fAddX_t, fAddX_s, fAddX_mm, fAddX_bm, fAddX_mb, fAddX_bb, fAddX_lm, fAddX_ll, fMulX_i, fMulX_m, fSlX_t, fSlX_m, fSlX_b, fSlX_l, fIs_n, fIs_i, fIs_b, fIs_s, fIs_l, fIs_t, fIs_m, fIs_bl, fLen_t, fLen_l, fLen_m, fLen_b, fLen_scr, fIsi_c, fEqD_c, fEqD_mm, fEqD_bm, fEqD_bb, fEqD_dm, fEq_ss, fInt_i, fInt_b, fTuple_m, fTuple_b, fTuple_t, fTuple_l, fList_m, fList_b, fList_t, fList_l, f2I_c, fRepr_c, fRepr_m, fRepr_b, fStr_c, Bool.not_true, Bool.not_false, true_and, netT, Road.dt, reduceIte, Bool.false_eq_true, decide_true, decide_false, tupK, lstK, dNext_c, dBreak_c, dCont_c, dSeq_c, dDrop_c, dRet_c, retK_d, retK_m, retK_r, dRetN_c, dIfS_c, iteS_t, iteS_f, dSet_c, setK_d, setK_m, setK_s, setK_r, dAsg_c, asgK_d, asgK_m, dFz_c, dNever_c, dRaise_c, dC_c, dOp_c, dUn_c, dTst_c, tstK_c, dTru_c, truK_n, truK_b, truK_i, truK_t, truK_l, truK_m, truK_bl, dNot_c, dAnd_c, andK_t, andK_f, dOr_c, orK_t, orK_f, dAndV_c, andV_t, andV_f, dOrV_c, orV_t, orV_f, dNotV_c, dIf_c, iteE_t, iteE_f, dChain_c, chK_t, chK_f, dNil_c, dCons_c, dCB_c, dCall_c, dCall0_c, dTup_c, dLst_c, dFor_c, dLc_c, iTp_c, tpK_c, iLst_c, lsK_d, lsK_m, iSeq_c, sqK_d, sqK_m, sqK_b, dSl_c, dNo_c, dPt_c, ptK_c, dYes_c, dBack_k, backK_c, dTupRg_c, dLstRg_c, dRg1_c, dRg2_c, rg1K_c, rg2K_c, tupRg_c, lstRg_c, dDict0_c, dDict1_c, gdName_c, gdTup_c, gdCons_c, gdNil_c, dApp_c, appK_c, apK_d, apK_m, dVar_c, varK_d, varK_m, varK_b, varK_s, varK_sc, varK_r, dNew_c, varK_mo, varK_bo, setK_mo, retK_mo, dDIn_c, dinK_i, dinK_s, dDGet_c, dDGet1_c, isBo_c, dget1K_i, dDPut_c, dputV_d, dputK_i, val_mo, dOwn0_c, dDispV_c, dispK_i, fRepT_c, fIsB_c, dM0_c, dM1_c, isStr_c, fQ0_c, fQ1_c, fSplit_c, fLenS_c, iEnSD_c, dSetdIf_c, setdB_f, enSK_m, enSK_d, dOrT_c, dAndT_c, orTK_n, dCallK_c, dCallK0_c, dCallD_c, dCallD0_c, dSaid_c, toldK_d, toldK_m, iRg1_c, rgK_c, iRg2_c, rgK2_c, iEnT_c, enK_c, iZp_c, zpK_tt, zpK_mm, zpK_ll, zpK_lm, zpK_ml, dPar_c, parK_im, parK_nm, parK_sm, parK_dd, parK_md]
    refine ⟨Nat.zero_le _, (lay_lst (n := 1) fun d hd => by
      obtain ⟨x, _, rfl⟩ := List.mem_map.mp hd
      exact lay_prD x).sh (by decide), by decide +kernel, ?_⟩
    rw [eqv_nil]
    have hDlen := DL m.v.toNat (by omega)
    have hlen := lt_ m.v.toNat (by omega)
    rw [show ((m.v.toNat : Nat) : Int) = m.v from by omega] at hDlen hlen
    have hb2 : y7.noB = true ∧ y8.noB = true ∧ y9.noB = true ∧ y10.noB = true ∧ y11.noB = true := by
      simp only [List.all_cons, List.all_nil, Bool.and_eq_true] at hb
      exact ⟨hb.2.2.2.1, hb.2.2.2.2.1, hb.2.2.2.2.2.1, hb.2.2.2.2.2.2.1, hb.2.2.2.2.2.2.2.1⟩
    obtain ⟨b7, b8, b9, b10, b11⟩ := hb2
    have el := List.length_erase_of_mem hm
    have tp := List.length_pos_of_mem hm
    by_cases hc : CovP (f m.v.toNat) m.c m.t
    · obtain ⟨y, hy, hy1, hy2⟩ := id hc
      have em : ((((f m.v.toNat).filter fun x => decide (x.1 ≤ m.c) && decide (x.2 ≤ m.t)).map prD).isEmpty) = false := by
        cases e : (f m.v.toNat).filter fun x => decide (x.1 ≤ m.c) && decide (x.2 ≤ m.t) with
        | nil =>
          have := List.filter_eq_nil_iff.mp e y hy
          rw [decide_eq_true hy1, decide_eq_true hy2] at this
          exact absurd rfl this
        | cons _ _ => rfl
      rw [em]
      try simp only [dRem_c, nSeq_c, nIf_c, iteN_t, iteN_f, nOf_c, nNext_c, startD, iEn, cvs, cv, vS, Sl.dat, Sl.seq, Sl.sq, Sl.fz, dats, dSetI, dAug, wipeD, List.length_cons, List.length_nil, List.length_append, List.length_replicate, Nat.reduceAdd, Nat.reduceSub, Nat.zero_add, List.replicate_succ, List.replicate_zero, List.cons_append, List.nil_append, List.append_nil, List.set_cons_zero, List.set_cons_succ, List.set_nil, List.getElem?_cons_zero, List.getElem?_cons_succ, Option.getD_some, List.map_cons, List.map_nil, Option.bind_some, fI0_c, fI_c, fU_c, fAddX_i, fAddX_t, fAddX_s, fAddX_mm, fAddX_bm, fAddX_mb, fAddX_bb, fAddX_lm, fAddX_ll, fMulX_i, fMulX_m, fSlX_t, fSlX_m, fSlX_b, fSlX_l, fIs_n, fIs_i, fIs_b, fIs_s, fIs_l, fIs_t, fIs_m, fIs_bl, fLen_t, fLen_l, fLen_m, fLen_b, fLen_scr, fIsi_c, fEqD_c, fEqD_mm, fEqD_bm, fEqD_bb, fEqD_dm, fEq_ss, fInt_i, fInt_b, fTuple_m, fTuple_b, fTuple_t, fTuple_l, fList_m, fList_b, fList_t, fList_l, f2I_c, fRepr_c, fRepr_m, fRepr_b, fStr_c, Bool.not_true, Bool.not_false, true_and, netT, Road.dt, reduceIte, Bool.false_eq_true, decide_true, decide_false, tupK, lstK, dNext_c, dBreak_c, dCont_c, dSeq_c, dDrop_c, dRet_c, retK_d, retK_m, retK_r, dRetN_c, dIfS_c, iteS_t, iteS_f, dSet_c, setK_d, setK_m, setK_s, setK_r, dAsg_c, asgK_d, asgK_m, dFz_c, dNever_c, dRaise_c, dC_c, dOp_c, dUn_c, dTst_c, tstK_c, dTru_c, truK_n, truK_b, truK_i, truK_t, truK_l, truK_m, truK_bl, dNot_c, dAnd_c, andK_t, andK_f, dOr_c, orK_t, orK_f, dAndV_c, andV_t, andV_f, dOrV_c, orV_t, orV_f, dNotV_c, dIf_c, iteE_t, iteE_f, dChain_c, chK_t, chK_f, dNil_c, dCons_c, dCB_c, dCall_c, dCall0_c, dTup_c, dLst_c, dFor_c, dLc_c, iTp_c, tpK_c, iLst_c, lsK_d, lsK_m, iSeq_c, sqK_d, sqK_m, sqK_b, dSl_c, dNo_c, dPt_c, ptK_c, dYes_c, dBack_k, backK_c, dTupRg_c, dLstRg_c, dRg1_c, dRg2_c, rg1K_c, rg2K_c, tupRg_c, lstRg_c, dDict0_c, dDict1_c, gdName_c, gdTup_c, gdCons_c, gdNil_c, dApp_c, appK_c, apK_d, apK_m, dVar_c, varK_d, varK_m, varK_b, varK_s, varK_sc, varK_r, dNew_c, varK_mo, varK_bo, setK_mo, retK_mo, dDIn_c, dinK_i, dinK_s, dDGet_c, dDGet1_c, isBo_c, dget1K_i, dDPut_c, dputV_d, dputK_i, val_mo, dOwn0_c, dDispV_c, dispK_i, fRepT_c, fIsB_c, dM0_c, dM1_c, isStr_c, fQ0_c, fQ1_c, fSplit_c, fLenS_c, iEnSD_c, dSetdIf_c, setdB_f, enSK_m, enSK_d, dOrT_c, dAndT_c, orTK_n, dCallK_c, dCallK0_c, dCallD_c, dCallD0_c, dSaid_c, toldK_d, toldK_m, iRg1_c, rgK_c, iRg2_c, rgK2_c, iEnT_c, enK_c, iZp_c, zpK_tt, zpK_mm, zpK_ll, zpK_lm, zpK_ml, dPar_c, parK_im, parK_nm, parK_sm, parK_dd, parK_md]
      refine ⟨_, ?_, f, tr.erase m, _, _, _, y7, y8, y9, y10, y11, rfl, rfl, ?_, hF.drop hm hc s0, rfl, ?_⟩
      · omega
      · simp only [List.all_cons, List.all_nil, Bool.and_eq_true]
        exact ⟨rfl, rfl, rfl, b7, b8, b9, b10, b11, trivial⟩
      · omega
    · have em : ((((f m.v.toNat).filter fun x => decide (x.1 ≤ m.c) && decide (x.2 ≤ m.t)).map prD).isEmpty) = true := by
        rw [List.filter_eq_nil_iff.mpr fun x hx => ?_]
        · rfl
        · rw [Bool.and_eq_true]
          rintro ⟨h1, h2⟩
          exact hc ⟨x, hx, of_decide_eq_true h1, of_decide_eq_true h2⟩
      rw [em]
      have hG := hF.grow ok hm hle hc s0 s1
      have lt2 := hG.lt ok (v := m.v.toNat) (by omega)
      rw [updF_at, List.length_append, List.length_singleton, show ((m.v.toNat : Nat) : Int) = m.v from by omega] at lt2
      have lf := leftF_upd (D := fun v => fnP p rs s (v : Int)) (f := f) (m := m) (by show _ < (fnP p rs s ((m.v.toNat : Nat) : Int)).length; rw [show ((m.v.toNat : Nat) : Int) = m.v from by omega]; omega) (n := p.toNat) (by omega)
      try simp only [dRem_c, nSeq_c, nIf_c, iteN_t, iteN_f, nOf_c, nNext_c, startD, iEn, cvs, cv, vS, Sl.dat, Sl.seq, Sl.sq, Sl.fz, dats, dSetI, dAug, wipeD, List.length_cons, List.length_nil, List.length_append, List.length_replicate, Nat.reduceAdd, Nat.reduceSub, Nat.zero_add, List.replicate_succ, List.replicate_zero, List.cons_append, List.nil_append, List.append_nil, List.set_cons_zero, List.set_cons_succ, List.set_nil, List.getElem?_cons_zero, List.getElem?_cons_succ, Option.getD_some, List.map_cons, List.map_nil, Option.bind_some, fI0_c, fI_c, fU_c, fAddX_i, fAddX_t, fAddX_s, fAddX_mm, fAddX_bm, fAddX_mb, fAddX_bb, fAddX_lm, fAddX_ll, fMulX_i, fMulX_m, fSlX_t, fSlX_m, fSlX_b, fSlX_l, fIs_n, fIs_i, fIs_b, fIs_s, fIs_l, fIs_t, fIs_m, fIs_bl, fLen_t, fLen_l, fLen_m, fLen_b, fLen_scr, fIsi_c, fEqD_c, fEqD_mm, fEqD_bm, fEqD_bb, fEqD_dm, fEq_ss, fInt_i, fInt_b, fTuple_m, fTuple_b, fTuple_t, fTuple_l, fList_m, fList_b, fList_t, fList_l, f2I_c, fRepr_c, fRepr_m, fRepr_b, fStr_c, Bool.not_true, Bool.not_false, true_and, netT, Road.dt, reduceIte, Bool.false_eq_true, decide_true, decide_false, tupK, lstK, dNext_c, dBreak_c, dCont_c, dSeq_c, dDrop_c, dRet_c, retK_d, retK_m, retK_r, dRetN_c, dIfS_c, iteS_t, iteS_f, dSet_c, setK_d, setK_m, setK_s, setK_r, dAsg_c, asgK_d, asgK_m, dFz_c, dNever_c, dRaise_c, dC_c, dOp_c, dUn_c, dTst_c, tstK_c, dTru_c, truK_n, truK_b, truK_i, truK_t, truK_l, truK_m, truK_bl, dNot_c, dAnd_c, andK_t, andK_f, dOr_c, orK_t, orK_f, dAndV_c, andV_t, andV_f, dOrV_c, orV_t, orV_f, dNotV_c, dIf_c, iteE_t, iteE_f, dChain_c, chK_t, chK_f, dNil_c, dCons_c, dCB_c, dCall_c, dCall0_c, dTup_c, dLst_c, dFor_c, dLc_c, iTp_c, tpK_c, iLst_c, lsK_d, lsK_m, iSeq_c, sqK_d, sqK_m, sqK_b, dSl_c, dNo_c, dPt_c, ptK_c, dYes_c, dBack_k, backK_c, dTupRg_c, dLstRg_c, dRg1_c, dRg2_c, rg1K_c, rg2K_c, tupRg_c, lstRg_c, dDict0_c, dDict1_c, gdName_c, gdTup_c, gdCons_c, gdNil_c, dApp_c, appK_c, apK_d, apK_m, dVar_c, varK_d, varK_m, varK_b, varK_s, varK_sc, varK_r, dNew_c, varK_mo, varK_bo, setK_mo, retK_mo, dDIn_c, dinK_i, dinK_s, dDGet_c, dDGet1_c, isBo_c, dget1K_i, dDPut_c, dputV_d, dputK_i, val_mo, dOwn0_c, dDispV_c, dispK_i, fRepT_c, fIsB_c, dM0_c, dM1_c, isStr_c, fQ0_c, fQ1_c, fSplit_c, fLenS_c, iEnSD_c, dSetdIf_c, setdB_f, enSK_m, enSK_d, dOrT_c, dAndT_c, orTK_n, dCallK_c, dCallK0_c, dCallD_c, dCallD0_c, dSaid_c, toldK_d, toldK_m, iRg1_c, rgK_c, iRg2_c, rgK2_c, iEnT_c, enK_c, iZp_c, zpK_tt, zpK_mm, zpK_ll, zpK_lm, zpK_ml, dPar_c, parK_im, parK_nm, parK_sm, parK_dd, parK_md]
      rw [nApp_c]
      try simp only [dRem_c, nSeq_c, nIf_c, iteN_t, iteN_f, nOf_c, nNext_c, startD, iEn, cvs, cv, vS, Sl.dat, Sl.seq, Sl.sq, Sl.fz, dats, dSetI, dAug, wipeD, List.length_cons, List.length_nil, List.length_append, List.length_replicate, Nat.reduceAdd, Nat.reduceSub, Nat.zero_add, List.replicate_succ, List.replicate_zero, List.cons_append, List.nil_append, List.append_nil, List.set_cons_zero, List.set_cons_succ, List.set_nil, List.getElem?_cons_zero, List.getElem?_cons_succ, Option.getD_some, List.map_cons, List.map_nil, Option.bind_some, fI0_c, fI_c, fU_c, fAddX_i, fAddX_t, fAddX_s, fAddX_mm, fAddX_bm, fAddX_mb, fAddX_bb, fAddX_lm, fAddX_ll, fMulX_i, fMulX_m, fSlX_t, fSlX_m, fSlX_b, fSlX_l, fIs_n, fIs_i, fIs_b, fIs_s, fIs_l, fIs_t, fIs_m, fIs_bl, fLen_t, fLen_l, fLen_m, fLen_b, fLen_scr, fIsi_c, fEqD_c, fEqD_mm, fEqD_bm, fEqD_bb, fEqD_dm, fEq_ss, fInt_i, fInt_b, fTuple_m, fTuple_b, fTuple_t, fTuple_l, fList_m, fList_b, fList_t, fList_l, f2I_c, fRepr_c, fRepr_m, fRepr_b, fStr_c, Bool.not_true, Bool.not_false, true_and, netT, Road.dt, reduceIte, Bool.false_eq_true, decide_true, decide_false, tupK, lstK, dNext_c, dBreak_c, dCont_c, dSeq_c, dDrop_c, dRet_c, retK_d, retK_m, retK_r, dRetN_c, dIfS_c, iteS_t, iteS_f, dSet_c, setK_d, setK_m, setK_s, setK_r, dAsg_c, asgK_d, asgK_m, dFz_c, dNever_c, dRaise_c, dC_c, dOp_c, dUn_c, dTst_c, tstK_c, dTru_c, truK_n, truK_b, truK_i, truK_t, truK_l, truK_m, truK_bl, dNot_c, dAnd_c, andK_t, andK_f, dOr_c, orK_t, orK_f, dAndV_c, andV_t, andV_f, dOrV_c, orV_t, orV_f, dNotV_c, dIf_c, iteE_t, iteE_f, dChain_c, chK_t, chK_f, dNil_c, dCons_c, dCB_c, dCall_c, dCall0_c, dTup_c, dLst_c, dFor_c, dLc_c, iTp_c, tpK_c, iLst_c, lsK_d, lsK_m, iSeq_c, sqK_d, sqK_m, sqK_b, dSl_c, dNo_c, dPt_c, ptK_c, dYes_c, dBack_k, backK_c, dTupRg_c, dLstRg_c, dRg1_c, dRg2_c, rg1K_c, rg2K_c, tupRg_c, lstRg_c, dDict0_c, dDict1_c, gdName_c, gdTup_c, gdCons_c, gdNil_c, dApp_c, appK_c, apK_d, apK_m, dVar_c, varK_d, varK_m, varK_b, varK_s, varK_sc, varK_r, dNew_c, varK_mo, varK_bo, setK_mo, retK_mo, dDIn_c, dinK_i, dinK_s, dDGet_c, dDGet1_c, isBo_c, dget1K_i, dDPut_c, dputV_d, dputK_i, val_mo, dOwn0_c, dDispV_c, dispK_i, fRepT_c, fIsB_c, dM0_c, dM1_c, isStr_c, fQ0_c, fQ1_c, fSplit_c, fLenS_c, iEnSD_c, dSetdIf_c, setdB_f, enSK_m, enSK_d, dOrT_c, dAndT_c, orTK_n, dCallK_c, dCallK0_c, dCallD_c, dCallD0_c, dSaid_c, toldK_d, toldK_m, iRg1_c, rgK_c, iRg2_c, rgK2_c, iEnT_c, enK_c, iZp_c, zpK_tt, zpK_mm, zpK_ll, zpK_lm, zpK_ml, dPar_c, parK_im, parK_nm, parK_sm, parK_dd, parK_md]
      refine ⟨m.v.toNat, _, by rw [show ((m.v.toNat : Nat) : Int) = m.v from by omega], fndD_get (by omega), ?_⟩
      try simp only [dRem_c, nSeq_c, nIf_c, iteN_t, iteN_f, nOf_c, nNext_c, startD, iEn, cvs, cv, vS, Sl.dat, Sl.seq, Sl.sq, Sl.fz, dats, dSetI, dAug, wipeD, List.length_cons, List.length_nil, List.length_append, List.length_replicate, Nat.reduceAdd, Nat.reduceSub, Nat.zero_add, List.replicate_succ, List.replicate_zero, List.cons_append, List.nil_append, List.append_nil, List.set_cons_zero, List.set_cons_succ, List.set_nil, List.getElem?_cons_zero, List.getElem?_cons_succ, Option.getD_some, List.map_cons, List.map_nil, Option.bind_some, fI0_c, fI_c, fU_c, fAddX_i, fAddX_t, fAddX_s, fAddX_mm, fAddX_bm, fAddX_mb, fAddX_bb, fAddX_lm, fAddX_ll, fMulX_i, fMulX_m, fSlX_t, fSlX_m, fSlX_b, fSlX_l, fIs_n, fIs_i, fIs_b, fIs_s, fIs_l, fIs_t, fIs_m, fIs_bl, fLen_t, fLen_l, fLen_m, fLen_b, fLen_scr, fIsi_c, fEqD_c, fEqD_mm, fEqD_bm, fEqD_bb, fEqD_dm, fEq_ss, fInt_i, fInt_b, fTuple_m, fTuple_b, fTuple_t, fTuple_l, fList_m, fList_b, fList_t, fList_l, f2I_c, fRepr_c, fRepr_m, fRepr_b, fStr_c, Bool.not_true, Bool.not_false, true_and, netT, Road.dt, reduceIte, Bool.false_eq_true, decide_true, decide_false, tupK, lstK, dNext_c, dBreak_c, dCont_c, dSeq_c, dDrop_c, dRet_c, retK_d, retK_m, retK_r, dRetN_c, dIfS_c, iteS_t, iteS_f, dSet_c, setK_d, setK_m, setK_s, setK_r, dAsg_c, asgK_d, asgK_m, dFz_c, dNever_c, dRaise_c, dC_c, dOp_c, dUn_c, dTst_c, tstK_c, dTru_c, truK_n, truK_b, truK_i, truK_t, truK_l, truK_m, truK_bl, dNot_c, dAnd_c, andK_t, andK_f, dOr_c, orK_t, orK_f, dAndV_c, andV_t, andV_f, dOrV_c, orV_t, orV_f, dNotV_c, dIf_c, iteE_t, iteE_f, dChain_c, chK_t, chK_f, dNil_c, dCons_c, dCB_c, dCall_c, dCall0_c, dTup_c, dLst_c, dFor_c, dLc_c, iTp_c, tpK_c, iLst_c, lsK_d, lsK_m, iSeq_c, sqK_d, sqK_m, sqK_b, dSl_c, dNo_c, dPt_c, ptK_c, dYes_c, dBack_k, backK_c, dTupRg_c, dLstRg_c, dRg1_c, dRg2_c, rg1K_c, rg2K_c, tupRg_c, lstRg_c, dDict0_c, dDict1_c, gdName_c, gdTup_c, gdCons_c, gdNil_c, dApp_c, appK_c, apK_d, apK_m, dVar_c, varK_d, varK_m, varK_b, varK_s, varK_sc, varK_r, dNew_c, varK_mo, varK_bo, setK_mo, retK_mo, dDIn_c, dinK_i, dinK_s, dDGet_c, dDGet1_c, isBo_c, dget1K_i, dDPut_c, dputV_d, dputK_i, val_mo, dOwn0_c, dDispV_c, dispK_i, fRepT_c, fIsB_c, dM0_c, dM1_c, isStr_c, fQ0_c, fQ1_c, fSplit_c, fLenS_c, iEnSD_c, dSetdIf_c, setdB_f, enSK_m, enSK_d, dOrT_c, dAndT_c, orTK_n, dCallK_c, dCallK0_c, dCallD_c, dCallD0_c, dSaid_c, toldK_d, toldK_m, iRg1_c, rgK_c, iRg2_c, rgK2_c, iEnT_c, enK_c, iZp_c, zpK_tt, zpK_mm, zpK_ll, zpK_lm, zpK_ml, dPar_c, parK_im, parK_nm, parK_sm, parK_dd, parK_md]
      refine ⟨by decide, ?_, _, rfl, ?_⟩
      · unfold pairsD
        rw [List.length_map]
        exact Nat.lt_of_le_of_lt (Nat.le_trans hlen hDlen) (by decide)
      rw [show PyData.tuple [.int m.c, .int m.t] = prD (m.c, m.t) from rfl, fndD_set]
      try simp only [dRem_c, nSeq_c, nIf_c, iteN_t, iteN_f, nOf_c, nNext_c, startD, iEn, cvs, cv, vS, Sl.dat, Sl.seq, Sl.sq, Sl.fz, dats, dSetI, dAug, wipeD, List.length_cons, List.length_nil, List.length_append, List.length_replicate, Nat.reduceAdd, Nat.reduceSub, Nat.zero_add, List.replicate_succ, List.replicate_zero, List.cons_append, List.nil_append, List.append_nil, List.set_cons_zero, List.set_cons_succ, List.set_nil, List.getElem?_cons_zero, List.getElem?_cons_succ, Option.getD_some, List.map_cons, List.map_nil, Option.bind_some, fI0_c, fI_c, fU_c, fAddX_i, fAddX_t, fAddX_s, fAddX_mm, fAddX_bm, fAddX_mb, fAddX_bb, fAddX_lm, fAddX_ll, fMulX_i, fMulX_m, fSlX_t, fSlX_m, fSlX_b, fSlX_l, fIs_n, fIs_i, fIs_b, fIs_s, fIs_l, fIs_t, fIs_m, fIs_bl, fLen_t, fLen_l, fLen_m, fLen_b, fLen_scr, fIsi_c, fEqD_c, fEqD_mm, fEqD_bm, fEqD_bb, fEqD_dm, fEq_ss, fInt_i, fInt_b, fTuple_m, fTuple_b, fTuple_t, fTuple_l, fList_m, fList_b, fList_t, fList_l, f2I_c, fRepr_c, fRepr_m, fRepr_b, fStr_c, Bool.not_true, Bool.not_false, true_and, netT, Road.dt, reduceIte, Bool.false_eq_true, decide_true, decide_false, tupK, lstK, dNext_c, dBreak_c, dCont_c, dSeq_c, dDrop_c, dRet_c, retK_d, retK_m, retK_r, dRetN_c, dIfS_c, iteS_t, iteS_f, dSet_c, setK_d, setK_m, setK_s, setK_r, dAsg_c, asgK_d, asgK_m, dFz_c, dNever_c, dRaise_c, dC_c, dOp_c, dUn_c, dTst_c, tstK_c, dTru_c, truK_n, truK_b, truK_i, truK_t, truK_l, truK_m, truK_bl, dNot_c, dAnd_c, andK_t, andK_f, dOr_c, orK_t, orK_f, dAndV_c, andV_t, andV_f, dOrV_c, orV_t, orV_f, dNotV_c, dIf_c, iteE_t, iteE_f, dChain_c, chK_t, chK_f, dNil_c, dCons_c, dCB_c, dCall_c, dCall0_c, dTup_c, dLst_c, dFor_c, dLc_c, iTp_c, tpK_c, iLst_c, lsK_d, lsK_m, iSeq_c, sqK_d, sqK_m, sqK_b, dSl_c, dNo_c, dPt_c, ptK_c, dYes_c, dBack_k, backK_c, dTupRg_c, dLstRg_c, dRg1_c, dRg2_c, rg1K_c, rg2K_c, tupRg_c, lstRg_c, dDict0_c, dDict1_c, gdName_c, gdTup_c, gdCons_c, gdNil_c, dApp_c, appK_c, apK_d, apK_m, dVar_c, varK_d, varK_m, varK_b, varK_s, varK_sc, varK_r, dNew_c, varK_mo, varK_bo, setK_mo, retK_mo, dDIn_c, dinK_i, dinK_s, dDGet_c, dDGet1_c, isBo_c, dget1K_i, dDPut_c, dputV_d, dputK_i, val_mo, dOwn0_c, dDispV_c, dispK_i, fRepT_c, fIsB_c, dM0_c, dM1_c, isStr_c, fQ0_c, fQ1_c, fSplit_c, fLenS_c, iEnSD_c, dSetdIf_c, setdB_f, enSK_m, enSK_d, dOrT_c, dAndT_c, orTK_n, dCallK_c, dCallK0_c, dCallD_c, dCallD0_c, dSaid_c, toldK_d, toldK_m, iRg1_c, rgK_c, iRg2_c, rgK2_c, iEnT_c, enK_c, iZp_c, zpK_tt, zpK_mm, zpK_ll, zpK_lm, zpK_ml, dPar_c, parK_im, parK_nm, parK_sm, parK_dd, parK_md]
      refine fIx_at (n := 1) rfl ?_
      try simp only [dRem_c, nSeq_c, nIf_c, iteN_t, iteN_f, nOf_c, nNext_c, startD, iEn, cvs, cv, vS, Sl.dat, Sl.seq, Sl.sq, Sl.fz, dats, dSetI, dAug, wipeD, List.length_cons, List.length_nil, List.length_append, List.length_replicate, Nat.reduceAdd, Nat.reduceSub, Nat.zero_add, List.replicate_succ, List.replicate_zero, List.cons_append, List.nil_append, List.append_nil, List.set_cons_zero, List.set_cons_succ, List.set_nil, List.getElem?_cons_zero, List.getElem?_cons_succ, Option.getD_some, List.map_cons, List.map_nil, Option.bind_some, fI0_c, fI_c, fU_c, fAddX_i, fAddX_t, fAddX_s, fAddX_mm, fAddX_bm, fAddX_mb, fAddX_bb, fAddX_lm, fAddX_ll, fMulX_i, fMulX_m, fSlX_t, fSlX_m, fSlX_b, fSlX_l, fIs_n, fIs_i, fIs_b, fIs_s, fIs_l, fIs_t, fIs_m, fIs_bl, fLen_t, fLen_l, fLen_m, fLen_b, fLen_scr, fIsi_c, fEqD_c, fEqD_mm, fEqD_bm, fEqD_bb, fEqD_dm, fEq_ss, fInt_i, fInt_b, fTuple_m, fTuple_b, fTuple_t, fTuple_l, fList_m, fList_b, fList_t, fList_l, f2I_c, fRepr_c, fRepr_m, fRepr_b, fStr_c, Bool.not_true, Bool.not_false, true_and, netT, Road.dt, reduceIte, Bool.false_eq_true, decide_true, decide_false, tupK, lstK, dNext_c, dBreak_c, dCont_c, dSeq_c, dDrop_c, dRet_c, retK_d, retK_m, retK_r, dRetN_c, dIfS_c, iteS_t, iteS_f, dSet_c, setK_d, setK_m, setK_s, setK_r, dAsg_c, asgK_d, asgK_m, dFz_c, dNever_c, dRaise_c, dC_c, dOp_c, dUn_c, dTst_c, tstK_c, dTru_c, truK_n, truK_b, truK_i, truK_t, truK_l, truK_m, truK_bl, dNot_c, dAnd_c, andK_t, andK_f, dOr_c, orK_t, orK_f, dAndV_c, andV_t, andV_f, dOrV_c, orV_t, orV_f, dNotV_c, dIf_c, iteE_t, iteE_f, dChain_c, chK_t, chK_f, dNil_c, dCons_c, dCB_c, dCall_c, dCall0_c, dTup_c, dLst_c, dFor_c, dLc_c, iTp_c, tpK_c, iLst_c, lsK_d, lsK_m, iSeq_c, sqK_d, sqK_m, sqK_b, dSl_c, dNo_c, dPt_c, ptK_c, dYes_c, dBack_k, backK_c, dTupRg_c, dLstRg_c, dRg1_c, dRg2_c, rg1K_c, rg2K_c, tupRg_c, lstRg_c, dDict0_c, dDict1_c, gdName_c, gdTup_c, gdCons_c, gdNil_c, dApp_c, appK_c, apK_d, apK_m, dVar_c, varK_d, varK_m, varK_b, varK_s, varK_sc, varK_r, dNew_c, varK_mo, varK_bo, setK_mo, retK_mo, dDIn_c, dinK_i, dinK_s, dDGet_c, dDGet1_c, isBo_c, dget1K_i, dDPut_c, dputV_d, dputK_i, val_mo, dOwn0_c, dDispV_c, dispK_i, fRepT_c, fIsB_c, dM0_c, dM1_c, isStr_c, fQ0_c, fQ1_c, fSplit_c, fLenS_c, iEnSD_c, dSetdIf_c, setdB_f, enSK_m, enSK_d, dOrT_c, dAndT_c, orTK_n, dCallK_c, dCallK0_c, dCallD_c, dCallD0_c, dSaid_c, toldK_d, toldK_m, iRg1_c, rgK_c, iRg2_c, rgK2_c, iEnT_c, enK_c, iZp_c, zpK_tt, zpK_mm, zpK_ll, zpK_lm, zpK_ml, dPar_c, parK_im, parK_nm, parK_sm, parK_dd, parK_md]
      refine forD_by (fun i ρ => ∃ y7 y8 y9 y10 : Sl, ρ = [.d (netT p rs), .d (.int s), .raw (.ref L), .ml ((tr.erase m ++ extsT m (rs.take i)).map trD), .d (.int m.v), .d (.int m.c), .d (.int m.t), y7, y8, y9, y10, y11] ∧ y7.noB = true ∧ y8.noB = true ∧ y9.noB = true ∧ y10.noB = true) ⟨y7, y8, y9, y10, ?_, b7, b8, b9, b10⟩ (fun i d ρ N hd h hN => ?_) (fun ρ h => ?_)
      · rw [List.take_zero, show extsT m [] = [] from rfl, List.append_nil]
        rfl
      · obtain ⟨y7, y8, y9, y10, rfl, b7, b8, b9, b10⟩ := h
        rw [List.getElem?_map] at hd
        obtain ⟨r, er, rfl⟩ := Option.map_eq_some_iff.mp hd
        have et : rs.take (i + 1) = rs.take i ++ [r] := by
          rw [List.take_add_one, er]
          rfl
        have es := extsT_snoc m (rs.take i) r
        rw [← et] at es
        have xl := extsT_len m (rs.take i)
        rw [List.length_take] at xl
        try simp only [dRem_c, nSeq_c, nIf_c, iteN_t, iteN_f, nOf_c, nNext_c, startD, iEn, cvs, cv, vS, Sl.dat, Sl.seq, Sl.sq, Sl.fz, dats, dSetI, dAug, wipeD, List.length_cons, List.length_nil, List.length_append, List.length_replicate, Nat.reduceAdd, Nat.reduceSub, Nat.zero_add, List.replicate_succ, List.replicate_zero, List.cons_append, List.nil_append, List.append_nil, List.set_cons_zero, List.set_cons_succ, List.set_nil, List.getElem?_cons_zero, List.getElem?_cons_succ, Option.getD_some, List.map_cons, List.map_nil, Option.bind_some, fI0_c, fI_c, fU_c, fAddX_i, fAddX_t, fAddX_s, fAddX_mm, fAddX_bm, fAddX_mb, fAddX_bb, fAddX_lm, fAddX_ll, fMulX_i, fMulX_m, fSlX_t, fSlX_m, fSlX_b, fSlX_l, fIs_n, fIs_i, fIs_b, fIs_s, fIs_l, fIs_t, fIs_m, fIs_bl, fLen_t, fLen_l, fLen_m, fLen_b, fLen_scr, fIsi_c, fEqD_c, fEqD_mm, fEqD_bm, fEqD_bb, fEqD_dm, fEq_ss, fInt_i, fInt_b, fTuple_m, fTuple_b, fTuple_t, fTuple_l, fList_m, fList_b, fList_t, fList_l, f2I_c, fRepr_c, fRepr_m, fRepr_b, fStr_c, Bool.not_true, Bool.not_false, true_and, netT, Road.dt, reduceIte, Bool.false_eq_true, decide_true, decide_false, tupK, lstK, dNext_c, dBreak_c, dCont_c, dSeq_c, dDrop_c, dRet_c, retK_d, retK_m, retK_r, dRetN_c, dIfS_c, iteS_t, iteS_f, dSet_c, setK_d, setK_m, setK_s, setK_r, dAsg_c, asgK_d, asgK_m, dFz_c, dNever_c, dRaise_c, dC_c, dOp_c, dUn_c, dTst_c, tstK_c, dTru_c, truK_n, truK_b, truK_i, truK_t, truK_l, truK_m, truK_bl, dNot_c, dAnd_c, andK_t, andK_f, dOr_c, orK_t, orK_f, dAndV_c, andV_t, andV_f, dOrV_c, orV_t, orV_f, dNotV_c, dIf_c, iteE_t, iteE_f, dChain_c, chK_t, chK_f, dNil_c, dCons_c, dCB_c, dCall_c, dCall0_c, dTup_c, dLst_c, dFor_c, dLc_c, iTp_c, tpK_c, iLst_c, lsK_d, lsK_m, iSeq_c, sqK_d, sqK_m, sqK_b, dSl_c, dNo_c, dPt_c, ptK_c, dYes_c, dBack_k, backK_c, dTupRg_c, dLstRg_c, dRg1_c, dRg2_c, rg1K_c, rg2K_c, tupRg_c, lstRg_c, dDict0_c, dDict1_c, gdName_c, gdTup_c, gdCons_c, gdNil_c, dApp_c, appK_c, apK_d, apK_m, dVar_c, varK_d, varK_m, varK_b, varK_s, varK_sc, varK_r, dNew_c, varK_mo, varK_bo, setK_mo, retK_mo, dDIn_c, dinK_i, dinK_s, dDGet_c, dDGet1_c, isBo_c, dget1K_i, dDPut_c, dputV_d, dputK_i, val_mo, dOwn0_c, dDispV_c, dispK_i, fRepT_c, fIsB_c, dM0_c, dM1_c, isStr_c, fQ0_c, fQ1_c, fSplit_c, fLenS_c, iEnSD_c, dSetdIf_c, setdB_f, enSK_m, enSK_d, dOrT_c, dAndT_c, orTK_n, dCallK_c, dCallK0_c, dCallD_c, dCallD0_c, dSaid_c, toldK_d, toldK_m, iRg1_c, rgK_c, iRg2_c, rgK2_c, iEnT_c, enK_c, iZp_c, zpK_tt, zpK_mm, zpK_ll, zpK_lm, zpK_ml, dPar_c, parK_im, parK_nm, parK_sm, parK_dd, parK_md]
        refine ⟨sh_int _, sh_int _, ?_⟩
        rw [eqv_int]
        by_cases ho : r.one = m.v
        · rw [decide_eq_true ho]
          rw [if_pos ho] at es
          try simp only [dRem_c, nSeq_c, nIf_c, iteN_t, iteN_f, nOf_c, nNext_c, startD, iEn, cvs, cv, vS, Sl.dat, Sl.seq, Sl.sq, Sl.fz, dats, dSetI, dAug, wipeD, List.length_cons, List.length_nil, List.length_append, List.length_replicate, Nat.reduceAdd, Nat.reduceSub, Nat.zero_add, List.replicate_succ, List.replicate_zero, List.cons_append, List.nil_append, List.append_nil, List.set_cons_zero, List.set_cons_succ, List.set_nil, List.getElem?_cons_zero, List.getElem?_cons_succ, Option.getD_some, List.map_cons, List.map_nil, Option.bind_some, fI0_c, fI_c, fU_c, fAddX_i, fAddX_t, fAddX_s, fAddX_mm, fAddX_bm, fAddX_mb, fAddX_bb, fAddX_lm, fAddX_ll, fMulX_i, fMulX_m, fSlX_t, fSlX_m, fSlX_b, fSlX_l, fIs_n, fIs_i, fIs_b, fIs_s, fIs_l, fIs_t, fIs_m, fIs_bl, fLen_t, fLen_l, fLen_m, fLen_b, fLen_scr, fIsi_c, fEqD_c, fEqD_mm, fEqD_bm, fEqD_bb, fEqD_dm, fEq_ss, fInt_i, fInt_b, fTuple_m, fTuple_b, fTuple_t, fTuple_l, fList_m, fList_b, fList_t, fList_l, f2I_c, fRepr_c, fRepr_m, fRepr_b, fStr_c, Bool.not_true, Bool.not_false, true_and, netT, Road.dt, reduceIte, Bool.false_eq_true, decide_true, decide_false, tupK, lstK, dNext_c, dBreak_c, dCont_c, dSeq_c, dDrop_c, dRet_c, retK_d, retK_m, retK_r, dRetN_c, dIfS_c, iteS_t, iteS_f, dSet_c, setK_d, setK_m, setK_s, setK_r, dAsg_c, asgK_d, asgK_m, dFz_c, dNever_c, dRaise_c, dC_c, dOp_c, dUn_c, dTst_c, tstK_c, dTru_c, truK_n, truK_b, truK_i, truK_t, truK_l, truK_m, truK_bl, dNot_c, dAnd_c, andK_t, andK_f, dOr_c, orK_t, orK_f, dAndV_c, andV_t, andV_f, dOrV_c, orV_t, orV_f, dNotV_c, dIf_c, iteE_t, iteE_f, dChain_c, chK_t, chK_f, dNil_c, dCons_c, dCB_c, dCall_c, dCall0_c, dTup_c, dLst_c, dFor_c, dLc_c, iTp_c, tpK_c, iLst_c, lsK_d, lsK_m, iSeq_c, sqK_d, sqK_m, sqK_b, dSl_c, dNo_c, dPt_c, ptK_c, dYes_c, dBack_k, backK_c, dTupRg_c, dLstRg_c, dRg1_c, dRg2_c, rg1K_c, rg2K_c, tupRg_c, lstRg_c, dDict0_c, dDict1_c, gdName_c, gdTup_c, gdCons_c, gdNil_c, dApp_c, appK_c, apK_d, apK_m, dVar_c, varK_d, varK_m, varK_b, varK_s, varK_sc, varK_r, dNew_c, varK_mo, varK_bo, setK_mo, retK_mo, dDIn_c, dinK_i, dinK_s, dDGet_c, dDGet1_c, isBo_c, dget1K_i, dDPut_c, dputV_d, dputK_i, val_mo, dOwn0_c, dDispV_c, dispK_i, fRepT_c, fIsB_c, dM0_c, dM1_c, isStr_c, fQ0_c, fQ1_c, fSplit_c, fLenS_c, iEnSD_c, dSetdIf_c, setdB_f, enSK_m, enSK_d, dOrT_c, dAndT_c, orTK_n, dCallK_c, dCallK0_c, dCallD_c, dCallD0_c, dSaid_c, toldK_d, toldK_m, iRg1_c, rgK_c, iRg2_c, rgK2_c, iEnT_c, enK_c, iZp_c, zpK_tt, zpK_mm, zpK_ll, zpK_lm, zpK_ml, dPar_c, parK_im, parK_nm, parK_sm, parK_dd, parK_md]
          refine ⟨by decide, ?_, hN _ ⟨.d (.int r.one), .d (.int r.other), .d (.int r.cost), .d (.int r.time), ?_, rfl, rfl, rfl, rfl⟩⟩
          · rw [List.length_map, List.length_append]
            exact Nat.lt_of_le_of_lt (show _ ≤ 500000 by omega) (by decide)
          · rw [es, ← List.append_assoc, List.map_append (l₁ := tr.erase m ++ _)]
            rfl
        · rw [decide_eq_false ho]
          rw [if_neg ho, List.append_nil] at es
          try simp only [dRem_c, nSeq_c, nIf_c, iteN_t, iteN_f, nOf_c, nNext_c, startD, iEn, cvs, cv, vS, Sl.dat, Sl.seq, Sl.sq, Sl.fz, dats, dSetI, dAug, wipeD, List.length_cons, List.length_nil, List.length_append, List.length_replicate, Nat.reduceAdd, Nat.reduceSub, Nat.zero_add, List.replicate_succ, List.replicate_zero, List.cons_append, List.nil_append, List.append_nil, List.set_cons_zero, List.set_cons_succ, List.set_nil, List.getElem?_cons_zero, List.getElem?_cons_succ, Option.getD_some, List.map_cons, List.map_nil, Option.bind_some, fI0_c, fI_c, fU_c, fAddX_i, fAddX_t, fAddX_s, fAddX_mm, fAddX_bm, fAddX_mb, fAddX_bb, fAddX_lm, fAddX_ll, fMulX_i, fMulX_m, fSlX_t, fSlX_m, fSlX_b, fSlX_l, fIs_n, fIs_i, fIs_b, fIs_s, fIs_l, fIs_t, fIs_m, fIs_bl, fLen_t, fLen_l, fLen_m, fLen_b, fLen_scr, fIsi_c, fEqD_c, fEqD_mm, fEqD_bm, fEqD_bb, fEqD_dm, fEq_ss, fInt_i, fInt_b, fTuple_m, fTuple_b, fTuple_t, fTuple_l, fList_m, fList_b, fList_t, fList_l, f2I_c, fRepr_c, fRepr_m, fRepr_b, fStr_c, Bool.not_true, Bool.not_false, true_and, netT, Road.dt, reduceIte, Bool.false_eq_true, decide_true, decide_false, tupK, lstK, dNext_c, dBreak_c, dCont_c, dSeq_c, dDrop_c, dRet_c, retK_d, retK_m, retK_r, dRetN_c, dIfS_c, iteS_t, iteS_f, dSet_c, setK_d, setK_m, setK_s, setK_r, dAsg_c, asgK_d, asgK_m, dFz_c, dNever_c, dRaise_c, dC_c, dOp_c, dUn_c, dTst_c, tstK_c, dTru_c, truK_n, truK_b, truK_i, truK_t, truK_l, truK_m, truK_bl, dNot_c, dAnd_c, andK_t, andK_f, dOr_c, orK_t, orK_f, dAndV_c, andV_t, andV_f, dOrV_c, orV_t, orV_f, dNotV_c, dIf_c, iteE_t, iteE_f, dChain_c, chK_t, chK_f, dNil_c, dCons_c, dCB_c, dCall_c, dCall0_c, dTup_c, dLst_c, dFor_c, dLc_c, iTp_c, tpK_c, iLst_c, lsK_d, lsK_m, iSeq_c, sqK_d, sqK_m, sqK_b, dSl_c, dNo_c, dPt_c, ptK_c, dYes_c, dBack_k, backK_c, dTupRg_c, dLstRg_c, dRg1_c, dRg2_c, rg1K_c, rg2K_c, tupRg_c, lstRg_c, dDict0_c, dDict1_c, gdName_c, gdTup_c, gdCons_c, gdNil_c, dApp_c, appK_c, apK_d, apK_m, dVar_c, varK_d, varK_m, varK_b, varK_s, varK_sc, varK_r, dNew_c, varK_mo, varK_bo, setK_mo, retK_mo, dDIn_c, dinK_i, dinK_s, dDGet_c, dDGet1_c, isBo_c, dget1K_i, dDPut_c, dputV_d, dputK_i, val_mo, dOwn0_c, dDispV_c, dispK_i, fRepT_c, fIsB_c, dM0_c, dM1_c, isStr_c, fQ0_c, fQ1_c, fSplit_c, fLenS_c, iEnSD_c, dSetdIf_c, setdB_f, enSK_m, enSK_d, dOrT_c, dAndT_c, orTK_n, dCallK_c, dCallK0_c, dCallD_c, dCallD0_c, dSaid_c, toldK_d, toldK_m, iRg1_c, rgK_c, iRg2_c, rgK2_c, iEnT_c, enK_c, iZp_c, zpK_tt, zpK_mm, zpK_ll, zpK_lm, zpK_ml, dPar_c, parK_im, parK_nm, parK_sm, parK_dd, parK_md]
          refine hN _ ⟨.d (.int r.one), .d (.int r.other), .d (.int r.cost), .d (.int r.time), ?_, rfl, rfl, rfl, rfl⟩
          rw [es]
          rfl
      · obtain ⟨y7, y8, y9, y10, rfl, b7, b8, b9, b10⟩ := h
        rw [List.length_map, List.take_length]
        have xl := extsT_len m rs
        refine ⟨rfl, _, ?_, updF f m, tr.erase m ++ extsT m rs, _, _, _, y7, y8, y9, y10, y11, rfl, rfl, ?_, hG, rfl, ?_⟩
        · rw [List.length_append]
          omega
        · simp only [List.all_cons, List.all_nil, Bool.and_eq_true]
          exact ⟨rfl, rfl, rfl, b7, b8, b9, b10, b11, trivial⟩
        · rw [List.length_append]
          omega
end
end Wy

set_option synthInstance.maxHeartbeats 2000000
set_option synthInstance.maxSize 100000
namespace Wy
open PySem PySem.Spec PyProof.Rows L2 Dl LamX
abbrev sLaw : Stmt := topS 29
theorem scLaw : FnScope ["_law_script", "_law_k", "_law_state_here", "_law_net_here", "_law_kept", "_law_start", "_law_due", "_law_found"] ["_law_script"] (defScope sLaw) := ⟨rfl, rfl, rfl, by decide +kernel, rfl, by decide +kernel, by decide +kernel⟩
section
variable {P : Program} {w : World} {K : PySem.W.Frag} {mg : Str → Option Value} {base : Heap} {C : Nat → Addr}
theorem sh_prD {x : Pr} (h1 : x.1.natAbs ≤ 1000) (h2 : x.2.natAbs ≤ 1000) : Sh (prD x) 88 1 := (Sh.tuple (n := 40) (m := 0) (k := 2) (fun e he => by
  simp only [List.mem_cons, List.not_mem_nil, or_false] at he
  rcases he with rfl | rfl
  · exact Sh.small h1
  · exact Sh.small h2) (Nat.le_refl _)).mono (by decide) (by decide)
theorem fnP_small {p : Int} {rs : List Road} (ok : NetOk p rs) (s : Int) {v : Int} (v0 : 0 ≤ v) (v1 : v < p) : ∀ x ∈ fnP p rs s v, x.1.natAbs ≤ 1000 ∧ x.2.natAbs ≤ 1000 := fun x hx => by
  unfold fnP frontF at hx
  obtain ⟨r, hr, rfl⟩ := List.mem_map.mp hx
  have p2 := ok.p2
  have k := (frontN_ok (rev_ok ok) (g := s) v0 v1 (k := (p - 1).toNat) (by omega)).1 r hr
  have c0 := k.c0
  have c1 := k.c1
  have t0 := k.t0
  have t1 := k.t1
  show r.c.natAbs ≤ 1000 ∧ r.t.natAbs ≤ 1000
  omega
theorem sh_fnD {p : Int} {rs : List Road} (ok : NetOk p rs) (s : Int) : Sh (fnD p rs s) 1000000 3 := by
  have p2 := ok.p2
  refine (Sh.tuple (n := 90094) (m := 2) (k := 10) (fun d hd => ?_) (by rw [List.length_map, List.length_range]; omega)).mono (by decide) (by decide)
  obtain ⟨v, hv, rfl⟩ := List.mem_map.mp hd
  have hv := List.mem_range.mp hv
  refine (Sh.tuple (n := 88) (m := 1) (k := 1001) (fun e he => ?_) (by rw [List.length_map]; exact fnP_len ok s (by omega) (by omega))).mono (by decide) (by decide)
  obtain ⟨x, hx, rfl⟩ := List.mem_map.mp he
  have := fnP_small ok s (v := (v : Int)) (by omega) (by omega) x hx
  exact sh_prD this.1 this.2
theorem lay_fnD (p : Int) (rs : List Road) (s : Int) : Lay (fnD p rs s) 3 := lay_tup (n := 2) fun d hd => by
  obtain ⟨v, hv, rfl⟩ := List.mem_map.mp hd
  exact lay_tup (n := 1) fun e he => by
    obtain ⟨x, _, rfl⟩ := List.mem_map.mp he
    exact lay_prD x
def rg3 : List Road := [⟨0, 1, 2, 5⟩, ⟨0, 1, 3, 4⟩, ⟨0, 1, 3, 5⟩]
theorem rg3_ok : NetOk 3 rg3 := ⟨by decide, by decide, by decide, fun q hq => by
  have hq : q ∈ ([⟨0, 1, 2, 5⟩, ⟨0, 1, 3, 4⟩, ⟨0, 1, 3, 5⟩] : List Road) := hq
  simp only [List.mem_cons, List.not_mem_nil, or_false] at hq
  rcases hq with rfl | rfl | rfl <;> exact ⟨by decide, by decide, by decide, by decide, by decide, by decide, by decide, by decide, by decide⟩⟩
theorem rg3_pa {g c t : Int} : ∀ {w : List Nat}, Pa rg3 g 0 w c t → (g = 0 ∧ c = 0 ∧ t = 0) ∨ (g = 1 ∧ ((c = 2 ∧ t = 5) ∨ (c = 3 ∧ t = 4) ∨ (c = 3 ∧ t = 5)))
  | [], ⟨h1, h2, h3⟩ => .inl ⟨h1.symm, h2, h3⟩
  | i :: w, ⟨q, e, o, hp⟩ => by
    have hq : q ∈ ([⟨0, 1, 2, 5⟩, ⟨0, 1, 3, 4⟩, ⟨0, 1, 3, 5⟩] : List Road) := List.mem_of_getElem? e
    have o1 : q.other = 1 := by
      simp only [List.mem_cons, List.not_mem_nil, or_false] at hq
      rcases hq with rfl | rfl | rfl <;> rfl
    rw [o1] at hp
    cases w with
    | nil =>
      obtain ⟨h1, h2, h3⟩ := hp
      simp only [List.mem_cons, List.not_mem_nil, or_false] at hq
      rcases hq with rfl | rfl | rfl <;> (dsimp only at h2 h3; omega)
    | cons j w =>
      obtain ⟨q', e', o', _⟩ := hp
      have hq' : q' ∈ ([⟨0, 1, 2, 5⟩, ⟨0, 1, 3, 4⟩, ⟨0, 1, 3, 5⟩] : List Road) := List.mem_of_getElem? e'
      simp only [List.mem_cons, List.not_mem_nil, or_false] at hq'
      rcases hq' with rfl | rfl | rfl <;> cases o'
theorem rg3_way {i : Nat} {q : Road} (e : rg3[i]? = some q) (h : q.one = 0) (h2 : q.other = 1) : PW rg3 1 0 q.cost q.time := ⟨[i], q, e, h, h2, Int.sub_self _, Int.sub_self _⟩
theorem rg3_fn : fnD 3 rg3 0 = .tuple [.tuple [.tuple [.int 0, .int 0]], .tuple [.tuple [.int 2, .int 5], .tuple [.int 3, .int 4]], .tuple []] := by
  have h0 : fnP 3 rg3 0 0 = [(0, 0)] := (fnP_fr rg3_ok 0 (v := 0) (by decide) (by decide)).uniq ⟨fun x hx => by
    rw [List.mem_singleton.mp hx]
    exact ⟨[], rfl, rfl, rfl⟩, List.pairwise_singleton _ _, fun c t ⟨w, hw⟩ => by
    rcases rg3_pa hw with ⟨_, rfl, rfl⟩ | ⟨h, _⟩
    · exact ⟨_, List.mem_cons_self, by decide, by decide⟩
    · cases h⟩
  have h1 : fnP 3 rg3 0 1 = [(2, 5), (3, 4)] := (fnP_fr rg3_ok 0 (v := 1) (by decide) (by decide)).uniq ⟨fun x hx => by
    simp only [List.mem_cons, List.not_mem_nil, or_false] at hx
    rcases hx with rfl | rfl
    · exact rg3_way (i := 0) rfl rfl rfl
    · exact rg3_way (i := 1) rfl rfl rfl, by
      refine List.pairwise_cons.mpr ⟨fun y hy => ?_, List.pairwise_singleton _ _⟩
      rw [List.mem_singleton.mp hy]
      decide, fun c t ⟨w, hw⟩ => by
    rcases rg3_pa hw with ⟨h, _⟩ | ⟨_, h | h | h⟩
    · cases h
    · exact ⟨(2, 5), List.mem_cons_self, by show (2 : Int) ≤ c; omega, by show (5 : Int) ≤ t; omega⟩
    · exact ⟨(3, 4), List.mem_cons_of_mem _ List.mem_cons_self, by show (3 : Int) ≤ c; omega, by show (4 : Int) ≤ t; omega⟩
    · exact ⟨(2, 5), List.mem_cons_self, by show (2 : Int) ≤ c; omega, by show (5 : Int) ≤ t; omega⟩⟩
  have h2 : fnP 3 rg3 0 2 = [] := (fnP_fr rg3_ok 0 (v := 2) (by decide) (by decide)).uniq ⟨(fun x hx => nomatch hx), List.Pairwise.nil, fun c t ⟨w, hw⟩ => by
    rcases rg3_pa hw with ⟨h, _⟩ | ⟨h, _⟩ <;> cases h⟩
  show PyData.tuple [.tuple ((fnP 3 rg3 0 0).map prD), .tuple ((fnP 3 rg3 0 1).map prD), .tuple ((fnP 3 rg3 0 2).map prD)] = _
  rw [h0, h1, h2]
  rfl
set_option maxHeartbeats 4000000 in
theorem law_reads {fL a : Addr} {cdv : Value} {s : Shared} {H : Hp} {ns : List Int} (T : Tx K mg C) (hr : Room 12 (callerA.deeper (envOfC "law" (defScope sLaw) s.heap.objs.size fL cdv))) (hS : SqL K H a (ns.map V.int)) :
    ∃ t, PSs (cxOf CX0 P w K mg base ["_law_script", "_law_k", "_law_state_here", "_law_net_here", "_law_kept", "_law_start", "_law_due", "_law_found"] "law" (defScope sLaw) fL cdv callerA [] s H E0).nox (defBody sLaw) t ∧ t { nx := fun _ _ => V.non = .bl true, rt := fun v _ => v = .bl true } (L2.start ["_law_script", "_law_k", "_law_state_here", "_law_net_here", "_law_kept", "_law_start", "_law_due", "_law_found"] [.ref a]) H := by
  have T0 : LamX.Tabs [] H := fun p hp => nomatch hp
  refine ⟨_, (pss_cons (ps_if (pt_cmpR (op_neK (K := K) rfl hr.units) (pe_cb (c_fence_of (K := K) T) (hr.mono (by decide)) (by rfl) pass0 (pa_cons (pe_tup (pa_cons pe_int (pa_cons (pe_tup (pa_cons (pe_tup (pa_cons pe_int (pa_cons pe_int (pa_cons pe_int (pa_cons pe_int pa_nil))))) (pa_cons (pe_tup (pa_cons pe_int (pa_cons pe_int (pa_cons pe_int (pa_cons pe_int pa_nil))))) (pa_cons (pe_tup (pa_cons pe_int (pa_cons pe_int (pa_cons pe_int (pa_cons pe_int pa_nil))))) pa_nil)))) pa_nil))) (pa_cons pe_int pa_nil))) (pe_tup (pa_cons (pe_tup (pa_cons (pe_tup (pa_cons pe_int (pa_cons pe_int pa_nil))) pa_nil)) (pa_cons (pe_tup (pa_cons (pe_tup (pa_cons pe_int (pa_cons pe_int pa_nil))) (pa_cons (pe_tup (pa_cons pe_int (pa_cons pe_int pa_nil))) pa_nil))) (pa_cons (pe_tup pa_nil) pa_nil)))) (nomark _)) (pss_one (ps_ret pe_bl)) pss_nil)
    (pss_cons (ps_for PassesOwn.never rfl (pi_range1 (by rfl) T.range (pa_cons (pe_callB (call_max2 rfl) (by rfl) T.max (by decide +kernel) (pa_cons pe_int (pa_cons (pe_callB (call_min2 rfl) (by rfl) T.min (by decide +kernel) (pa_cons (pe_callB (call_lenK (K := K) rfl) (by rfl) T.len PySem.boot_len (pa_cons (pv 0) pa_nil)) (pa_cons pe_int pa_nil))) pa_nil))) pa_nil)) (pg_name (i := 1) scLaw.nd rfl (.inl rfl))
    (pss_cons (ps_set (i := 2) scLaw.nd rfl (.inl rfl) (pe_cb (c__law_state (K := K) T) (hr.mono (by decide)) (by rfl) pass0 (pa_cons (pv 0) (pa_cons (pv 1) pa_nil))))
    (pss_cons (ps_set (i := 3) scLaw.nd rfl (.inl rfl) (pe_cb (c__law_net (K := K) T) (hr.mono (by decide)) (by rfl) pass0 (pa_cons (pv 2) (pa_cons pe_int (pa_cons pe_int pa_nil)))))
    (pss_cons (ps_par (i := 4) (j := 5) (by rfl) scLaw.nd rfl rfl (by decide) rfl rfl (pa_cons (pe_callB (call_reprQ (K := K) rfl (by rfl) hr.units) (by rfl) T.repr (by decide +kernel) (pa_cons (pv 3) pa_nil)) (pa_cons (pe_cb (c__law_take (K := K) T) (hr.mono (by decide)) (by rfl) pass0 (pa_cons (pv 2) (pa_cons (pe_ix (ix_seqK (K := K) rfl) (pv 3) pe_int (fun _ _ => rfl)) pa_nil))) pa_nil)) (by rfl))
    (pss_cons (ps_set (i := 6) scLaw.nd rfl (.inl rfl) (pe_cb (c__law_pairs (K := K) T) (hr.mono (by decide)) (by rfl) pass0 (pa_cons (pv 3) (pa_cons (pv 5) pa_nil))))
    (pss_cons (ps_set (i := 7) scLaw.nd rfl (.inl rfl) (pe_lst (pa_cons (pe_cb (c_fence_of (K := K) T) (hr.mono (by decide)) (by rfl) pass0 (pa_cons (pv 3) (pa_cons (pv 5) pa_nil))) (pa_cons (pe_cb (c_fence_of (K := K) T) (hr.mono (by decide)) (by rfl) pass0 (pa_cons (pv 3) (pa_cons (pv 5) pa_nil))) pa_nil))))
    (pss_one (ps_if (PW.pt (pw_or (pt_cmpR op_ne (pe_callB (call_reprQ (K := K) rfl (by rfl) hr.units) (by rfl) T.repr (by decide +kernel) (pa_cons (pv 7) pa_nil)) (pe_callB (call_reprQ (K := K) rfl (by rfl) hr.units) (by rfl) T.repr (by decide +kernel) (pa_cons (pe_lst (pa_cons (pv 6) (pa_cons (pv 6) pa_nil))) pa_nil)) (nomark _)) (pw_or1 (pt_cmpR op_ne (pe_callB (call_reprQ (K := K) rfl (by rfl) hr.units) (by rfl) T.repr (by decide +kernel) (pa_cons (pv 3) pa_nil)) (pv 4) (nomark _))))) (pss_one (ps_ret pe_bl)) pss_nil))))))))
    (pss_one (ps_ret pe_bl)))), ReadsL.run (τ := []) (E := E0) ⟨_, inferInstance, fun ns => ?_⟩ hS T0 (fun G => rfl)⟩
  try simp only [startD, iEn, cvs, cv, vS, Sl.dat, Sl.seq, Sl.sq, Sl.fz, dats, dSetI, dAug, wipeD, List.length_cons, List.length_nil, List.length_append, List.length_replicate, Nat.reduceAdd, Nat.reduceSub, Nat.zero_add, List.replicate_succ, List.replicate_zero, List.cons_append, List.nil_append, List.append_nil, List.set_cons_zero, List.set_cons_succ, List.set_nil, List.getElem?_cons_zero, List.getElem?_cons_succ, Option.getD_some, List.map_cons, List.map_nil, Option.bind_some, fI0_c, fI_c, fU_c, fAddX_i, fAddX_t, fAddX_s, fAddX_mm, fAddX_bm, fAddX_mb, fAddX_bb, fAddX_lm, fAddX_ll, fMulX_i, fMulX_m, fSlX_t, fSlX_m, fSlX_b, fSlX_l, fIs_n, fIs_i, fIs_b, fIs_s, fIs_l, fIs_t, fIs_m, fIs_bl, fLen_t, fLen_l, fLen_m, fLen_b, fLen_scr, fIsi_c, fEqD_c, fEqD_mm, fEqD_bm, fEqD_bb, fEqD_dm, fEq_ss, fInt_i, fInt_b, fTuple_m, fTuple_b, fTuple_t, fTuple_l, fList_m, fList_b, fList_t, fList_l, f2I_c, fRepr_c, fRepr_m, fRepr_b, fStr_c, Bool.not_true, Bool.not_false, true_and, netT, Road.dt, reduceIte, Bool.false_eq_true, decide_true, decide_false, tupK, lstK, dNext_c, dBreak_c, dCont_c, dSeq_c, dDrop_c, dRet_c, retK_d, retK_m, retK_r, dRetN_c, dIfS_c, iteS_t, iteS_f, dSet_c, setK_d, setK_m, setK_s, setK_r, dAsg_c, asgK_d, asgK_m, dFz_c, dNever_c, dRaise_c, dC_c, dOp_c, dUn_c, dTst_c, tstK_c, dTru_c, truK_n, truK_b, truK_i, truK_t, truK_l, truK_m, truK_bl, dNot_c, dAnd_c, andK_t, andK_f, dOr_c, orK_t, orK_f, dAndV_c, andV_t, andV_f, dOrV_c, orV_t, orV_f, dNotV_c, dIf_c, iteE_t, iteE_f, dChain_c, chK_t, chK_f, dNil_c, dCons_c, dCB_c, dCall_c, dCall0_c, dTup_c, dLst_c, dFor_c, dLc_c, iTp_c, tpK_c, iLst_c, lsK_d, lsK_m, iSeq_c, sqK_d, sqK_m, sqK_b, dSl_c, dNo_c, dPt_c, ptK_c, dYes_c, dBack_k, backK_c, dTupRg_c, dLstRg_c, dRg1_c, dRg2_c, rg1K_c, rg2K_c, tupRg_c, lstRg_c, dDict0_c, dDict1_c, gdName_c, gdTup_c, gdCons_c, gdNil_c, dApp_c, appK_c, apK_d, apK_m, dVar_c, varK_d, varK_m, varK_b, varK_s, varK_sc, varK_r, dNew_c, varK_mo, varK_bo, setK_mo, retK_mo, dDIn_c, dinK_i, dinK_s, dDGet_c, dDGet1_c, isBo_c, dget1K_i, dDPut_c, dputV_d, dputK_i, val_mo, dOwn0_c, dDispV_c, dispK_i, fRepT_c, fIsB_c, dM0_c, dM1_c, isStr_c, fQ0_c, fQ1_c, fSplit_c, fLenS_c, iEnSD_c, dSetdIf_c, setdB_f, enSK_m, enSK_d, dOrT_c, dAndT_c, orTK_n, dCallK_c, dCallK0_c, dCallD_c, dCallD0_c, dSaid_c, toldK_d, toldK_m, iRg1_c, rgK_c, iRg2_c, rgK2_c, iEnT_c, enK_c, iZp_c, zpK_tt, zpK_mm, zpK_ll, zpK_lm, zpK_ml, dPar_c, parK_im, parK_nm, parK_sm, parK_dd, parK_md]
  refine ⟨by decide, by decide, by decide, by decide, by decide, 3, rg3, 0, rfl, rg3_ok, by decide, by decide, ?_⟩
  rw [rg3_fn]
  try simp only [startD, iEn, cvs, cv, vS, Sl.dat, Sl.seq, Sl.sq, Sl.fz, dats, dSetI, dAug, wipeD, List.length_cons, List.length_nil, List.length_append, List.length_replicate, Nat.reduceAdd, Nat.reduceSub, Nat.zero_add, List.replicate_succ, List.replicate_zero, List.cons_append, List.nil_append, List.append_nil, List.set_cons_zero, List.set_cons_succ, List.set_nil, List.getElem?_cons_zero, List.getElem?_cons_succ, Option.getD_some, List.map_cons, List.map_nil, Option.bind_some, fI0_c, fI_c, fU_c, fAddX_i, fAddX_t, fAddX_s, fAddX_mm, fAddX_bm, fAddX_mb, fAddX_bb, fAddX_lm, fAddX_ll, fMulX_i, fMulX_m, fSlX_t, fSlX_m, fSlX_b, fSlX_l, fIs_n, fIs_i, fIs_b, fIs_s, fIs_l, fIs_t, fIs_m, fIs_bl, fLen_t, fLen_l, fLen_m, fLen_b, fLen_scr, fIsi_c, fEqD_c, fEqD_mm, fEqD_bm, fEqD_bb, fEqD_dm, fEq_ss, fInt_i, fInt_b, fTuple_m, fTuple_b, fTuple_t, fTuple_l, fList_m, fList_b, fList_t, fList_l, f2I_c, fRepr_c, fRepr_m, fRepr_b, fStr_c, Bool.not_true, Bool.not_false, true_and, netT, Road.dt, reduceIte, Bool.false_eq_true, decide_true, decide_false, tupK, lstK, dNext_c, dBreak_c, dCont_c, dSeq_c, dDrop_c, dRet_c, retK_d, retK_m, retK_r, dRetN_c, dIfS_c, iteS_t, iteS_f, dSet_c, setK_d, setK_m, setK_s, setK_r, dAsg_c, asgK_d, asgK_m, dFz_c, dNever_c, dRaise_c, dC_c, dOp_c, dUn_c, dTst_c, tstK_c, dTru_c, truK_n, truK_b, truK_i, truK_t, truK_l, truK_m, truK_bl, dNot_c, dAnd_c, andK_t, andK_f, dOr_c, orK_t, orK_f, dAndV_c, andV_t, andV_f, dOrV_c, orV_t, orV_f, dNotV_c, dIf_c, iteE_t, iteE_f, dChain_c, chK_t, chK_f, dNil_c, dCons_c, dCB_c, dCall_c, dCall0_c, dTup_c, dLst_c, dFor_c, dLc_c, iTp_c, tpK_c, iLst_c, lsK_d, lsK_m, iSeq_c, sqK_d, sqK_m, sqK_b, dSl_c, dNo_c, dPt_c, ptK_c, dYes_c, dBack_k, backK_c, dTupRg_c, dLstRg_c, dRg1_c, dRg2_c, rg1K_c, rg2K_c, tupRg_c, lstRg_c, dDict0_c, dDict1_c, gdName_c, gdTup_c, gdCons_c, gdNil_c, dApp_c, appK_c, apK_d, apK_m, dVar_c, varK_d, varK_m, varK_b, varK_s, varK_sc, varK_r, dNew_c, varK_mo, varK_bo, setK_mo, retK_mo, dDIn_c, dinK_i, dinK_s, dDGet_c, dDGet1_c, isBo_c, dget1K_i, dDPut_c, dputV_d, dputK_i, val_mo, dOwn0_c, dDispV_c, dispK_i, fRepT_c, fIsB_c, dM0_c, dM1_c, isStr_c, fQ0_c, fQ1_c, fSplit_c, fLenS_c, iEnSD_c, dSetdIf_c, setdB_f, enSK_m, enSK_d, dOrT_c, dAndT_c, orTK_n, dCallK_c, dCallK0_c, dCallD_c, dCallD0_c, dSaid_c, toldK_d, toldK_m, iRg1_c, rgK_c, iRg2_c, rgK2_c, iEnT_c, enK_c, iZp_c, zpK_tt, zpK_mm, zpK_ll, zpK_lm, zpK_ml, dPar_c, parK_im, parK_nm, parK_sm, parK_dd, parK_md]
  refine ⟨by decide, by decide, by decide, by decide, by decide, by decide, by decide, ?_⟩
  try simp only [startD, iEn, cvs, cv, vS, Sl.dat, Sl.seq, Sl.sq, Sl.fz, dats, dSetI, dAug, wipeD, List.length_cons, List.length_nil, List.length_append, List.length_replicate, Nat.reduceAdd, Nat.reduceSub, Nat.zero_add, List.replicate_succ, List.replicate_zero, List.cons_append, List.nil_append, List.append_nil, List.set_cons_zero, List.set_cons_succ, List.set_nil, List.getElem?_cons_zero, List.getElem?_cons_succ, Option.getD_some, List.map_cons, List.map_nil, Option.bind_some, fI0_c, fI_c, fU_c, fAddX_i, fAddX_t, fAddX_s, fAddX_mm, fAddX_bm, fAddX_mb, fAddX_bb, fAddX_lm, fAddX_ll, fMulX_i, fMulX_m, fSlX_t, fSlX_m, fSlX_b, fSlX_l, fIs_n, fIs_i, fIs_b, fIs_s, fIs_l, fIs_t, fIs_m, fIs_bl, fLen_t, fLen_l, fLen_m, fLen_b, fLen_scr, fIsi_c, fEqD_c, fEqD_mm, fEqD_bm, fEqD_bb, fEqD_dm, fEq_ss, fInt_i, fInt_b, fTuple_m, fTuple_b, fTuple_t, fTuple_l, fList_m, fList_b, fList_t, fList_l, f2I_c, fRepr_c, fRepr_m, fRepr_b, fStr_c, Bool.not_true, Bool.not_false, true_and, netT, Road.dt, reduceIte, Bool.false_eq_true, decide_true, decide_false, tupK, lstK, dNext_c, dBreak_c, dCont_c, dSeq_c, dDrop_c, dRet_c, retK_d, retK_m, retK_r, dRetN_c, dIfS_c, iteS_t, iteS_f, dSet_c, setK_d, setK_m, setK_s, setK_r, dAsg_c, asgK_d, asgK_m, dFz_c, dNever_c, dRaise_c, dC_c, dOp_c, dUn_c, dTst_c, tstK_c, dTru_c, truK_n, truK_b, truK_i, truK_t, truK_l, truK_m, truK_bl, dNot_c, dAnd_c, andK_t, andK_f, dOr_c, orK_t, orK_f, dAndV_c, andV_t, andV_f, dOrV_c, orV_t, orV_f, dNotV_c, dIf_c, iteE_t, iteE_f, dChain_c, chK_t, chK_f, dNil_c, dCons_c, dCB_c, dCall_c, dCall0_c, dTup_c, dLst_c, dFor_c, dLc_c, iTp_c, tpK_c, iLst_c, lsK_d, lsK_m, iSeq_c, sqK_d, sqK_m, sqK_b, dSl_c, dNo_c, dPt_c, ptK_c, dYes_c, dBack_k, backK_c, dTupRg_c, dLstRg_c, dRg1_c, dRg2_c, rg1K_c, rg2K_c, tupRg_c, lstRg_c, dDict0_c, dDict1_c, gdName_c, gdTup_c, gdCons_c, gdNil_c, dApp_c, appK_c, apK_d, apK_m, dVar_c, varK_d, varK_m, varK_b, varK_s, varK_sc, varK_r, dNew_c, varK_mo, varK_bo, setK_mo, retK_mo, dDIn_c, dinK_i, dinK_s, dDGet_c, dDGet1_c, isBo_c, dget1K_i, dDPut_c, dputV_d, dputK_i, val_mo, dOwn0_c, dDispV_c, dispK_i, fRepT_c, fIsB_c, dM0_c, dM1_c, isStr_c, fQ0_c, fQ1_c, fSplit_c, fLenS_c, iEnSD_c, dSetdIf_c, setdB_f, enSK_m, enSK_d, dOrT_c, dAndT_c, orTK_n, dCallK_c, dCallK0_c, dCallD_c, dCallD0_c, dSaid_c, toldK_d, toldK_m, iRg1_c, rgK_c, iRg2_c, rgK2_c, iEnT_c, enK_c, iZp_c, zpK_tt, zpK_mm, zpK_ll, zpK_lm, zpK_ml, dPar_c, parK_im, parK_nm, parK_sm, parK_dd, parK_md]
  refine ⟨by decide +kernel, by decide +kernel, ?_⟩
  rw [show PyData.eqv (.tuple [.tuple [.tuple [.int 0, .int 0]], .tuple [.tuple [.int 2, .int 5], .tuple [.int 3, .int 4]], .tuple []]) (.tuple [.tuple [.tuple [.int 0, .int 0]], .tuple [.tuple [.int 2, .int 5], .tuple [.int 3, .int 4]], .tuple []]) = true from by decide +kernel]
  try simp only [startD, iEn, cvs, cv, vS, Sl.dat, Sl.seq, Sl.sq, Sl.fz, dats, dSetI, dAug, wipeD, List.length_cons, List.length_nil, List.length_append, List.length_replicate, Nat.reduceAdd, Nat.reduceSub, Nat.zero_add, List.replicate_succ, List.replicate_zero, List.cons_append, List.nil_append, List.append_nil, List.set_cons_zero, List.set_cons_succ, List.set_nil, List.getElem?_cons_zero, List.getElem?_cons_succ, Option.getD_some, List.map_cons, List.map_nil, Option.bind_some, fI0_c, fI_c, fU_c, fAddX_i, fAddX_t, fAddX_s, fAddX_mm, fAddX_bm, fAddX_mb, fAddX_bb, fAddX_lm, fAddX_ll, fMulX_i, fMulX_m, fSlX_t, fSlX_m, fSlX_b, fSlX_l, fIs_n, fIs_i, fIs_b, fIs_s, fIs_l, fIs_t, fIs_m, fIs_bl, fLen_t, fLen_l, fLen_m, fLen_b, fLen_scr, fIsi_c, fEqD_c, fEqD_mm, fEqD_bm, fEqD_bb, fEqD_dm, fEq_ss, fInt_i, fInt_b, fTuple_m, fTuple_b, fTuple_t, fTuple_l, fList_m, fList_b, fList_t, fList_l, f2I_c, fRepr_c, fRepr_m, fRepr_b, fStr_c, Bool.not_true, Bool.not_false, true_and, netT, Road.dt, reduceIte, Bool.false_eq_true, decide_true, decide_false, tupK, lstK, dNext_c, dBreak_c, dCont_c, dSeq_c, dDrop_c, dRet_c, retK_d, retK_m, retK_r, dRetN_c, dIfS_c, iteS_t, iteS_f, dSet_c, setK_d, setK_m, setK_s, setK_r, dAsg_c, asgK_d, asgK_m, dFz_c, dNever_c, dRaise_c, dC_c, dOp_c, dUn_c, dTst_c, tstK_c, dTru_c, truK_n, truK_b, truK_i, truK_t, truK_l, truK_m, truK_bl, dNot_c, dAnd_c, andK_t, andK_f, dOr_c, orK_t, orK_f, dAndV_c, andV_t, andV_f, dOrV_c, orV_t, orV_f, dNotV_c, dIf_c, iteE_t, iteE_f, dChain_c, chK_t, chK_f, dNil_c, dCons_c, dCB_c, dCall_c, dCall0_c, dTup_c, dLst_c, dFor_c, dLc_c, iTp_c, tpK_c, iLst_c, lsK_d, lsK_m, iSeq_c, sqK_d, sqK_m, sqK_b, dSl_c, dNo_c, dPt_c, ptK_c, dYes_c, dBack_k, backK_c, dTupRg_c, dLstRg_c, dRg1_c, dRg2_c, rg1K_c, rg2K_c, tupRg_c, lstRg_c, dDict0_c, dDict1_c, gdName_c, gdTup_c, gdCons_c, gdNil_c, dApp_c, appK_c, apK_d, apK_m, dVar_c, varK_d, varK_m, varK_b, varK_s, varK_sc, varK_r, dNew_c, varK_mo, varK_bo, setK_mo, retK_mo, dDIn_c, dinK_i, dinK_s, dDGet_c, dDGet1_c, isBo_c, dget1K_i, dDPut_c, dputV_d, dputK_i, val_mo, dOwn0_c, dDispV_c, dispK_i, fRepT_c, fIsB_c, dM0_c, dM1_c, isStr_c, fQ0_c, fQ1_c, fSplit_c, fLenS_c, iEnSD_c, dSetdIf_c, setdB_f, enSK_m, enSK_d, dOrT_c, dAndT_c, orTK_n, dCallK_c, dCallK0_c, dCallD_c, dCallD0_c, dSaid_c, toldK_d, toldK_m, iRg1_c, rgK_c, iRg2_c, rgK2_c, iEnT_c, enK_c, iZp_c, zpK_tt, zpK_mm, zpK_ll, zpK_lm, zpK_ml, dPar_c, parK_im, parK_nm, parK_sm, parK_dd, parK_md]
  refine ⟨by split <;> split <;> omega, by split <;> split <;> omega, ?_⟩
  refine forD_by (fun _ ρ => ∃ y1 y2 y3 y4 y5 y6 y7, ρ = [.scr ns, y1, y2, y3, y4, y5, y6, y7]) ⟨_, _, _, _, _, _, _, rfl⟩ (fun i d ρ N hd h hN => ?_) (fun ρ h => ?_)
  · obtain ⟨y1, y2, y3, y4, y5, y6, y7, rfl⟩ := h
    obtain ⟨_, rfl⟩ := rangeD_get hd
    try simp only [startD, iEn, cvs, cv, vS, Sl.dat, Sl.seq, Sl.sq, Sl.fz, dats, dSetI, dAug, wipeD, List.length_cons, List.length_nil, List.length_append, List.length_replicate, Nat.reduceAdd, Nat.reduceSub, Nat.zero_add, List.replicate_succ, List.replicate_zero, List.cons_append, List.nil_append, List.append_nil, List.set_cons_zero, List.set_cons_succ, List.set_nil, List.getElem?_cons_zero, List.getElem?_cons_succ, Option.getD_some, List.map_cons, List.map_nil, Option.bind_some, fI0_c, fI_c, fU_c, fAddX_i, fAddX_t, fAddX_s, fAddX_mm, fAddX_bm, fAddX_mb, fAddX_bb, fAddX_lm, fAddX_ll, fMulX_i, fMulX_m, fSlX_t, fSlX_m, fSlX_b, fSlX_l, fIs_n, fIs_i, fIs_b, fIs_s, fIs_l, fIs_t, fIs_m, fIs_bl, fLen_t, fLen_l, fLen_m, fLen_b, fLen_scr, fIsi_c, fEqD_c, fEqD_mm, fEqD_bm, fEqD_bb, fEqD_dm, fEq_ss, fInt_i, fInt_b, fTuple_m, fTuple_b, fTuple_t, fTuple_l, fList_m, fList_b, fList_t, fList_l, f2I_c, fRepr_c, fRepr_m, fRepr_b, fStr_c, Bool.not_true, Bool.not_false, true_and, netT, Road.dt, reduceIte, Bool.false_eq_true, decide_true, decide_false, tupK, lstK, dNext_c, dBreak_c, dCont_c, dSeq_c, dDrop_c, dRet_c, retK_d, retK_m, retK_r, dRetN_c, dIfS_c, iteS_t, iteS_f, dSet_c, setK_d, setK_m, setK_s, setK_r, dAsg_c, asgK_d, asgK_m, dFz_c, dNever_c, dRaise_c, dC_c, dOp_c, dUn_c, dTst_c, tstK_c, dTru_c, truK_n, truK_b, truK_i, truK_t, truK_l, truK_m, truK_bl, dNot_c, dAnd_c, andK_t, andK_f, dOr_c, orK_t, orK_f, dAndV_c, andV_t, andV_f, dOrV_c, orV_t, orV_f, dNotV_c, dIf_c, iteE_t, iteE_f, dChain_c, chK_t, chK_f, dNil_c, dCons_c, dCB_c, dCall_c, dCall0_c, dTup_c, dLst_c, dFor_c, dLc_c, iTp_c, tpK_c, iLst_c, lsK_d, lsK_m, iSeq_c, sqK_d, sqK_m, sqK_b, dSl_c, dNo_c, dPt_c, ptK_c, dYes_c, dBack_k, backK_c, dTupRg_c, dLstRg_c, dRg1_c, dRg2_c, rg1K_c, rg2K_c, tupRg_c, lstRg_c, dDict0_c, dDict1_c, gdName_c, gdTup_c, gdCons_c, gdNil_c, dApp_c, appK_c, apK_d, apK_m, dVar_c, varK_d, varK_m, varK_b, varK_s, varK_sc, varK_r, dNew_c, varK_mo, varK_bo, setK_mo, retK_mo, dDIn_c, dinK_i, dinK_s, dDGet_c, dDGet1_c, isBo_c, dget1K_i, dDPut_c, dputV_d, dputK_i, val_mo, dOwn0_c, dDispV_c, dispK_i, fRepT_c, fIsB_c, dM0_c, dM1_c, isStr_c, fQ0_c, fQ1_c, fSplit_c, fLenS_c, iEnSD_c, dSetdIf_c, setdB_f, enSK_m, enSK_d, dOrT_c, dAndT_c, orTK_n, dCallK_c, dCallK0_c, dCallD_c, dCallD0_c, dSaid_c, toldK_d, toldK_m, iRg1_c, rgK_c, iRg2_c, rgK2_c, iEnT_c, enK_c, iZp_c, zpK_tt, zpK_mm, zpK_ll, zpK_lm, zpK_ml, dPar_c, parK_im, parK_nm, parK_sm, parK_dd, parK_md]
    refine ⟨⟨ns, i, by rw [Int.zero_add]⟩, ?_⟩
    refine ⟨8, 16, rfl, by decide, by decide, by decide, by decide, fun p rs ok hp hR => ?_⟩
    have p1 := ok.p1
    have p2 := ok.p2
    have l30 := ok.len
    try simp only [startD, iEn, cvs, cv, vS, Sl.dat, Sl.seq, Sl.sq, Sl.fz, dats, dSetI, dAug, wipeD, List.length_cons, List.length_nil, List.length_append, List.length_replicate, Nat.reduceAdd, Nat.reduceSub, Nat.zero_add, List.replicate_succ, List.replicate_zero, List.cons_append, List.nil_append, List.append_nil, List.set_cons_zero, List.set_cons_succ, List.set_nil, List.getElem?_cons_zero, List.getElem?_cons_succ, Option.getD_some, List.map_cons, List.map_nil, Option.bind_some, fI0_c, fI_c, fU_c, fAddX_i, fAddX_t, fAddX_s, fAddX_mm, fAddX_bm, fAddX_mb, fAddX_bb, fAddX_lm, fAddX_ll, fMulX_i, fMulX_m, fSlX_t, fSlX_m, fSlX_b, fSlX_l, fIs_n, fIs_i, fIs_b, fIs_s, fIs_l, fIs_t, fIs_m, fIs_bl, fLen_t, fLen_l, fLen_m, fLen_b, fLen_scr, fIsi_c, fEqD_c, fEqD_mm, fEqD_bm, fEqD_bb, fEqD_dm, fEq_ss, fInt_i, fInt_b, fTuple_m, fTuple_b, fTuple_t, fTuple_l, fList_m, fList_b, fList_t, fList_l, f2I_c, fRepr_c, fRepr_m, fRepr_b, fStr_c, Bool.not_true, Bool.not_false, true_and, netT, Road.dt, reduceIte, Bool.false_eq_true, decide_true, decide_false, tupK, lstK, dNext_c, dBreak_c, dCont_c, dSeq_c, dDrop_c, dRet_c, retK_d, retK_m, retK_r, dRetN_c, dIfS_c, iteS_t, iteS_f, dSet_c, setK_d, setK_m, setK_s, setK_r, dAsg_c, asgK_d, asgK_m, dFz_c, dNever_c, dRaise_c, dC_c, dOp_c, dUn_c, dTst_c, tstK_c, dTru_c, truK_n, truK_b, truK_i, truK_t, truK_l, truK_m, truK_bl, dNot_c, dAnd_c, andK_t, andK_f, dOr_c, orK_t, orK_f, dAndV_c, andV_t, andV_f, dOrV_c, orV_t, orV_f, dNotV_c, dIf_c, iteE_t, iteE_f, dChain_c, chK_t, chK_f, dNil_c, dCons_c, dCB_c, dCall_c, dCall0_c, dTup_c, dLst_c, dFor_c, dLc_c, iTp_c, tpK_c, iLst_c, lsK_d, lsK_m, iSeq_c, sqK_d, sqK_m, sqK_b, dSl_c, dNo_c, dPt_c, ptK_c, dYes_c, dBack_k, backK_c, dTupRg_c, dLstRg_c, dRg1_c, dRg2_c, rg1K_c, rg2K_c, tupRg_c, lstRg_c, dDict0_c, dDict1_c, gdName_c, gdTup_c, gdCons_c, gdNil_c, dApp_c, appK_c, apK_d, apK_m, dVar_c, varK_d, varK_m, varK_b, varK_s, varK_sc, varK_r, dNew_c, varK_mo, varK_bo, setK_mo, retK_mo, dDIn_c, dinK_i, dinK_s, dDGet_c, dDGet1_c, isBo_c, dget1K_i, dDPut_c, dputV_d, dputK_i, val_mo, dOwn0_c, dDispV_c, dispK_i, fRepT_c, fIsB_c, dM0_c, dM1_c, isStr_c, fQ0_c, fQ1_c, fSplit_c, fLenS_c, iEnSD_c, dSetdIf_c, setdB_f, enSK_m, enSK_d, dOrT_c, dAndT_c, orTK_n, dCallK_c, dCallK0_c, dCallD_c, dCallD0_c, dSaid_c, toldK_d, toldK_m, iRg1_c, rgK_c, iRg2_c, rgK2_c, iEnT_c, enK_c, iZp_c, zpK_tt, zpK_mm, zpK_ll, zpK_lm, zpK_ml, dPar_c, parK_im, parK_nm, parK_sm, parK_dd, parK_md]
    have sn := (Sh.net ok).mono (n' := 10000000) (m' := 50) (by decide) (by decide)
    have on := okR_lay (lay_net p rs)
    refine ⟨sn, on, ?_⟩
    try simp only [startD, iEn, cvs, cv, vS, Sl.dat, Sl.seq, Sl.sq, Sl.fz, dats, dSetI, dAug, wipeD, List.length_cons, List.length_nil, List.length_append, List.length_replicate, Nat.reduceAdd, Nat.reduceSub, Nat.zero_add, List.replicate_succ, List.replicate_zero, List.cons_append, List.nil_append, List.append_nil, List.set_cons_zero, List.set_cons_succ, List.set_nil, List.getElem?_cons_zero, List.getElem?_cons_succ, Option.getD_some, List.map_cons, List.map_nil, Option.bind_some, fI0_c, fI_c, fU_c, fAddX_i, fAddX_t, fAddX_s, fAddX_mm, fAddX_bm, fAddX_mb, fAddX_bb, fAddX_lm, fAddX_ll, fMulX_i, fMulX_m, fSlX_t, fSlX_m, fSlX_b, fSlX_l, fIs_n, fIs_i, fIs_b, fIs_s, fIs_l, fIs_t, fIs_m, fIs_bl, fLen_t, fLen_l, fLen_m, fLen_b, fLen_scr, fIsi_c, fEqD_c, fEqD_mm, fEqD_bm, fEqD_bb, fEqD_dm, fEq_ss, fInt_i, fInt_b, fTuple_m, fTuple_b, fTuple_t, fTuple_l, fList_m, fList_b, fList_t, fList_l, f2I_c, fRepr_c, fRepr_m, fRepr_b, fStr_c, Bool.not_true, Bool.not_false, true_and, netT, Road.dt, reduceIte, Bool.false_eq_true, decide_true, decide_false, tupK, lstK, dNext_c, dBreak_c, dCont_c, dSeq_c, dDrop_c, dRet_c, retK_d, retK_m, retK_r, dRetN_c, dIfS_c, iteS_t, iteS_f, dSet_c, setK_d, setK_m, setK_s, setK_r, dAsg_c, asgK_d, asgK_m, dFz_c, dNever_c, dRaise_c, dC_c, dOp_c, dUn_c, dTst_c, tstK_c, dTru_c, truK_n, truK_b, truK_i, truK_t, truK_l, truK_m, truK_bl, dNot_c, dAnd_c, andK_t, andK_f, dOr_c, orK_t, orK_f, dAndV_c, andV_t, andV_f, dOrV_c, orV_t, orV_f, dNotV_c, dIf_c, iteE_t, iteE_f, dChain_c, chK_t, chK_f, dNil_c, dCons_c, dCB_c, dCall_c, dCall0_c, dTup_c, dLst_c, dFor_c, dLc_c, iTp_c, tpK_c, iLst_c, lsK_d, lsK_m, iSeq_c, sqK_d, sqK_m, sqK_b, dSl_c, dNo_c, dPt_c, ptK_c, dYes_c, dBack_k, backK_c, dTupRg_c, dLstRg_c, dRg1_c, dRg2_c, rg1K_c, rg2K_c, tupRg_c, lstRg_c, dDict0_c, dDict1_c, gdName_c, gdTup_c, gdCons_c, gdNil_c, dApp_c, appK_c, apK_d, apK_m, dVar_c, varK_d, varK_m, varK_b, varK_s, varK_sc, varK_r, dNew_c, varK_mo, varK_bo, setK_mo, retK_mo, dDIn_c, dinK_i, dinK_s, dDGet_c, dDGet1_c, isBo_c, dget1K_i, dDPut_c, dputV_d, dputK_i, val_mo, dOwn0_c, dDispV_c, dispK_i, fRepT_c, fIsB_c, dM0_c, dM1_c, isStr_c, fQ0_c, fQ1_c, fSplit_c, fLenS_c, iEnSD_c, dSetdIf_c, setdB_f, enSK_m, enSK_d, dOrT_c, dAndT_c, orTK_n, dCallK_c, dCallK0_c, dCallD_c, dCallD0_c, dSaid_c, toldK_d, toldK_m, iRg1_c, rgK_c, iRg2_c, rgK2_c, iEnT_c, enK_c, iZp_c, zpK_tt, zpK_mm, zpK_ll, zpK_lm, zpK_ml, dPar_c, parK_im, parK_nm, parK_sm, parK_dd, parK_md]
    refine fIx_at (n := 0) rfl ?_
    try simp only [startD, iEn, cvs, cv, vS, Sl.dat, Sl.seq, Sl.sq, Sl.fz, dats, dSetI, dAug, wipeD, List.length_cons, List.length_nil, List.length_append, List.length_replicate, Nat.reduceAdd, Nat.reduceSub, Nat.zero_add, List.replicate_succ, List.replicate_zero, List.cons_append, List.nil_append, List.append_nil, List.set_cons_zero, List.set_cons_succ, List.set_nil, List.getElem?_cons_zero, List.getElem?_cons_succ, Option.getD_some, List.map_cons, List.map_nil, Option.bind_some, fI0_c, fI_c, fU_c, fAddX_i, fAddX_t, fAddX_s, fAddX_mm, fAddX_bm, fAddX_mb, fAddX_bb, fAddX_lm, fAddX_ll, fMulX_i, fMulX_m, fSlX_t, fSlX_m, fSlX_b, fSlX_l, fIs_n, fIs_i, fIs_b, fIs_s, fIs_l, fIs_t, fIs_m, fIs_bl, fLen_t, fLen_l, fLen_m, fLen_b, fLen_scr, fIsi_c, fEqD_c, fEqD_mm, fEqD_bm, fEqD_bb, fEqD_dm, fEq_ss, fInt_i, fInt_b, fTuple_m, fTuple_b, fTuple_t, fTuple_l, fList_m, fList_b, fList_t, fList_l, f2I_c, fRepr_c, fRepr_m, fRepr_b, fStr_c, Bool.not_true, Bool.not_false, true_and, netT, Road.dt, reduceIte, Bool.false_eq_true, decide_true, decide_false, tupK, lstK, dNext_c, dBreak_c, dCont_c, dSeq_c, dDrop_c, dRet_c, retK_d, retK_m, retK_r, dRetN_c, dIfS_c, iteS_t, iteS_f, dSet_c, setK_d, setK_m, setK_s, setK_r, dAsg_c, asgK_d, asgK_m, dFz_c, dNever_c, dRaise_c, dC_c, dOp_c, dUn_c, dTst_c, tstK_c, dTru_c, truK_n, truK_b, truK_i, truK_t, truK_l, truK_m, truK_bl, dNot_c, dAnd_c, andK_t, andK_f, dOr_c, orK_t, orK_f, dAndV_c, andV_t, andV_f, dOrV_c, orV_t, orV_f, dNotV_c, dIf_c, iteE_t, iteE_f, dChain_c, chK_t, chK_f, dNil_c, dCons_c, dCB_c, dCall_c, dCall0_c, dTup_c, dLst_c, dFor_c, dLc_c, iTp_c, tpK_c, iLst_c, lsK_d, lsK_m, iSeq_c, sqK_d, sqK_m, sqK_b, dSl_c, dNo_c, dPt_c, ptK_c, dYes_c, dBack_k, backK_c, dTupRg_c, dLstRg_c, dRg1_c, dRg2_c, rg1K_c, rg2K_c, tupRg_c, lstRg_c, dDict0_c, dDict1_c, gdName_c, gdTup_c, gdCons_c, gdNil_c, dApp_c, appK_c, apK_d, apK_m, dVar_c, varK_d, varK_m, varK_b, varK_s, varK_sc, varK_r, dNew_c, varK_mo, varK_bo, setK_mo, retK_mo, dDIn_c, dinK_i, dinK_s, dDGet_c, dDGet1_c, isBo_c, dget1K_i, dDPut_c, dputV_d, dputK_i, val_mo, dOwn0_c, dDispV_c, dispK_i, fRepT_c, fIsB_c, dM0_c, dM1_c, isStr_c, fQ0_c, fQ1_c, fSplit_c, fLenS_c, iEnSD_c, dSetdIf_c, setdB_f, enSK_m, enSK_d, dOrT_c, dAndT_c, orTK_n, dCallK_c, dCallK0_c, dCallD_c, dCallD0_c, dSaid_c, toldK_d, toldK_m, iRg1_c, rgK_c, iRg2_c, rgK2_c, iEnT_c, enK_c, iZp_c, zpK_tt, zpK_mm, zpK_ll, zpK_lm, zpK_ml, dPar_c, parK_im, parK_nm, parK_sm, parK_dd, parK_md]
    refine ⟨p, rfl, by omega, by omega, fun a a0 a1 => ?_⟩
    try simp only [startD, iEn, cvs, cv, vS, Sl.dat, Sl.seq, Sl.sq, Sl.fz, dats, dSetI, dAug, wipeD, List.length_cons, List.length_nil, List.length_append, List.length_replicate, Nat.reduceAdd, Nat.reduceSub, Nat.zero_add, List.replicate_succ, List.replicate_zero, List.cons_append, List.nil_append, List.append_nil, List.set_cons_zero, List.set_cons_succ, List.set_nil, List.getElem?_cons_zero, List.getElem?_cons_succ, Option.getD_some, List.map_cons, List.map_nil, Option.bind_some, fI0_c, fI_c, fU_c, fAddX_i, fAddX_t, fAddX_s, fAddX_mm, fAddX_bm, fAddX_mb, fAddX_bb, fAddX_lm, fAddX_ll, fMulX_i, fMulX_m, fSlX_t, fSlX_m, fSlX_b, fSlX_l, fIs_n, fIs_i, fIs_b, fIs_s, fIs_l, fIs_t, fIs_m, fIs_bl, fLen_t, fLen_l, fLen_m, fLen_b, fLen_scr, fIsi_c, fEqD_c, fEqD_mm, fEqD_bm, fEqD_bb, fEqD_dm, fEq_ss, fInt_i, fInt_b, fTuple_m, fTuple_b, fTuple_t, fTuple_l, fList_m, fList_b, fList_t, fList_l, f2I_c, fRepr_c, fRepr_m, fRepr_b, fStr_c, Bool.not_true, Bool.not_false, true_and, netT, Road.dt, reduceIte, Bool.false_eq_true, decide_true, decide_false, tupK, lstK, dNext_c, dBreak_c, dCont_c, dSeq_c, dDrop_c, dRet_c, retK_d, retK_m, retK_r, dRetN_c, dIfS_c, iteS_t, iteS_f, dSet_c, setK_d, setK_m, setK_s, setK_r, dAsg_c, asgK_d, asgK_m, dFz_c, dNever_c, dRaise_c, dC_c, dOp_c, dUn_c, dTst_c, tstK_c, dTru_c, truK_n, truK_b, truK_i, truK_t, truK_l, truK_m, truK_bl, dNot_c, dAnd_c, andK_t, andK_f, dOr_c, orK_t, orK_f, dAndV_c, andV_t, andV_f, dOrV_c, orV_t, orV_f, dNotV_c, dIf_c, iteE_t, iteE_f, dChain_c, chK_t, chK_f, dNil_c, dCons_c, dCB_c, dCall_c, dCall0_c, dTup_c, dLst_c, dFor_c, dLc_c, iTp_c, tpK_c, iLst_c, lsK_d, lsK_m, iSeq_c, sqK_d, sqK_m, sqK_b, dSl_c, dNo_c, dPt_c, ptK_c, dYes_c, dBack_k, backK_c, dTupRg_c, dLstRg_c, dRg1_c, dRg2_c, rg1K_c, rg2K_c, tupRg_c, lstRg_c, dDict0_c, dDict1_c, gdName_c, gdTup_c, gdCons_c, gdNil_c, dApp_c, appK_c, apK_d, apK_m, dVar_c, varK_d, varK_m, varK_b, varK_s, varK_sc, varK_r, dNew_c, varK_mo, varK_bo, setK_mo, retK_mo, dDIn_c, dinK_i, dinK_s, dDGet_c, dDGet1_c, isBo_c, dget1K_i, dDPut_c, dputV_d, dputK_i, val_mo, dOwn0_c, dDispV_c, dispK_i, fRepT_c, fIsB_c, dM0_c, dM1_c, isStr_c, fQ0_c, fQ1_c, fSplit_c, fLenS_c, iEnSD_c, dSetdIf_c, setdB_f, enSK_m, enSK_d, dOrT_c, dAndT_c, orTK_n, dCallK_c, dCallK0_c, dCallD_c, dCallD0_c, dSaid_c, toldK_d, toldK_m, iRg1_c, rgK_c, iRg2_c, rgK2_c, iEnT_c, enK_c, iZp_c, zpK_tt, zpK_mm, zpK_ll, zpK_lm, zpK_ml, dPar_c, parK_im, parK_nm, parK_sm, parK_dd, parK_md]
    refine ⟨p, rs, a, rfl, ok, a0, a1, ?_⟩
    try simp only [startD, iEn, cvs, cv, vS, Sl.dat, Sl.seq, Sl.sq, Sl.fz, dats, dSetI, dAug, wipeD, List.length_cons, List.length_nil, List.length_append, List.length_replicate, Nat.reduceAdd, Nat.reduceSub, Nat.zero_add, List.replicate_succ, List.replicate_zero, List.cons_append, List.nil_append, List.append_nil, List.set_cons_zero, List.set_cons_succ, List.set_nil, List.getElem?_cons_zero, List.getElem?_cons_succ, Option.getD_some, List.map_cons, List.map_nil, Option.bind_some, fI0_c, fI_c, fU_c, fAddX_i, fAddX_t, fAddX_s, fAddX_mm, fAddX_bm, fAddX_mb, fAddX_bb, fAddX_lm, fAddX_ll, fMulX_i, fMulX_m, fSlX_t, fSlX_m, fSlX_b, fSlX_l, fIs_n, fIs_i, fIs_b, fIs_s, fIs_l, fIs_t, fIs_m, fIs_bl, fLen_t, fLen_l, fLen_m, fLen_b, fLen_scr, fIsi_c, fEqD_c, fEqD_mm, fEqD_bm, fEqD_bb, fEqD_dm, fEq_ss, fInt_i, fInt_b, fTuple_m, fTuple_b, fTuple_t, fTuple_l, fList_m, fList_b, fList_t, fList_l, f2I_c, fRepr_c, fRepr_m, fRepr_b, fStr_c, Bool.not_true, Bool.not_false, true_and, netT, Road.dt, reduceIte, Bool.false_eq_true, decide_true, decide_false, tupK, lstK, dNext_c, dBreak_c, dCont_c, dSeq_c, dDrop_c, dRet_c, retK_d, retK_m, retK_r, dRetN_c, dIfS_c, iteS_t, iteS_f, dSet_c, setK_d, setK_m, setK_s, setK_r, dAsg_c, asgK_d, asgK_m, dFz_c, dNever_c, dRaise_c, dC_c, dOp_c, dUn_c, dTst_c, tstK_c, dTru_c, truK_n, truK_b, truK_i, truK_t, truK_l, truK_m, truK_bl, dNot_c, dAnd_c, andK_t, andK_f, dOr_c, orK_t, orK_f, dAndV_c, andV_t, andV_f, dOrV_c, orV_t, orV_f, dNotV_c, dIf_c, iteE_t, iteE_f, dChain_c, chK_t, chK_f, dNil_c, dCons_c, dCB_c, dCall_c, dCall0_c, dTup_c, dLst_c, dFor_c, dLc_c, iTp_c, tpK_c, iLst_c, lsK_d, lsK_m, iSeq_c, sqK_d, sqK_m, sqK_b, dSl_c, dNo_c, dPt_c, ptK_c, dYes_c, dBack_k, backK_c, dTupRg_c, dLstRg_c, dRg1_c, dRg2_c, rg1K_c, rg2K_c, tupRg_c, lstRg_c, dDict0_c, dDict1_c, gdName_c, gdTup_c, gdCons_c, gdNil_c, dApp_c, appK_c, apK_d, apK_m, dVar_c, varK_d, varK_m, varK_b, varK_s, varK_sc, varK_r, dNew_c, varK_mo, varK_bo, setK_mo, retK_mo, dDIn_c, dinK_i, dinK_s, dDGet_c, dDGet1_c, isBo_c, dget1K_i, dDPut_c, dputV_d, dputK_i, val_mo, dOwn0_c, dDispV_c, dispK_i, fRepT_c, fIsB_c, dM0_c, dM1_c, isStr_c, fQ0_c, fQ1_c, fSplit_c, fLenS_c, iEnSD_c, dSetdIf_c, setdB_f, enSK_m, enSK_d, dOrT_c, dAndT_c, orTK_n, dCallK_c, dCallK0_c, dCallD_c, dCallD0_c, dSaid_c, toldK_d, toldK_m, iRg1_c, rgK_c, iRg2_c, rgK2_c, iEnT_c, enK_c, iZp_c, zpK_tt, zpK_mm, zpK_ll, zpK_lm, zpK_ml, dPar_c, parK_im, parK_nm, parK_sm, parK_dd, parK_md]
    refine ⟨p, rs, a, rfl, ok, a0, a1, p, rs, a, rfl, ok, a0, a1, ?_⟩
    have sf := sh_fnD ok a
    have lf := lay_fnD p rs a
    have s2 : Sh (.list [fnD p rs a, fnD p rs a]) 10000000 50 := (Sh.list (n := 1000000) (m := 3) (k := 2) (fun e he => by
      simp only [List.mem_cons, List.not_mem_nil, or_false, or_self] at he
      rw [he]
      exact sf) (Nat.le_refl _)).mono (by decide) (by decide)
    have o2 : okR (.list [fnD p rs a, fnD p rs a]) = true := okR_lay (n := 4) (lay_lst (n := 3) fun e he => by
      simp only [List.mem_cons, List.not_mem_nil, or_false, or_self] at he
      rw [he]
      exact lf)
    try simp only [startD, iEn, cvs, cv, vS, Sl.dat, Sl.seq, Sl.sq, Sl.fz, dats, dSetI, dAug, wipeD, List.length_cons, List.length_nil, List.length_append, List.length_replicate, Nat.reduceAdd, Nat.reduceSub, Nat.zero_add, List.replicate_succ, List.replicate_zero, List.cons_append, List.nil_append, List.append_nil, List.set_cons_zero, List.set_cons_succ, List.set_nil, List.getElem?_cons_zero, List.getElem?_cons_succ, Option.getD_some, List.map_cons, List.map_nil, Option.bind_some, fI0_c, fI_c, fU_c, fAddX_i, fAddX_t, fAddX_s, fAddX_mm, fAddX_bm, fAddX_mb, fAddX_bb, fAddX_lm, fAddX_ll, fMulX_i, fMulX_m, fSlX_t, fSlX_m, fSlX_b, fSlX_l, fIs_n, fIs_i, fIs_b, fIs_s, fIs_l, fIs_t, fIs_m, fIs_bl, fLen_t, fLen_l, fLen_m, fLen_b, fLen_scr, fIsi_c, fEqD_c, fEqD_mm, fEqD_bm, fEqD_bb, fEqD_dm, fEq_ss, fInt_i, fInt_b, fTuple_m, fTuple_b, fTuple_t, fTuple_l, fList_m, fList_b, fList_t, fList_l, f2I_c, fRepr_c, fRepr_m, fRepr_b, fStr_c, Bool.not_true, Bool.not_false, true_and, netT, Road.dt, reduceIte, Bool.false_eq_true, decide_true, decide_false, tupK, lstK, dNext_c, dBreak_c, dCont_c, dSeq_c, dDrop_c, dRet_c, retK_d, retK_m, retK_r, dRetN_c, dIfS_c, iteS_t, iteS_f, dSet_c, setK_d, setK_m, setK_s, setK_r, dAsg_c, asgK_d, asgK_m, dFz_c, dNever_c, dRaise_c, dC_c, dOp_c, dUn_c, dTst_c, tstK_c, dTru_c, truK_n, truK_b, truK_i, truK_t, truK_l, truK_m, truK_bl, dNot_c, dAnd_c, andK_t, andK_f, dOr_c, orK_t, orK_f, dAndV_c, andV_t, andV_f, dOrV_c, orV_t, orV_f, dNotV_c, dIf_c, iteE_t, iteE_f, dChain_c, chK_t, chK_f, dNil_c, dCons_c, dCB_c, dCall_c, dCall0_c, dTup_c, dLst_c, dFor_c, dLc_c, iTp_c, tpK_c, iLst_c, lsK_d, lsK_m, iSeq_c, sqK_d, sqK_m, sqK_b, dSl_c, dNo_c, dPt_c, ptK_c, dYes_c, dBack_k, backK_c, dTupRg_c, dLstRg_c, dRg1_c, dRg2_c, rg1K_c, rg2K_c, tupRg_c, lstRg_c, dDict0_c, dDict1_c, gdName_c, gdTup_c, gdCons_c, gdNil_c, dApp_c, appK_c, apK_d, apK_m, dVar_c, varK_d, varK_m, varK_b, varK_s, varK_sc, varK_r, dNew_c, varK_mo, varK_bo, setK_mo, retK_mo, dDIn_c, dinK_i, dinK_s, dDGet_c, dDGet1_c, isBo_c, dget1K_i, dDPut_c, dputV_d, dputK_i, val_mo, dOwn0_c, dDispV_c, dispK_i, fRepT_c, fIsB_c, dM0_c, dM1_c, isStr_c, fQ0_c, fQ1_c, fSplit_c, fLenS_c, iEnSD_c, dSetdIf_c, setdB_f, enSK_m, enSK_d, dOrT_c, dAndT_c, orTK_n, dCallK_c, dCallK0_c, dCallD_c, dCallD0_c, dSaid_c, toldK_d, toldK_m, iRg1_c, rgK_c, iRg2_c, rgK2_c, iEnT_c, enK_c, iZp_c, zpK_tt, zpK_mm, zpK_ll, zpK_lm, zpK_ml, dPar_c, parK_im, parK_nm, parK_sm, parK_dd, parK_md]
    exact ⟨by decide, s2, o2, by decide, s2, o2, sn, on, hN _ ⟨_, _, _, _, _, _, _, rfl⟩⟩
  · obtain ⟨y1, y2, y3, y4, y5, y6, y7, rfl⟩ := h
    try simp only [startD, iEn, cvs, cv, vS, Sl.dat, Sl.seq, Sl.sq, Sl.fz, dats, dSetI, dAug, wipeD, List.length_cons, List.length_nil, List.length_append, List.length_replicate, Nat.reduceAdd, Nat.reduceSub, Nat.zero_add, List.replicate_succ, List.replicate_zero, List.cons_append, List.nil_append, List.append_nil, List.set_cons_zero, List.set_cons_succ, List.set_nil, List.getElem?_cons_zero, List.getElem?_cons_succ, Option.getD_some, List.map_cons, List.map_nil, Option.bind_some, fI0_c, fI_c, fU_c, fAddX_i, fAddX_t, fAddX_s, fAddX_mm, fAddX_bm, fAddX_mb, fAddX_bb, fAddX_lm, fAddX_ll, fMulX_i, fMulX_m, fSlX_t, fSlX_m, fSlX_b, fSlX_l, fIs_n, fIs_i, fIs_b, fIs_s, fIs_l, fIs_t, fIs_m, fIs_bl, fLen_t, fLen_l, fLen_m, fLen_b, fLen_scr, fIsi_c, fEqD_c, fEqD_mm, fEqD_bm, fEqD_bb, fEqD_dm, fEq_ss, fInt_i, fInt_b, fTuple_m, fTuple_b, fTuple_t, fTuple_l, fList_m, fList_b, fList_t, fList_l, f2I_c, fRepr_c, fRepr_m, fRepr_b, fStr_c, Bool.not_true, Bool.not_false, true_and, netT, Road.dt, reduceIte, Bool.false_eq_true, decide_true, decide_false, tupK, lstK, dNext_c, dBreak_c, dCont_c, dSeq_c, dDrop_c, dRet_c, retK_d, retK_m, retK_r, dRetN_c, dIfS_c, iteS_t, iteS_f, dSet_c, setK_d, setK_m, setK_s, setK_r, dAsg_c, asgK_d, asgK_m, dFz_c, dNever_c, dRaise_c, dC_c, dOp_c, dUn_c, dTst_c, tstK_c, dTru_c, truK_n, truK_b, truK_i, truK_t, truK_l, truK_m, truK_bl, dNot_c, dAnd_c, andK_t, andK_f, dOr_c, orK_t, orK_f, dAndV_c, andV_t, andV_f, dOrV_c, orV_t, orV_f, dNotV_c, dIf_c, iteE_t, iteE_f, dChain_c, chK_t, chK_f, dNil_c, dCons_c, dCB_c, dCall_c, dCall0_c, dTup_c, dLst_c, dFor_c, dLc_c, iTp_c, tpK_c, iLst_c, lsK_d, lsK_m, iSeq_c, sqK_d, sqK_m, sqK_b, dSl_c, dNo_c, dPt_c, ptK_c, dYes_c, dBack_k, backK_c, dTupRg_c, dLstRg_c, dRg1_c, dRg2_c, rg1K_c, rg2K_c, tupRg_c, lstRg_c, dDict0_c, dDict1_c, gdName_c, gdTup_c, gdCons_c, gdNil_c, dApp_c, appK_c, apK_d, apK_m, dVar_c, varK_d, varK_m, varK_b, varK_s, varK_sc, varK_r, dNew_c, varK_mo, varK_bo, setK_mo, retK_mo, dDIn_c, dinK_i, dinK_s, dDGet_c, dDGet1_c, isBo_c, dget1K_i, dDPut_c, dputV_d, dputK_i, val_mo, dOwn0_c, dDispV_c, dispK_i, fRepT_c, fIsB_c, dM0_c, dM1_c, isStr_c, fQ0_c, fQ1_c, fSplit_c, fLenS_c, iEnSD_c, dSetdIf_c, setdB_f, enSK_m, enSK_d, dOrT_c, dAndT_c, orTK_n, dCallK_c, dCallK0_c, dCallD_c, dCallD0_c, dSaid_c, toldK_d, toldK_m, iRg1_c, rgK_c, iRg2_c, rgK2_c, iEnT_c, enK_c, iZp_c, zpK_tt, zpK_mm, zpK_ll, zpK_lm, zpK_ml, dPar_c, parK_im, parK_nm, parK_sm, parK_dd, parK_md]
end
end Wy

namespace Wy
open PySem PySem.Spec PyProof.Rows L2 LamX Dl
set_option maxHeartbeats 4000000 in
theorem fin_mk {P : Program} {w : World} {K : PySem.W.Frag} {h : Heap} {mg : Str → Option Value} {fa fd0 fd1 fd2 fd3 fd4 fd5 fd6 fd7 fd8 fd9 fd10 fd11 fd12 fd13 fd14 fL e0 e1 : Addr} {t0 t1 t2 t3 t4 : Tok}
    {odd0 and0 : Option Addr} {sld0 : Array (Option Value)} {ocd0 kVd0 dcd0 pmd0 ctd0 cdd0 : Value}
    {odd1 and1 : Option Addr} {sld1 : Array (Option Value)} {ocd1 kVd1 dcd1 pmd1 ctd1 cdd1 : Value}
    {odd2 and2 : Option Addr} {sld2 : Array (Option Value)} {ocd2 kVd2 dcd2 pmd2 ctd2 cdd2 : Value}
    {odd3 and3 : Option Addr} {sld3 : Array (Option Value)} {ocd3 kVd3 dcd3 pmd3 ctd3 cdd3 : Value}
    {odd4 and4 : Option Addr} {sld4 : Array (Option Value)} {ocd4 kVd4 dcd4 pmd4 ctd4 cdd4 : Value}
    {odd5 and5 : Option Addr} {sld5 : Array (Option Value)} {ocd5 kVd5 dcd5 pmd5 ctd5 cdd5 : Value}
    {odd6 and6 : Option Addr} {sld6 : Array (Option Value)} {ocd6 kVd6 dcd6 pmd6 ctd6 cdd6 : Value}
    {odd7 and7 : Option Addr} {sld7 : Array (Option Value)} {ocd7 kVd7 dcd7 pmd7 ctd7 cdd7 : Value}
    {odd8 and8 : Option Addr} {sld8 : Array (Option Value)} {ocd8 kVd8 dcd8 pmd8 ctd8 cdd8 : Value}
    {odd9 and9 : Option Addr} {sld9 : Array (Option Value)} {ocd9 kVd9 dcd9 pmd9 ctd9 cdd9 : Value}
    {odd10 and10 : Option Addr} {sld10 : Array (Option Value)} {ocd10 kVd10 dcd10 pmd10 ctd10 cdd10 : Value}
    {odd11 and11 : Option Addr} {sld11 : Array (Option Value)} {ocd11 kVd11 dcd11 pmd11 ctd11 cdd11 : Value}
    {odd12 and12 : Option Addr} {sld12 : Array (Option Value)} {ocd12 kVd12 dcd12 pmd12 ctd12 cdd12 : Value}
    {odd13 and13 : Option Addr} {sld13 : Array (Option Value)} {ocd13 kVd13 dcd13 pmd13 ctd13 cdd13 : Value}
    {odd14 and14 : Option Addr} {sld14 : Array (Option Value)} {ocd14 kVd14 dcd14 pmd14 ctd14 cdd14 : Value}
    {odL anL : Option Addr} {slL : Array (Option Value)} {ocL kVL dcL pmL ctL cdL : Value}
    (X : K.In h) (G : h.Ns mainGlobals mg) (hfa : mg "law" = some (.ref fa))
    (ad0 : PySem.W.nsIn K mainGlobals "is_whole" = some (some (.ref fd0)))
    (ld0 : K.lookup fd0 = some ⟨ocd0, odd0, .func (PySem.W.fnOf "is_whole" "is_whole" (defArgs s_is_whole) (defBody s_is_whole) (defScope s_is_whole) .none kVd0 dcd0 pmd0 and0 cdd0 ctd0), sld0⟩)
    (cd0_ : PySem.W.codeIn K cdd0 "is_whole" = true)
    (kd0_ : PySem.W.keepIn K (.ref fd0) = true)
    (ad1 : PySem.W.nsIn K mainGlobals "is_within" = some (some (.ref fd1)))
    (ld1 : K.lookup fd1 = some ⟨ocd1, odd1, .func (PySem.W.fnOf "is_within" "is_within" (defArgs s_is_within) (defBody s_is_within) (defScope s_is_within) .none kVd1 dcd1 pmd1 and1 cdd1 ctd1), sld1⟩)
    (cd1_ : PySem.W.codeIn K cdd1 "is_within" = true)
    (kd1_ : PySem.W.keepIn K (.ref fd1) = true)
    (ad2 : PySem.W.nsIn K mainGlobals "is_tuple_of" = some (some (.ref fd2)))
    (ld2 : K.lookup fd2 = some ⟨ocd2, odd2, .func (PySem.W.fnOf "is_tuple_of" "is_tuple_of" (defArgs s_is_tuple_of) (defBody s_is_tuple_of) (defScope s_is_tuple_of) .none kVd2 dcd2 pmd2 and2 cdd2 ctd2), sld2⟩)
    (cd2_ : PySem.W.codeIn K cdd2 "is_tuple_of" = true)
    (kd2_ : PySem.W.keepIn K (.ref fd2) = true)
    (ad3 : PySem.W.nsIn K mainGlobals "is_road_among" = some (some (.ref fd3)))
    (ld3 : K.lookup fd3 = some ⟨ocd3, odd3, .func (PySem.W.fnOf "is_road_among" "is_road_among" (defArgs s_is_road_among) (defBody s_is_road_among) (defScope s_is_road_among) .none kVd3 dcd3 pmd3 and3 cdd3 ctd3), sld3⟩)
    (cd3_ : PySem.W.codeIn K cdd3 "is_road_among" = true)
    (kd3_ : PySem.W.keepIn K (.ref fd3) = true)
    (ad4 : PySem.W.nsIn K mainGlobals "is_net" = some (some (.ref fd4)))
    (ld4 : K.lookup fd4 = some ⟨ocd4, odd4, .func (PySem.W.fnOf "is_net" "is_net" (defArgs s_is_net) (defBody s_is_net) (defScope s_is_net) .none kVd4 dcd4 pmd4 and4 cdd4 ctd4), sld4⟩)
    (cd4_ : PySem.W.codeIn K cdd4 "is_net" = true)
    (kd4_ : PySem.W.keepIn K (.ref fd4) = true)
    (ad5 : PySem.W.nsIn K mainGlobals "check_net" = some (some (.ref fd5)))
    (ld5 : K.lookup fd5 = some ⟨ocd5, odd5, .func (PySem.W.fnOf "check_net" "check_net" (defArgs s_check_net) (defBody s_check_net) (defScope s_check_net) .none kVd5 dcd5 pmd5 and5 cdd5 ctd5), sld5⟩)
    (cd5_ : PySem.W.codeIn K cdd5 "check_net" = true)
    (kd5_ : PySem.W.keepIn K (.ref fd5) = true)
    (ad6 : PySem.W.nsIn K mainGlobals "check_place" = some (some (.ref fd6)))
    (ld6 : K.lookup fd6 = some ⟨ocd6, odd6, .func (PySem.W.fnOf "check_place" "check_place" (defArgs s_check_place) (defBody s_check_place) (defScope s_check_place) .none kVd6 dcd6 pmd6 and6 cdd6 ctd6), sld6⟩)
    (cd6_ : PySem.W.codeIn K cdd6 "check_place" = true)
    (kd6_ : PySem.W.keepIn K (.ref fd6) = true)
    (ad7 : PySem.W.nsIn K mainGlobals "unbeaten" = some (some (.ref fd7)))
    (ld7 : K.lookup fd7 = some ⟨ocd7, odd7, .func (PySem.W.fnOf "unbeaten" "unbeaten" (defArgs s_unbeaten) (defBody s_unbeaten) (defScope s_unbeaten) .none kVd7 dcd7 pmd7 and7 cdd7 ctd7), sld7⟩)
    (cd7_ : PySem.W.codeIn K cdd7 "unbeaten" = true)
    (kd7_ : PySem.W.keepIn K (.ref fd7) = true)
    (ad8 : PySem.W.nsIn K mainGlobals "fronts_to" = some (some (.ref fd8)))
    (ld8 : K.lookup fd8 = some ⟨ocd8, odd8, .func (PySem.W.fnOf "fronts_to" "fronts_to" (defArgs s_fronts_to) (defBody s_fronts_to) (defScope s_fronts_to) .none kVd8 dcd8 pmd8 and8 cdd8 ctd8), sld8⟩)
    (cd8_ : PySem.W.codeIn K cdd8 "fronts_to" = true)
    (kd8_ : PySem.W.keepIn K (.ref fd8) = true)
    (ad9 : PySem.W.nsIn K mainGlobals "fence_of" = some (some (.ref fd9)))
    (ld9 : K.lookup fd9 = some ⟨ocd9, odd9, .func (PySem.W.fnOf "fence_of" "fence_of" (defArgs s_fence_of) (defBody s_fence_of) (defScope s_fence_of) .none kVd9 dcd9 pmd9 and9 cdd9 ctd9), sld9⟩)
    (cd9_ : PySem.W.codeIn K cdd9 "fence_of" = true)
    (kd9_ : PySem.W.keepIn K (.ref fd9) = true)
    (ad10 : PySem.W.nsIn K mainGlobals "_law_cell_at" = some (some (.ref fd10)))
    (ld10 : K.lookup fd10 = some ⟨ocd10, odd10, .func (PySem.W.fnOf "_law_cell_at" "_law_cell_at" (defArgs s__law_cell_at) (defBody s__law_cell_at) (defScope s__law_cell_at) .none kVd10 dcd10 pmd10 and10 cdd10 ctd10), sld10⟩)
    (cd10_ : PySem.W.codeIn K cdd10 "_law_cell_at" = true)
    (kd10_ : PySem.W.keepIn K (.ref fd10) = true)
    (ad11 : PySem.W.nsIn K mainGlobals "_law_state" = some (some (.ref fd11)))
    (ld11 : K.lookup fd11 = some ⟨ocd11, odd11, .func (PySem.W.fnOf "_law_state" "_law_state" (defArgs s__law_state) (defBody s__law_state) (defScope s__law_state) .none kVd11 dcd11 pmd11 and11 cdd11 ctd11), sld11⟩)
    (cd11_ : PySem.W.codeIn K cdd11 "_law_state" = true)
    (kd11_ : PySem.W.keepIn K (.ref fd11) = true)
    (ad12 : PySem.W.nsIn K mainGlobals "_law_take" = some (some (.ref fd12)))
    (ld12 : K.lookup fd12 = some ⟨ocd12, odd12, .func (PySem.W.fnOf "_law_take" "_law_take" (defArgs s__law_take) (defBody s__law_take) (defScope s__law_take) .none kVd12 dcd12 pmd12 and12 cdd12 ctd12), sld12⟩)
    (cd12_ : PySem.W.codeIn K cdd12 "_law_take" = true)
    (kd12_ : PySem.W.keepIn K (.ref fd12) = true)
    (ad13 : PySem.W.nsIn K mainGlobals "_law_net" = some (some (.ref fd13)))
    (ld13 : K.lookup fd13 = some ⟨ocd13, odd13, .func (PySem.W.fnOf "_law_net" "_law_net" (defArgs s__law_net) (defBody s__law_net) (defScope s__law_net) .none kVd13 dcd13 pmd13 and13 cdd13 ctd13), sld13⟩)
    (cd13_ : PySem.W.codeIn K cdd13 "_law_net" = true)
    (kd13_ : PySem.W.keepIn K (.ref fd13) = true)
    (ad14 : PySem.W.nsIn K mainGlobals "_law_pairs" = some (some (.ref fd14)))
    (ld14 : K.lookup fd14 = some ⟨ocd14, odd14, .func (PySem.W.fnOf "_law_pairs" "_law_pairs" (defArgs s__law_pairs) (defBody s__law_pairs) (defScope s__law_pairs) .none kVd14 dcd14 pmd14 and14 cdd14 ctd14), sld14⟩)
    (cd14_ : PySem.W.codeIn K cdd14 "_law_pairs" = true)
    (kd14_ : PySem.W.keepIn K (.ref fd14) = true)
    (aL : PySem.W.nsIn K mainGlobals "law" = some (some (.ref fL)))
    (lL : K.lookup fL = some ⟨ocL, odL, .func (PySem.W.fnOf "law" "law" (defArgs sLaw) (defBody sLaw) (defScope sLaw) .none kVL dcL pmL anL cdL ctL), slL⟩)
    (cL_ : PySem.W.codeIn K cdL "law" = true)
    (kL_ : PySem.W.keepIn K (.ref fL) = true)
    (z_len : PySem.W.nsIn K mainGlobals "len" = some none)
    (z_isinstance : PySem.W.nsIn K mainGlobals "isinstance" = some none)
    (z_all : PySem.W.nsIn K mainGlobals "all" = some none)
    (z_sorted : PySem.W.nsIn K mainGlobals "sorted" = some none)
    (z_max : PySem.W.nsIn K mainGlobals "max" = some none)
    (z_min : PySem.W.nsIn K mainGlobals "min" = some none)
    (z_int : PySem.W.nsIn K mainGlobals "int" = some none)
    (z_list : PySem.W.nsIn K mainGlobals "list" = some none)
    (z_tuple : PySem.W.nsIn K mainGlobals "tuple" = some none)
    (z_range : PySem.W.nsIn K mainGlobals "range" = some none)
    (z_enumerate : PySem.W.nsIn K mainGlobals "enumerate" = some none)
    (z_repr : PySem.W.nsIn K mainGlobals "repr" = some none)
    (z_bool : PySem.W.nsIn K mainGlobals "bool" = some none)
    (z_ValueError : PySem.W.nsIn K mainGlobals "ValueError" = some none)
    (q0 : PySem.W.nsIn K mainGlobals "MOST_PLACES" = some (some (.int 10 t0)))
    (q1 : PySem.W.nsIn K mainGlobals "MOST_ROADS" = some (some (.int 30 t1)))
    (q2 : PySem.W.nsIn K mainGlobals "LEAST_COST" = some (some (.int 1 t2)))
    (q3 : PySem.W.nsIn K mainGlobals "MOST_COST" = some (some (.int 99 t3)))
    (q4 : PySem.W.nsIn K mainGlobals "MOST_TIME" = some (some (.int 99 t4)))
    (g_g0 : PySem.W.nsIn K mainGlobals "NoNet" = some (some (.ref e0)))
    (g_g1 : PySem.W.nsIn K mainGlobals "NoPlace" = some (some (.ref e1)))
    (x1_0 : PySem.W.excIn K e0 [.type "ValueError", .type "Exception", .type "BaseException", .type "object"] "ValueError.__new__" = true)
    (x2_0 : PySem.W.keepIn K (.ref e0) = true)
    (x3_0 : PySem.W.subIn K (.ref e0) (.type "BaseException") = some true)
    (x4_0 : PySem.W.typeIn K (.ref e0) = some (.type "type"))
    (x1_1 : PySem.W.excIn K e1 [.type "ValueError", .type "Exception", .type "BaseException", .type "object"] "ValueError.__new__" = true)
    (x2_1 : PySem.W.keepIn K (.ref e1) = true)
    (x3_1 : PySem.W.subIn K (.ref e1) (.type "BaseException") = some true)
    (x4_1 : PySem.W.typeIn K (.ref e1) = some (.type "type")) :
    Runs0 P w K mg fa := by
  have e := hfa.symm.trans (PySem.W.mg_of X G aL)
  cases e
  have Fd0 := fun_mk (st := s_is_whole) ld0 cd0_ kd0_
  have Bd0 := Fd0.binds (ps := ["thing"]) fun _ _ _ _ _ _ us hl => match us, hl with | [_], _ => rfl
  have Fd1 := fun_mk (st := s_is_within) ld1 cd1_ kd1_
  have Bd1 := Fd1.binds (ps := ["thing", "low", "high"]) fun _ _ _ _ _ _ us hl => match us, hl with | [_, _, _], _ => rfl
  have Fd2 := fun_mk (st := s_is_tuple_of) ld2 cd2_ kd2_
  have Bd2 := Fd2.binds (ps := ["thing", "many"]) fun _ _ _ _ _ _ us hl => match us, hl with | [_, _], _ => rfl
  have Fd3 := fun_mk (st := s_is_road_among) ld3 cd3_ kd3_
  have Bd3 := Fd3.binds (ps := ["places", "thing"]) fun _ _ _ _ _ _ us hl => match us, hl with | [_, _], _ => rfl
  have Fd4 := fun_mk (st := s_is_net) ld4 cd4_ kd4_
  have Bd4 := Fd4.binds (ps := ["thing"]) fun _ _ _ _ _ _ us hl => match us, hl with | [_], _ => rfl
  have Fd5 := fun_mk (st := s_check_net) ld5 cd5_ kd5_
  have Bd5 := Fd5.binds (ps := ["thing"]) fun _ _ _ _ _ _ us hl => match us, hl with | [_], _ => rfl
  have Fd6 := fun_mk (st := s_check_place) ld6 cd6_ kd6_
  have Bd6 := Fd6.binds (ps := ["net", "thing"]) fun _ _ _ _ _ _ us hl => match us, hl with | [_, _], _ => rfl
  have Fd7 := fun_mk (st := s_unbeaten) ld7 cd7_ kd7_
  have Bd7 := Fd7.binds (ps := ["rows"]) fun _ _ _ _ _ _ us hl => match us, hl with | [_], _ => rfl
  have Fd8 := fun_mk (st := s_fronts_to) ld8 cd8_ kd8_
  have Bd8 := Fd8.binds (ps := ["net", "goal"]) fun _ _ _ _ _ _ us hl => match us, hl with | [_, _], _ => rfl
  have Fd9 := fun_mk (st := s_fence_of) ld9 cd9_ kd9_
  have Bd9 := Fd9.binds (ps := ["net", "start"]) fun _ _ _ _ _ _ us hl => match us, hl with | [_, _], _ => rfl
  have Fd10 := fun_mk (st := s__law_cell_at) ld10 cd10_ kd10_
  have Bd10 := Fd10.binds (ps := ["_law_script", "_law_k"]) fun _ _ _ _ _ _ us hl => match us, hl with | [_, _], _ => rfl
  have Fd11 := fun_mk (st := s__law_state) ld11 cd11_ kd11_
  have Bd11 := Fd11.binds (ps := ["_law_script", "_law_k"]) fun _ _ _ _ _ _ us hl => match us, hl with | [_, _], _ => rfl
  have Fd12 := fun_mk (st := s__law_take) ld12 cd12_ kd12_
  have Bd12 := Fd12.binds (ps := ["_law_state_here", "_law_far"]) fun _ _ _ _ _ _ us hl => match us, hl with | [_, _], _ => rfl
  have Fd13 := fun_mk (st := s__law_net) ld13 cd13_ kd13_
  have Bd13 := Fd13.binds (ps := ["_law_state_here", "_law_most", "_law_far"]) fun _ _ _ _ _ _ us hl => match us, hl with | [_, _, _], _ => rfl
  have Fd14 := fun_mk (st := s__law_pairs) ld14 cd14_ kd14_
  have Bd14 := Fd14.binds (ps := ["_law_net_here", "_law_start"]) fun _ _ _ _ _ _ us hl => match us, hl with | [_, _], _ => rfl
  have T : Tx K mg (fun i => match i with | 0 => e0 | 1 => e1 | _ => 0) := { h_is_whole := ⟨_, _, Fd0, Bd0, PySem.W.mg_of X G ad0⟩, h_is_within := ⟨_, _, Fd1, Bd1, PySem.W.mg_of X G ad1⟩, h_is_tuple_of := ⟨_, _, Fd2, Bd2, PySem.W.mg_of X G ad2⟩, h_is_road_among := ⟨_, _, Fd3, Bd3, PySem.W.mg_of X G ad3⟩, h_is_net := ⟨_, _, Fd4, Bd4, PySem.W.mg_of X G ad4⟩, h_check_net := ⟨_, _, Fd5, Bd5, PySem.W.mg_of X G ad5⟩, h_check_place := ⟨_, _, Fd6, Bd6, PySem.W.mg_of X G ad6⟩, h_unbeaten := ⟨_, _, Fd7, Bd7, PySem.W.mg_of X G ad7⟩, h_fronts_to := ⟨_, _, Fd8, Bd8, PySem.W.mg_of X G ad8⟩, h_fence_of := ⟨_, _, Fd9, Bd9, PySem.W.mg_of X G ad9⟩, h__law_cell_at := ⟨_, _, Fd10, Bd10, PySem.W.mg_of X G ad10⟩, h__law_state := ⟨_, _, Fd11, Bd11, PySem.W.mg_of X G ad11⟩, h__law_take := ⟨_, _, Fd12, Bd12, PySem.W.mg_of X G ad12⟩, h__law_net := ⟨_, _, Fd13, Bd13, PySem.W.mg_of X G ad13⟩, h__law_pairs := ⟨_, _, Fd14, Bd14, PySem.W.mg_of X G ad14⟩, len := PySem.W.mg_none_of X G z_len, isinstance := PySem.W.mg_none_of X G z_isinstance, all := PySem.W.mg_none_of X G z_all, sorted := PySem.W.mg_none_of X G z_sorted, max := PySem.W.mg_none_of X G z_max, min := PySem.W.mg_none_of X G z_min, int := PySem.W.mg_none_of X G z_int, list := PySem.W.mg_none_of X G z_list, tuple := PySem.W.mg_none_of X G z_tuple, range := PySem.W.mg_none_of X G z_range, enumerate := PySem.W.mg_none_of X G z_enumerate, repr := PySem.W.mg_none_of X G z_repr, bool := PySem.W.mg_none_of X G z_bool, ValueError := PySem.W.mg_none_of X G z_ValueError, c_MOST_PLACES := ⟨_, PySem.W.mg_of X G q0⟩, c_MOST_ROADS := ⟨_, PySem.W.mg_of X G q1⟩, c_LEAST_COST := ⟨_, PySem.W.mg_of X G q2⟩, c_MOST_COST := ⟨_, PySem.W.mg_of X G q3⟩, c_MOST_TIME := ⟨_, PySem.W.mg_of X G q4⟩, e_NoNet := ⟨PySem.W.mg_of X G g_g0, x1_0, x2_0, x3_0, x4_0⟩, e_NoPlace := ⟨PySem.W.mg_of X G g_g1, x1_1, x2_1, x3_1, x4_1⟩ }
  intro base H s a ns hlen sq env
  refine LamX.run_ofS (k := 12) (N := ["_law_script", "_law_k", "_law_state_here", "_law_net_here", "_law_kept", "_law_start", "_law_due", "_law_found"]) (ps := ["_law_script"]) (us := [.ref a]) (vs := [.ref a]) lL cL_ scLaw ⟨rfl, by decide, by decide⟩ env (.of_eq rfl) (.cons rfl .nil) rfl fun hr => ?_
  obtain ⟨t, ht, hq⟩ := law_reads (P := P) (w := w) (base := base) (fL := fa) (s := s) (H := H) (a := a) (ns := ns) T hr sq
  exact ⟨t, ht.nox, hq⟩
end Wy

open PySem PySem.W PyProof.Rows
set_option maxHeartbeats 0 in
theorem PySem.Challenge.cw_waysranked_k52_least_fences_holds : PySem.Challenge.rw_waysranked_k52_least_fences.Holds := by
  w_on; o_law; k_head; (case hw => w_witness2)
  k_fill
  refine Wy.walk_end0 (l := PySem.Challenge.rw_waysranked_k52_least_fences) rfl rfl (fun w h Y => PySem.W.kIn_of Y) ?F
  case F =>
    intro w mg fa h KX G hmg
    refine' Wy.fin_mk KX G hmg ?zz_ad0 ?zz_ld0 ?zz_cd0_ ?zz_kd0_ ?zz_ad1 ?zz_ld1 ?zz_cd1_ ?zz_kd1_ ?zz_ad2 ?zz_ld2 ?zz_cd2_ ?zz_kd2_ ?zz_ad3 ?zz_ld3 ?zz_cd3_ ?zz_kd3_ ?zz_ad4 ?zz_ld4 ?zz_cd4_ ?zz_kd4_ ?zz_ad5 ?zz_ld5 ?zz_cd5_ ?zz_kd5_ ?zz_ad6 ?zz_ld6 ?zz_cd6_ ?zz_kd6_ ?zz_ad7 ?zz_ld7 ?zz_cd7_ ?zz_kd7_ ?zz_ad8 ?zz_ld8 ?zz_cd8_ ?zz_kd8_ ?zz_ad9 ?zz_ld9 ?zz_cd9_ ?zz_kd9_ ?zz_ad10 ?zz_ld10 ?zz_cd10_ ?zz_kd10_ ?zz_ad11 ?zz_ld11 ?zz_cd11_ ?zz_kd11_ ?zz_ad12 ?zz_ld12 ?zz_cd12_ ?zz_kd12_ ?zz_ad13 ?zz_ld13 ?zz_cd13_ ?zz_kd13_ ?zz_ad14 ?zz_ld14 ?zz_cd14_ ?zz_kd14_ ?zz_aL ?zz_lL ?zz_cL_ ?zz_kL_ ?zz_z_len ?zz_z_isinstance ?zz_z_all ?zz_z_sorted ?zz_z_max ?zz_z_min ?zz_z_int ?zz_z_list ?zz_z_tuple ?zz_z_range ?zz_z_enumerate ?zz_z_repr ?zz_z_bool ?zz_z_ValueError ?zz_q0 ?zz_q1 ?zz_q2 ?zz_q3 ?zz_q4 ?zz_g_g0 ?zz_g_g1 ?zz_x1_0 ?zz_x2_0 ?zz_x3_0 ?zz_x4_0 ?zz_x1_1 ?zz_x2_1 ?zz_x3_1 ?zz_x4_1
    (case zz_ad0 => first | k_is | rfl | decide +kernel | k_exc)
    (case zz_ld0 => first | k_is | rfl | decide +kernel | k_exc)
    (case zz_cd0_ => first | k_is | rfl | decide +kernel | k_exc)
    (case zz_kd0_ => first | k_is | rfl | decide +kernel | k_exc)
    (case zz_ad1 => first | k_is | rfl | decide +kernel | k_exc)
    (case zz_ld1 => first | k_is | rfl | decide +kernel | k_exc)
    (case zz_cd1_ => first | k_is | rfl | decide +kernel | k_exc)
    (case zz_kd1_ => first | k_is | rfl | decide +kernel | k_exc)
    (case zz_ad2 => first | k_is | rfl | decide +kernel | k_exc)
    (case zz_ld2 => first | k_is | rfl | decide +kernel | k_exc)
    (case zz_cd2_ => first | k_is | rfl | decide +kernel | k_exc)
    (case zz_kd2_ => first | k_is | rfl | decide +kernel | k_exc)
    (case zz_ad3 => first | k_is | rfl | decide +kernel | k_exc)
    (case zz_ld3 => first | k_is | rfl | decide +kernel | k_exc)
    (case zz_cd3_ => first | k_is | rfl | decide +kernel | k_exc)
    (case zz_kd3_ => first | k_is | rfl | decide +kernel | k_exc)
    (case zz_ad4 => first | k_is | rfl | decide +kernel | k_exc)
    (case zz_ld4 => first | k_is | rfl | decide +kernel | k_exc)
    (case zz_cd4_ => first | k_is | rfl | decide +kernel | k_exc)
    (case zz_kd4_ => first | k_is | rfl | decide +kernel | k_exc)
    (case zz_ad5 => first | k_is | rfl | decide +kernel | k_exc)
    (case zz_ld5 => first | k_is | rfl | decide +kernel | k_exc)
    (case zz_cd5_ => first | k_is | rfl | decide +kernel | k_exc)
    (case zz_kd5_ => first | k_is | rfl | decide +kernel | k_exc)
    (case zz_ad6 => first | k_is | rfl | decide +kernel | k_exc)
    (case zz_ld6 => first | k_is | rfl | decide +kernel | k_exc)
    (case zz_cd6_ => first | k_is | rfl | decide +kernel | k_exc)
    (case zz_kd6_ => first | k_is | rfl | decide +kernel | k_exc)
    (case zz_ad7 => first | k_is | rfl | decide +kernel | k_exc)
    (case zz_ld7 => first | k_is | rfl | decide +kernel | k_exc)
    (case zz_cd7_ => first | k_is | rfl | decide +kernel | k_exc)
    (case zz_kd7_ => first | k_is | rfl | decide +kernel | k_exc)
    (case zz_ad8 => first | k_is | rfl | decide +kernel | k_exc)
    (case zz_ld8 => first | k_is | rfl | decide +kernel | k_exc)
    (case zz_cd8_ => first | k_is | rfl | decide +kernel | k_exc)
    (case zz_kd8_ => first | k_is | rfl | decide +kernel | k_exc)
    (case zz_ad9 => first | k_is | rfl | decide +kernel | k_exc)
    (case zz_ld9 => first | k_is | rfl | decide +kernel | k_exc)
    (case zz_cd9_ => first | k_is | rfl | decide +kernel | k_exc)
    (case zz_kd9_ => first | k_is | rfl | decide +kernel | k_exc)
    (case zz_ad10 => first | k_is | rfl | decide +kernel | k_exc)
    (case zz_ld10 => first | k_is | rfl | decide +kernel | k_exc)
    (case zz_cd10_ => first | k_is | rfl | decide +kernel | k_exc)
    (case zz_kd10_ => first | k_is | rfl | decide +kernel | k_exc)
    (case zz_ad11 => first | k_is | rfl | decide +kernel | k_exc)
    (case zz_ld11 => first | k_is | rfl | decide +kernel | k_exc)
    (case zz_cd11_ => first | k_is | rfl | decide +kernel | k_exc)
    (case zz_kd11_ => first | k_is | rfl | decide +kernel | k_exc)
    (case zz_ad12 => first | k_is | rfl | decide +kernel | k_exc)
    (case zz_ld12 => first | k_is | rfl | decide +kernel | k_exc)
    (case zz_cd12_ => first | k_is | rfl | decide +kernel | k_exc)
    (case zz_kd12_ => first | k_is | rfl | decide +kernel | k_exc)
    (case zz_ad13 => first | k_is | rfl | decide +kernel | k_exc)
    (case zz_ld13 => first | k_is | rfl | decide +kernel | k_exc)
    (case zz_cd13_ => first | k_is | rfl | decide +kernel | k_exc)
    (case zz_kd13_ => first | k_is | rfl | decide +kernel | k_exc)
    (case zz_ad14 => first | k_is | rfl | decide +kernel | k_exc)
    (case zz_ld14 => first | k_is | rfl | decide +kernel | k_exc)
    (case zz_cd14_ => first | k_is | rfl | decide +kernel | k_exc)
    (case zz_kd14_ => first | k_is | rfl | decide +kernel | k_exc)
    (case zz_aL => first | k_is | rfl | decide +kernel | k_exc)
    (case zz_lL => first | k_is | rfl | decide +kernel | k_exc)
    (case zz_cL_ => first | k_is | rfl | decide +kernel | k_exc)
    (case zz_kL_ => first | k_is | rfl | decide +kernel | k_exc)
    (case zz_z_len => first | k_is | rfl | decide +kernel | k_exc)
    (case zz_z_isinstance => first | k_is | rfl | decide +kernel | k_exc)
    (case zz_z_all => first | k_is | rfl | decide +kernel | k_exc)
    (case zz_z_sorted => first | k_is | rfl | decide +kernel | k_exc)
    (case zz_z_max => first | k_is | rfl | decide +kernel | k_exc)
    (case zz_z_min => first | k_is | rfl | decide +kernel | k_exc)
    (case zz_z_int => first | k_is | rfl | decide +kernel | k_exc)
    (case zz_z_list => first | k_is | rfl | decide +kernel | k_exc)
    (case zz_z_tuple => first | k_is | rfl | decide +kernel | k_exc)
    (case zz_z_range => first | k_is | rfl | decide +kernel | k_exc)
    (case zz_z_enumerate => first | k_is | rfl | decide +kernel | k_exc)
    (case zz_z_repr => first | k_is | rfl | decide +kernel | k_exc)
    (case zz_z_bool => first | k_is | rfl | decide +kernel | k_exc)
    (case zz_z_ValueError => first | k_is | rfl | decide +kernel | k_exc)
    (case zz_q0 => first | k_is | rfl | decide +kernel | k_exc)
    (case zz_q1 => first | k_is | rfl | decide +kernel | k_exc)
    (case zz_q2 => first | k_is | rfl | decide +kernel | k_exc)
    (case zz_q3 => first | k_is | rfl | decide +kernel | k_exc)
    (case zz_q4 => first | k_is | rfl | decide +kernel | k_exc)
    (case zz_g_g0 => first | k_is | rfl | decide +kernel | k_exc)
    (case zz_g_g1 => first | k_is | rfl | decide +kernel | k_exc)
    (case zz_x1_0 => first | k_is | rfl | decide +kernel | k_exc)
    (case zz_x2_0 => first | k_is | rfl | decide +kernel | k_exc)
    (case zz_x3_0 => first | k_is | rfl | decide +kernel | k_exc)
    (case zz_x4_0 => first | k_is | rfl | decide +kernel | k_exc)
    (case zz_x1_1 => first | k_is | rfl | decide +kernel | k_exc)
    (case zz_x2_1 => first | k_is | rfl | decide +kernel | k_exc)
    (case zz_x3_1 => first | k_is | rfl | decide +kernel | k_exc)
    (case zz_x4_1 => first | k_is | rfl | decide +kernel | k_exc)
