import PyProof.Rows.All
import Wide.All
import OpenK.AllK
import Wide.FinOn
import PySem.Challenge.RW_waysranked_k77_ways_written
import HandS.ForMost
import HandS.ForExc
import HandS.IsInst
import HandS.ExcIs
import HandS.Lambda
import HandS.HotCalls
import HandS.Zip
import HandS.Strs
import HandS.Flow
import HandS.Style
import HandS.TupAny
import HandS.TupLe
import HandS.Defaults
import PyProof.ReprRoads
import KE.GoesMore
import PyProof.Draws
import HandS.Conv
import KE.DataMinMax
import KE.SortData
import HandS.Dict
import HandS.Words
import HandS.TupMul
import HandS.Text
import HandS.StrMore
import KE.GoesEnumKw
import PyProof.Rows.CallKwBuiltin
import HandS.BoundDict
import HandS.EndTab
import KE.KNestM
set_option Elab.async false
set_option linter.all false
set_option maxRecDepth 100000
namespace Dl
open PySem PySem.Spec PyProof.Rows L2
/-! ### readings by data: no heap, no addresses -/
def keyD : Key → PyData
  | .inl i => .int i
  | .inr x => .str x
/-- a list that is read: tracked, none of A (a tuple may be a written one, too) -/
def SqLA (K : PySem.W.Frag) (A : Addr → Prop) (H : Hp) (a : Addr) (xs : List V) : Prop := H a = some (.lst xs) ∧ ¬ A a
def SqTA (K : PySem.W.Frag) (A : Addr → Prop) (H : Hp) (a : Addr) (xs : List V) : Prop := (Rd H a (.tup xs) ∧ ¬ A a) ∨ SqT K (fun _ => none) a xs
mutual
/-- v is the data d; none of its objects is one of A -/
inductive Rp (K : PySem.W.Frag) (A : Addr → Prop) (H : Hp) : V → PyData → Prop
  | non : Rp K A H .non .none
  | bl (b : Bool) : Rp K A H (.bl b) (.bool b)
  | int (i : Int) : Rp K A H (.int i) (.int i)
  | str (x : Str) : Rp K A H (.str x) (.str x)
  | lst {a : Addr} {xs : List V} {ds : List PyData} : SqLA K A H a xs → RpAll K A H xs ds → Rp K A H (.ref a) (.list ds)
  | tup {a : Addr} {xs : List V} {ds : List PyData} : SqTA K A H a xs → RpAll K A H xs ds → Rp K A H (.ref a) (.tuple ds)
  | dct {a : Addr} {kvs : List (Key × V)} {ds : List PyData} : H a = some (.dK kvs) → ¬ A a → RpAll K A H (kvs.map (·.2)) ds → Rp K A H (.ref a) (.dict ((kvs.map fun p => keyD p.1).zip ds))
inductive RpAll (K : PySem.W.Frag) (A : Addr → Prop) (H : Hp) : List V → List PyData → Prop
  | nil : RpAll K A H [] []
  | cons {v : V} {vs : List V} {d : PyData} {ds : List PyData} : Rp K A H v d → RpAll K A H vs ds → RpAll K A H (v :: vs) (d :: ds)
end
theorem sqLA_sq {K : PySem.W.Frag} {A : Addr → Prop} {H : Hp} {a : Addr} {xs : List V} (h : SqLA K A H a xs) : SqL K H a xs := SqL.of h.1
theorem sqTA_sq {K : PySem.W.Frag} {A : Addr → Prop} {H : Hp} {a : Addr} {xs : List V} (h : SqTA K A H a xs) : SqT K H a xs := by
  rcases h with h | h
  · exact .inl h.1
  · rcases h with h | h
    · rcases h with h | ⟨_, h⟩ <;> cases h
    · exact .inr h
/-- no table of code -/
def NT (o : HO) : Prop := ∀ ps, o ≠ .tbl ps
def Ob (H : Hp) (a : Addr) : Prop := ∃ o, H a = some o ∧ NT o
theorem nob {H : Hp} {a : Addr} (h : H a = none) : ¬ Ob H a := fun ⟨o, e, _⟩ => nomatch e.symm.trans h
theorem ne_nob {H : Hp} {a b : Addr} {o : HO} (e : H a = some o) (t : NT o) (n : ¬ Ob H b) : a ≠ b := fun z => n ⟨o, z ▸ e, t⟩
theorem nt_lst {xs : List V} : NT (.lst xs) := fun _ q => nomatch q
theorem nt_tup {xs : List V} : NT (.tup xs) := fun _ q => nomatch q
theorem nt_dK {xs : List (Key × V)} : NT (.dK xs) := fun _ q => nomatch q
theorem nt_frz {o : Obj} {u : HO} : NT (.frz o u) := fun _ q => nomatch q
def Goes (A A' : Addr → Prop) (H H' : Hp) : Prop := ∀ b o, H b = some o → NT o → ¬ A b → H' b = some o ∧ ¬ A' b
theorem sqLA_go {K : PySem.W.Frag} {A A' : Addr → Prop} {H H' : Hp} (g : Goes A A' H H') {a : Addr} {xs : List V} (h : SqLA K A H a xs) : SqLA K A' H' a xs := g _ _ h.1 nt_lst h.2
theorem sqTA_go {K : PySem.W.Frag} {A A' : Addr → Prop} {H H' : Hp} (g : Goes A A' H H') {a : Addr} {xs : List V} (h : SqTA K A H a xs) : SqTA K A' H' a xs := by
  rcases h with ⟨h | ⟨o, h⟩, n⟩ | h
  · exact .inl ⟨.inl (g _ _ h nt_tup n).1, (g _ _ h nt_tup n).2⟩
  · exact .inl ⟨.inr ⟨o, (g _ _ h nt_frz n).1⟩, (g _ _ h nt_frz n).2⟩
  · exact .inr h
mutual
theorem Rp.go {K : PySem.W.Frag} {A A' : Addr → Prop} {H H' : Hp} (g : Goes A A' H H') : ∀ {v : V} {d : PyData}, Rp K A H v d → Rp K A' H' v d
  | _, _, .non => .non
  | _, _, .bl b => .bl b
  | _, _, .int i => .int i
  | _, _, .str x => .str x
  | _, _, .lst h r => .lst (sqLA_go g h) (RpAll.go g r)
  | _, _, .tup h r => .tup (sqTA_go g h) (RpAll.go g r)
  | _, _, .dct h n r => .dct (g _ _ h nt_dK n).1 (g _ _ h nt_dK n).2 (RpAll.go g r)
theorem RpAll.go {K : PySem.W.Frag} {A A' : Addr → Prop} {H H' : Hp} (g : Goes A A' H H') : ∀ {vs : List V} {ds : List PyData}, RpAll K A H vs ds → RpAll K A' H' vs ds
  | _, _, .nil => .nil
  | _, _, .cons h r => .cons (Rp.go g h) (RpAll.go g r)
end
theorem RpAll.length {K : PySem.W.Frag} {A : Addr → Prop} {H : Hp} : ∀ {vs : List V} {ds : List PyData}, RpAll K A H vs ds → vs.length = ds.length
  | _, _, .nil => rfl
  | _, _, .cons _ r => by rw [List.length_cons, List.length_cons, RpAll.length r]
theorem RpAll.get {K : PySem.W.Frag} {A : Addr → Prop} {H : Hp} : ∀ {vs : List V} {ds : List PyData} {i : Nat} {d : PyData}, RpAll K A H vs ds → ds[i]? = some d → ∃ v, vs[i]? = some v ∧ Rp K A H v d
  | _, _, _, _, .nil, e => by simp at e
  | _, _, 0, _, .cons h _, e => by simp at e; subst e; exact ⟨_, rfl, h⟩
  | _, _, i + 1, d, .cons _ r, e => by
    obtain ⟨v, h1, h2⟩ := RpAll.get (i := i) (d := d) r (by simpa using e)
    exact ⟨v, by simpa using h1, h2⟩
theorem RpAll.getV {K : PySem.W.Frag} {A : Addr → Prop} {H : Hp} {vs : List V} {ds : List PyData} {i : Nat} {v : V} (h : RpAll K A H vs ds) (e : vs[i]? = some v) : ∃ d, ds[i]? = some d ∧ Rp K A H v d := by
  have hl := h.length
  have hi : i < ds.length := by
    have := (List.getElem?_eq_some_iff.mp e).1
    omega
  obtain ⟨u, e1, e2⟩ := h.get (List.getElem?_eq_getElem hi)
  rw [e] at e1
  cases e1
  exact ⟨_, List.getElem?_eq_getElem hi, e2⟩
theorem RpAll.append {K : PySem.W.Frag} {A : Addr → Prop} {H : Hp} : ∀ {vs us : List V} {ds es : List PyData}, RpAll K A H vs ds → RpAll K A H us es → RpAll K A H (vs ++ us) (ds ++ es)
  | _, _, _, _, .nil, s => s
  | _, _, _, _, .cons h r, s => .cons h (RpAll.append r s)
theorem RpAll.take {K : PySem.W.Frag} {A : Addr → Prop} {H : Hp} : ∀ {vs : List V} {ds : List PyData} (n : Nat), RpAll K A H vs ds → RpAll K A H (vs.take n) (ds.take n)
  | _, _, 0, _ => .nil
  | _, _, _ + 1, .nil => .nil
  | _, _, n + 1, .cons h r => .cons h (RpAll.take n r)
theorem RpAll.drop {K : PySem.W.Frag} {A : Addr → Prop} {H : Hp} : ∀ {vs : List V} {ds : List PyData} (n : Nat), RpAll K A H vs ds → RpAll K A H (vs.drop n) (ds.drop n)
  | _, _, 0, r => r
  | _, _, _ + 1, .nil => .nil
  | _, _, n + 1, .cons _ r => RpAll.drop n r
theorem RpAll.set {K : PySem.W.Frag} {A : Addr → Prop} {H : Hp} {v : V} {d : PyData} (h0 : Rp K A H v d) : ∀ {vs : List V} {ds : List PyData} (n : Nat), RpAll K A H vs ds → RpAll K A H (vs.set n v) (ds.set n d)
  | _, _, _, .nil => .nil
  | _, _, 0, .cons _ r => .cons h0 r
  | _, _, n + 1, .cons h r => .cons h (RpAll.set h0 n r)
theorem RpAll.one {K : PySem.W.Frag} {A : Addr → Prop} {H : Hp} {v : V} {d : PyData} (h : Rp K A H v d) : RpAll K A H [v] [d] := .cons h .nil
theorem RpAll.reverse {K : PySem.W.Frag} {A : Addr → Prop} {H : Hp} : ∀ {vs : List V} {ds : List PyData}, RpAll K A H vs ds → RpAll K A H vs.reverse ds.reverse
  | _, _, .nil => .nil
  | _, _, .cons h r => by
    rw [List.reverse_cons, List.reverse_cons]
    exact (RpAll.reverse r).append (.one h)
theorem RpAll.rep {K : PySem.W.Frag} {A : Addr → Prop} {H : Hp} {vs : List V} {ds : List PyData} (h : RpAll K A H vs ds) : ∀ n : Nat, RpAll K A H (List.replicate n vs).flatten (List.replicate n ds).flatten
  | 0 => .nil
  | n + 1 => by
    rw [List.replicate_succ, List.replicate_succ, List.flatten_cons, List.flatten_cons]
    exact h.append (RpAll.rep h n)
/-- flat ones -/
theorem RpAll.ints {K : PySem.W.Frag} {A : Addr → Prop} {H : Hp} : ∀ {vs : List V} {ns : List Int}, RpAll K A H vs (ns.map PyData.int) → vs = ns.map V.int
  | _, [], h => by cases h; rfl
  | _, n :: r, h => by
    cases h with
    | cons h t =>
      cases h
      rw [RpAll.ints t]
      rfl
theorem RpAll.bools {K : PySem.W.Frag} {A : Addr → Prop} {H : Hp} : ∀ {vs : List V} {ns : List Bool}, RpAll K A H vs (ns.map PyData.bool) → vs = ns.map V.bl
  | _, [], h => by cases h; rfl
  | _, n :: r, h => by
    cases h with
    | cons h t =>
      cases h
      rw [RpAll.bools t]
      rfl
theorem RpAll.strs {K : PySem.W.Frag} {A : Addr → Prop} {H : Hp} : ∀ {vs : List V} {ns : List Str}, RpAll K A H vs (ns.map PyData.str) → vs = ns.map V.str
  | _, [], h => by cases h; rfl
  | _, n :: r, h => by
    cases h with
    | cons h t =>
      cases h
      rw [RpAll.strs t]
      rfl
theorem RpAll.of_ints {K : PySem.W.Frag} {A : Addr → Prop} {H : Hp} : ∀ ns : List Int, RpAll K A H (ns.map V.int) (ns.map PyData.int)
  | [] => .nil
  | n :: r => .cons (.int n) (RpAll.of_ints r)
theorem RpAll.of_bools {K : PySem.W.Frag} {A : Addr → Prop} {H : Hp} : ∀ ns : List Bool, RpAll K A H (ns.map V.bl) (ns.map PyData.bool)
  | [] => .nil
  | n :: r => .cons (.bl n) (RpAll.of_bools r)
theorem RpAll.of_strs {K : PySem.W.Frag} {A : Addr → Prop} {H : Hp} : ∀ ns : List Str, RpAll K A H (ns.map V.str) (ns.map PyData.str)
  | [] => .nil
  | n :: r => .cons (.str n) (RpAll.of_strs r)
mutual
theorem Rp.dp {K : PySem.W.Frag} {A : Addr → Prop} {H : Hp} : ∀ {v : V} {d : PyData}, Rp K A H v d → d.canLay0 = true → Dp K H v d
  | _, _, .non, _ => .non
  | _, _, .bl b, _ => .bl b
  | _, _, .int i, _ => .int i
  | _, _, .str x, _ => .str x
  | _, _, .lst h r, e => .lst (sqLA_sq h) (RpAll.dp r (by simpa [PyData.canLay0] using e))
  | _, _, .tup h r, e => .tup (sqTA_sq h) (RpAll.dp r (by simpa [PyData.canLay0] using e))
  | _, _, .dct _ _ _, e => by simp [PyData.canLay0] at e
theorem RpAll.dp {K : PySem.W.Frag} {A : Addr → Prop} {H : Hp} : ∀ {vs : List V} {ds : List PyData}, RpAll K A H vs ds → PyData.canLayAll0 ds = true → DpAll K H vs ds
  | _, _, .nil, _ => .nil
  | _, _, .cons h r, e => by
    rw [PyData.canLayAll0, Bool.and_eq_true] at e
    exact .cons (Rp.dp h e.1) (RpAll.dp r e.2)
end
/-! ### where one stands -/
/-- what can be one's own: a list, a dict -/
inductive Mb : HO → Prop
  | lst (xs : List V) : Mb (.lst xs)
  | dK (kvs : List (Key × V)) : Mb (.dK kvs)
  | dT (kvs : List (List Key × V)) : Mb (.dT kvs)
theorem Mb.nt {o : HO} (h : Mb o) : NT o := by cases h <;> exact fun _ q => nomatch q
/-- a dict of one's own, by data -/
inductive OD where
  | dk (kvs : List (Key × PyData))
  | dt (kvs : List (List Key × PyData))
def OdR (K : PySem.W.Frag) (A : Addr → Prop) (H : Hp) : HO → OD → Prop
  | .dK ks, .dk kvs => ks.map (·.1) = kvs.map (·.1) ∧ RpAll K A H (ks.map (·.2)) (kvs.map (·.2))
  | .dT ks, .dt kvs => ks.map (·.1) = kvs.map (·.1) ∧ RpAll K A H (ks.map (·.2)) (kvs.map (·.2))
  | _, _ => False
theorem OdR.go {K : PySem.W.Frag} {A A' : Addr → Prop} {H H' : Hp} (g : Goes A A' H H') {o : HO} {d : OD} (h : OdR K A H o d) : OdR K A' H' o d := by
  cases o <;> cases d <;> first | exact ⟨h.1, h.2.go g⟩ | exact h.elim
theorem OdR.mb {K : PySem.W.Frag} {A : Addr → Prop} {H : Hp} {o : HO} {d : OD} (h : OdR K A H o d) : Mb o := by
  cases o <;> cases d <;> first | exact .dK _ | exact .dT _ | exact h.elim
def OD.dat : OD → Option PyData
  | .dk kvs => some (.dict ((kvs.map fun p => keyD p.1).zip (kvs.map (·.2))))
  | .dt _ => none
structure Wld (τ : List (Addr × Str)) where
  B : Addr → Prop
  I : Hp → Prop
  tab : ∀ H, I H → LamX.Tabs τ H
  tbI : ∀ H H', I H → LamX.ExtN H H' → LamX.Tabs τ H' → I H'
  stay : ∀ H H', Same H H' → I H → I H'
  own : ∀ H p o o', I H → H p = some o → Mb o → Mb o' → ¬ B p → I (upd H p o')
def Fr (B : Addr → Prop) (H H' : Hp) : Prop := (∀ b o, H b = some o → NT o → ¬ B b → H' b = some o) ∧ ∀ b, Ob H b → Ob H' b
theorem Fr.refl {B : Addr → Prop} (H : Hp) : Fr B H H := ⟨fun _ _ h _ _ => h, fun _ h => h⟩
theorem Fr.trans {B : Addr → Prop} {H H1 H2 : Hp} (a : Fr B H H1) (b : Fr B H1 H2) : Fr B H H2 := ⟨fun c o h t n => b.1 c o (a.1 c o h t n) t n, fun c h => b.2 c (a.2 c h)⟩
theorem Fr.of {B : Addr → Prop} {H H' : Hp} (s : Same H H') : Fr B H H' := ⟨fun b o h _ _ => s b o h, fun b ⟨o, e, t⟩ => ⟨o, s b o e, t⟩⟩
theorem same_new {H : Hp} {p : Addr} {o : HO} (h : H p = none) : Same H (upd H p o) := fun b x e => by
  rw [upd_ne (ne_of_none e h)]
  exact e
theorem Fr.new {B : Addr → Prop} {H : Hp} {p : Addr} {o : HO} (h : H p = none) : Fr B H (upd H p o) := Fr.of (same_new h)
/-- a state for draws -/
def StOk (H : Hp) (z : Addr) : Prop := ∃ x y : Int, H z = some (.lst [.int x, .int y]) ∧ 0 ≤ x ∧ 0 ≤ y ∧ y < 2147483647
structure StW (W : Wld τ) (z : Addr) : Prop where
  b : W.B z
  ok : ∀ H, W.I H → StOk H z
  set : ∀ H x y, W.I H → 0 ≤ x → 0 ≤ y → y < 2147483647 → W.I (upd H z (.lst [.int x, .int y]))
/-- what a slot holds, what a value is: un nothing is known; d data; ml a list of one's own (a value: a new list); bl a list that is read; st the state; raw just this -/
inductive Sl where
  | un
  | d (x : PyData)
  | ml (xs : List PyData)
  | bl (xs : List PyData)
  | st
  | scr (ns : List Int)
  | raw (v : V)
  | mo (o : OD)
  | bo (o : OD)
def Sl.dat : Sl → Option PyData
  | .d x => some x
  | .ml xs => some (.list xs)
  | .mo o => o.dat
  | _ => none
def Sl.seq : Sl → Option (List PyData)
  | .d (.list xs) => some xs
  | .ml xs => some xs
  | .bl xs => some xs
  | _ => none
def Sl.sq : Sl → Option (List PyData)
  | .d (.list xs) => some xs
  | .d (.tuple xs) => some xs
  | .ml xs => some xs
  | .bl xs => some xs
  | .scr ns => some (ns.map PyData.int)
  | _ => none
def vS : V → Sl
  | .non => .d .none
  | .bl b => .d (.bool b)
  | .int i => .d (.int i)
  | .str x => .d (.str x)
  | v => .raw v
def Sl.flat : Sl → Option V
  | .d .none => some .non
  | .d (.bool b) => some (.bl b)
  | .d (.int i) => some (.int i)
  | .d (.str x) => some (.str x)
  | .raw v => some v
  | _ => none
def SlR (K : PySem.W.Frag) (W : Wld τ) (A : Addr → Prop) (H : Hp) (v : Option V) : Sl → Prop
  | .un => True
  | .d x => ∃ u, v = some u ∧ Rp K A H u x
  | .ml xs => ∃ p vs, v = some (.ref p) ∧ H p = some (.lst vs) ∧ ¬ W.B p ∧ A p ∧ RpAll K A H vs xs
  | .bl xs => ∃ p vs, v = some (.ref p) ∧ SqLA K W.B H p vs ∧ RpAll K A H vs xs
  | .st => ∃ z, v = some (.ref z) ∧ StW W z
  | .scr ns => ∃ a, v = some (.ref a) ∧ ∀ H, W.I H → SqL K H a (ns.map V.int)
  | .raw u => v = some u
  | .mo o => ∃ p ho, v = some (.ref p) ∧ H p = some ho ∧ ¬ W.B p ∧ A p ∧ OdR K A H ho o
  | .bo o => ∃ p ho, v = some (.ref p) ∧ H p = some ho ∧ ¬ W.B p ∧ OdR K A H ho o
/-- a value, from H0 on -/
def VlR (K : PySem.W.Frag) (W : Wld τ) (A : Addr → Prop) (H0 H : Hp) (v : V) : Sl → Prop
  | .un => False
  | .d x => Rp K A H v x
  | .ml xs => ∃ p vs, v = .ref p ∧ ¬ Ob H0 p ∧ H p = some (.lst vs) ∧ RpAll K (fun a => A a ∨ a = p) H vs xs
  | .bl xs => ∃ p vs, v = .ref p ∧ SqLA K W.B H p vs ∧ RpAll K A H vs xs
  | .st => ∃ z, v = .ref z ∧ StW W z
  | .scr ns => ∃ a, v = .ref a ∧ ∀ H, W.I H → SqL K H a (ns.map V.int)
  | .raw u => v = u
  | .mo o => ∃ p ho, v = .ref p ∧ ¬ Ob H0 p ∧ H p = some ho ∧ OdR K (fun a => A a ∨ a = p) H ho o
  | .bo o => ∃ p ho, v = .ref p ∧ H p = some ho ∧ ¬ W.B p ∧ OdR K A H ho o
/-- a thing of one's own -/
def Sl.isOwn : Sl → Prop
  | .ml _ => True
  | .mo _ => True
  | _ => False
/-- one's own, or read -/
def Sl.foot : Sl → Prop
  | .ml _ => True
  | .mo _ => True
  | .bl _ => True
  | .bo _ => True
  | _ => False
structure EnvR (K : PySem.W.Frag) (W : Wld τ) (A : Addr → Prop) (H : Hp) (σ : L2.St) (ρ : List Sl) : Prop where
  len : σ.length = ρ.length
  at_ : ∀ (i : Nat) (s : Sl), ρ[i]? = some s → ∃ v, σ[i]? = some v ∧ SlR K W A H v s
  /-- a list of one's own is no other slot's list, and none that is read -/
  dis : ∀ (i j : Nat) (p : Addr) (t s : Sl), i ≠ j → ρ[i]? = some t → t.isOwn → ρ[j]? = some s → s.foot → σ[i]? = some (some (.ref p)) → σ[j]? = some (some (.ref p)) → False
structure Bs (W : Wld τ) (A : Addr → Prop) (H : Hp) : Prop where
  ba : ∀ a, W.B a → A a
  dom : ∀ a, A a → Ob H a
  inv : W.I H
theorem Bs.fr {W : Wld τ} {A : Addr → Prop} {H H' : Hp} (b : Bs W A H) (f : Fr W.B H H') (i : W.I H') : Bs W A H' := ⟨b.ba, fun a h => f.2 a (b.dom a h), i⟩
theorem Bs.nB {W : Wld τ} {A : Addr → Prop} {H : Hp} {p : Addr} (b : Bs W A H) (h : ¬ Ob H p) : ¬ W.B p := fun z => h (b.dom p (b.ba p z))
theorem Bs.nA {W : Wld τ} {A : Addr → Prop} {H : Hp} {p : Addr} (b : Bs W A H) (h : ¬ Ob H p) : ¬ A p := fun z => h (b.dom p z)
theorem goes_fr {W : Wld τ} {A : Addr → Prop} {H H' : Hp} (b : ∀ a, W.B a → A a) (f : Fr W.B H H') : Goes A A H H' := fun c o h t n => ⟨f.1 c o h t fun z => n (b c z), n⟩
theorem goes_less {A A' : Addr → Prop} {H : Hp} (m : ∀ a, A' a → A a) : Goes A A' H H := fun b o e _ n => ⟨e, fun z => n (m b z)⟩
theorem sqB_fr {K : PySem.W.Frag} {W : Wld τ} {H H' : Hp} (f : Fr W.B H H') {p : Addr} {vs : List V} (h : SqLA K W.B H p vs) : SqLA K W.B H' p vs := sqLA_go (fun c o e t n => ⟨f.1 c o e t n, n⟩) h
theorem VlR.fr {K : PySem.W.Frag} {W : Wld τ} {A : Addr → Prop} {H0 H H' : Hp} {v : V} {s : Sl} (b : Bs W A H0) (h : VlR K W A H0 H v s) (f : Fr W.B H H') : VlR K W A H0 H' v s := by
  cases s with
  | un => exact h
  | d x => exact Rp.go (goes_fr b.ba f) h
  | ml xs =>
    obtain ⟨p, vs, e, n, e1, r⟩ := h
    exact ⟨p, vs, e, n, f.1 _ _ e1 nt_lst (b.nB n), r.go (goes_fr (fun a z => .inl (b.ba a z)) f)⟩
  | bl xs =>
    obtain ⟨p, vs, e, q, r⟩ := h
    exact ⟨p, vs, e, sqB_fr f q, r.go (goes_fr b.ba f)⟩
  | st => exact h
  | scr ns => exact h
  | raw u => exact h
  | mo o =>
    obtain ⟨p, ho, e, n, e1, r⟩ := h
    exact ⟨p, ho, e, n, f.1 _ _ e1 r.mb.nt (b.nB n), r.go (goes_fr (fun a z => .inl (b.ba a z)) f)⟩
  | bo o =>
    obtain ⟨p, ho, e, e1, n, r⟩ := h
    exact ⟨p, ho, e, f.1 _ _ e1 r.mb.nt n, n, r.go (goes_fr b.ba f)⟩
/-- fresh from an earlier heap on -/
theorem VlR.early {K : PySem.W.Frag} {W : Wld τ} {A : Addr → Prop} {H0 H1 H : Hp} {v : V} {s : Sl} (h : VlR K W A H1 H v s) (f : Fr W.B H0 H1) : VlR K W A H0 H v s := by
  cases s with
  | ml xs =>
    obtain ⟨p, vs, e, n, e1, r⟩ := h
    exact ⟨p, vs, e, fun z => n (f.2 p z), e1, r⟩
  | mo o =>
    obtain ⟨p, vs, e, n, e1, r⟩ := h
    exact ⟨p, vs, e, fun z => n (f.2 p z), e1, r⟩
  | _ => exact h
theorem SlR.fr {K : PySem.W.Frag} {W : Wld τ} {A : Addr → Prop} {H H' : Hp} {v : Option V} {s : Sl} (b : ∀ a, W.B a → A a) (h : SlR K W A H v s) (f : Fr W.B H H') : SlR K W A H' v s := by
  cases s with
  | un => exact h
  | d x =>
    obtain ⟨u, e, r⟩ := h
    exact ⟨u, e, r.go (goes_fr b f)⟩
  | ml xs =>
    obtain ⟨p, vs, e, e1, n, a, r⟩ := h
    exact ⟨p, vs, e, f.1 _ _ e1 nt_lst n, n, a, r.go (goes_fr b f)⟩
  | bl xs =>
    obtain ⟨p, vs, e, q, r⟩ := h
    exact ⟨p, vs, e, sqB_fr f q, r.go (goes_fr b f)⟩
  | st => exact h
  | scr ns => exact h
  | raw u => exact h
  | mo o =>
    obtain ⟨p, ho, e, e1, n, a, r⟩ := h
    exact ⟨p, ho, e, f.1 _ _ e1 r.mb.nt n, n, a, r.go (goes_fr b f)⟩
  | bo o =>
    obtain ⟨p, ho, e, e1, n, r⟩ := h
    exact ⟨p, ho, e, f.1 _ _ e1 r.mb.nt n, n, r.go (goes_fr b f)⟩
theorem EnvR.fr {K : PySem.W.Frag} {W : Wld τ} {A : Addr → Prop} {H H' : Hp} {σ : L2.St} {ρ : List Sl} (b : ∀ a, W.B a → A a) (h : EnvR K W A H σ ρ) (f : Fr W.B H H') : EnvR K W A H' σ ρ := ⟨h.len, fun i s e => by
  obtain ⟨v, e1, r⟩ := h.at_ i s e
  exact ⟨v, e1, r.fr b f⟩, h.dis⟩
theorem VlR.dat {K : PySem.W.Frag} {W : Wld τ} {A : Addr → Prop} {H0 H : Hp} {v : V} {s : Sl} {x : PyData} (b : Bs W A H0) (h : VlR K W A H0 H v s) (e : s.dat = some x) : Rp K A H v x := by
  cases s with
  | d y =>
    cases e
    exact h
  | ml xs =>
    cases e
    obtain ⟨p, vs, rfl, n, e1, r⟩ := h
    exact .lst ⟨e1, b.nA n⟩ (r.go (goes_less fun a z => .inl z))
  | mo o =>
    cases o with
    | dk kvs =>
      cases e
      obtain ⟨p, ho, rfl, n, e1, r⟩ := h
      cases ho with
      | dK ks =>
        have r1 := r.2.go (goes_less (A' := A) fun a z => .inl z)
        have k1 : kvs.map (fun p => keyD p.1) = ks.map fun p => keyD p.1 := by
          have := congrArg (List.map keyD) r.1
          rw [List.map_map, List.map_map] at this
          exact this.symm
        show Rp K A H (.ref p) (.dict ((kvs.map fun p => keyD p.1).zip (kvs.map (·.2))))
        rw [k1]
        exact .dct e1 (b.nA n) r1
      | _ => exact r.elim
    | dt kvs => cases e
  | _ => cases e
/-- what can be looked at as data: a list that is read, too -/
def Sl.rd : Sl → Option PyData
  | .d x => some x
  | .ml xs => some (.list xs)
  | .bl xs => some (.list xs)
  | _ => none
theorem VlR.rd {K : PySem.W.Frag} {W : Wld τ} {A : Addr → Prop} {H0 H : Hp} {v : V} {s : Sl} {x : PyData} (b : Bs W A H0) (h : VlR K W A H0 H v s) (e : s.rd = some x) : ∃ A' : Addr → Prop, Rp K A' H v x := by
  cases s with
  | d y =>
    cases e
    exact ⟨A, h⟩
  | ml xs =>
    cases e
    exact ⟨A, VlR.dat (s := .ml xs) b h rfl⟩
  | bl xs =>
    cases e
    obtain ⟨p, vs, rfl, q, r⟩ := h
    exact ⟨W.B, .lst q (r.go (goes_less fun a z => b.ba a z))⟩
  | _ => cases e
theorem VlR.seq {K : PySem.W.Frag} {W : Wld τ} {A : Addr → Prop} {H0 H : Hp} {v : V} {s : Sl} {xs : List PyData} (b : Bs W A H0) (h : VlR K W A H0 H v s) (e : s.seq = some xs) : ∃ p vs, v = .ref p ∧ SqLA K W.B H p vs ∧ RpAll K A H vs xs := by
  cases s with
  | d y =>
    cases y with
    | list ys =>
      cases e
      cases h with
      | lst q r => exact ⟨_, _, rfl, sqLA_go (fun c o e _ n => ⟨e, fun z => n (b.ba c z)⟩) q, r⟩
    | _ => cases e
  | ml ys =>
    cases e
    obtain ⟨p, vs, rfl, n, e1, r⟩ := h
    exact ⟨p, vs, rfl, ⟨e1, b.nB n⟩, r.go (goes_less fun a z => .inl z)⟩
  | bl ys =>
    cases e
    exact h
  | _ => cases e
theorem VlR.sq {K : PySem.W.Frag} {W : Wld τ} {A : Addr → Prop} {H0 H : Hp} {v : V} {s : Sl} {xs : List PyData} (b : Bs W A H0) (i : W.I H) (h : VlR K W A H0 H v s) (e : s.sq = some xs) : ∃ p vs, v = .ref p ∧ (SqL K H p vs ∨ SqT K H p vs) ∧ RpAll K A H vs xs := by
  cases s with
  | d y =>
    cases y with
    | list ys =>
      cases e
      cases h with
      | lst q r => exact ⟨_, _, rfl, .inl (sqLA_sq q), r⟩
    | tuple ys =>
      cases e
      cases h with
      | tup q r => exact ⟨_, _, rfl, .inr (sqTA_sq q), r⟩
    | _ => cases e
  | ml ys =>
    cases e
    obtain ⟨p, vs, rfl, n, e1, r⟩ := h
    exact ⟨p, vs, rfl, .inl (SqL.of e1), r.go (goes_less fun a z => .inl z)⟩
  | bl ys =>
    cases e
    obtain ⟨p, vs, rfl, q, r⟩ := h
    exact ⟨p, vs, rfl, .inl (sqLA_sq q), r⟩
  | scr ns =>
    cases e
    obtain ⟨a, rfl, q⟩ := h
    exact ⟨a, _, rfl, .inl (q H i), .of_ints ns⟩
  | _ => cases e
theorem VlR.flat {K : PySem.W.Frag} {W : Wld τ} {A : Addr → Prop} {H0 H : Hp} {v u : V} {s : Sl} (h : VlR K W A H0 H v s) (e : s.flat = some u) : v = u := by
  cases s with
  | d y => cases y <;> first | (cases e; cases h; rfl) | cases e
  | raw w =>
    cases e
    exact h
  | _ => cases e
theorem vlr_vS {K : PySem.W.Frag} {W : Wld τ} {A : Addr → Prop} {H0 H : Hp} (v : V) : VlR K W A H0 H v (vS v) := by
  cases v with
  | non => exact Rp.non
  | bl b => exact Rp.bl b
  | int i => exact Rp.int i
  | str x => exact Rp.str x
  | _ => rfl
/-- what a slot is as a value -/
def Sl.val : Sl → Sl
  | .ml xs => .bl xs
  | .mo o => .bo o
  | s => s
theorem SlR.val {K : PySem.W.Frag} {W : Wld τ} {A : Addr → Prop} {H0 H : Hp} {v : Option V} {s : Sl} (h : SlR K W A H v s) (hs : s ≠ .un) : ∃ u, v = some u ∧ VlR K W A H0 H u s.val := by
  cases s with
  | un => exact absurd rfl hs
  | d x => exact h
  | ml xs =>
    obtain ⟨p, vs, e, e1, n, _, r⟩ := h
    exact ⟨_, e, p, vs, rfl, ⟨e1, n⟩, r⟩
  | bl xs =>
    obtain ⟨p, vs, e, q, r⟩ := h
    exact ⟨_, e, p, vs, rfl, q, r⟩
  | st =>
    obtain ⟨z, e, q⟩ := h
    exact ⟨_, e, z, rfl, q⟩
  | scr ns =>
    obtain ⟨z, e, q⟩ := h
    exact ⟨_, e, z, rfl, q⟩
  | raw u => exact ⟨u, h, rfl⟩
  | mo o =>
    obtain ⟨p, ho, e, e1, n, _, r⟩ := h
    exact ⟨_, e, p, ho, rfl, e1, n, r⟩
  | bo o =>
    obtain ⟨p, ho, e, e1, n, r⟩ := h
    exact ⟨_, e, p, ho, rfl, e1, n, r⟩
end Dl

namespace Dl
open PySem PySem.Spec PyProof.Rows L2
abbrev Er := Addr × List (Str × PyData)
/-- what is raised: its class, its own dict -/
def ErR (K : PySem.W.Frag) (A : Addr → Prop) (H : Hp) (er : Er) (x : Option Addr) : Prop :=
  (er.2 = [] ∧ x = none) ∨ (er.2 ≠ [] ∧ ∃ d vs, x = some d ∧ H d = some (.xd ((er.2.map (·.1)).zip vs)) ∧ RpAll K A H vs (er.2.map (·.2)))
def ErK (K : PySem.W.Frag) (W : Wld τ) (A : Addr → Prop) (E : XK) (H : Hp) (R : Er → Prop) : Prop := ∀ er x H', Fr W.B H H' → W.I H' → ErR K A H' er x → R er → E (.ref er.1) x H'
theorem ErR.mono {K : PySem.W.Frag} {A A0 : Addr → Prop} {H : Hp} {er : Er} {x : Option Addr} (h : ErR K A H er x) (m : ∀ a, A0 a → A a) : ErR K A0 H er x := by
  rcases h with h | ⟨h1, d, vs, h2, h3, h4⟩
  · exact .inl h
  · exact .inr ⟨h1, d, vs, h2, h3, h4.go fun b o e _ n => ⟨e, fun z => n (m b z)⟩⟩
structure At (K : PySem.W.Frag) (W : Wld τ) (A : Addr → Prop) (E : XK) (H : Hp) (σ : L2.St) (ρ : List Sl) (R : Er → Prop) : Prop where
  bs : Bs W A H
  env : EnvR K W A H σ ρ
  er : ErK K W A E H R
theorem At.fr {K : PySem.W.Frag} {W : Wld τ} {A : Addr → Prop} {E : XK} {H H' : Hp} {σ : L2.St} {ρ : List Sl} {R : Er → Prop} (h : At K W A E H σ ρ R) (f : Fr W.B H H') (i : W.I H') : At K W A E H' σ ρ R :=
  ⟨h.bs.fr f i, h.env.fr h.bs.ba f, fun er x H2 f2 i2 e r => h.er er x H2 (f.trans f2) i2 e r⟩
/-- what is wanted of a value from H on -/
def Want (K : PySem.W.Frag) (W : Wld τ) (A : Addr → Prop) (H : Hp) (Qd : Sl → Prop) (Q : VK) : Prop := ∀ v H' s, Fr W.B H H' → W.I H' → VlR K W A H H' v s → Qd s → Q v H'
abbrev TD := List Sl → (Sl → Prop) → (Er → Prop) → Prop
abbrev TDT := List Sl → (Bool → Prop) → (Er → Prop) → Prop
abbrev TDA := List Sl → (List Sl → Prop) → (Er → Prop) → Prop
class RefE (K : PySem.W.Frag) (τ : List (Addr × Str)) (E : XK) (t : TE) (f : outParam TD) : Prop where
  go : ∀ (W : Wld τ) (A : Addr → Prop) (H : Hp) (σ : L2.St) (ρ : List Sl) (Qd : Sl → Prop) (R : Er → Prop) (Q : VK), At K W A E H σ ρ R → f ρ Qd R → Want K W A H Qd Q → t σ H Q
class RefT (K : PySem.W.Frag) (τ : List (Addr × Str)) (E : XK) (t : TT) (f : outParam TDT) : Prop where
  go : ∀ (W : Wld τ) (A : Addr → Prop) (H : Hp) (σ : L2.St) (ρ : List Sl) (Qd : Bool → Prop) (R : Er → Prop) (Q : Bool → Hp → Prop), At K W A E H σ ρ R → f ρ Qd R → (∀ b H', Fr W.B H H' → W.I H' → Qd b → Q b H') → t σ H Q
/-- values in a row -/
inductive VlsR (K : PySem.W.Frag) (W : Wld τ) (A : Addr → Prop) (H0 H : Hp) : List V → List Sl → Prop
  | nil : VlsR K W A H0 H [] []
  | cons {v : V} {vs : List V} {s : Sl} {ss : List Sl} : VlR K W A H0 H v s → VlsR K W A H0 H vs ss → VlsR K W A H0 H (v :: vs) (s :: ss)
theorem VlsR.early {K : PySem.W.Frag} {W : Wld τ} {A : Addr → Prop} {H0 H1 H : Hp} {vs : List V} {ss : List Sl} (h : VlsR K W A H1 H vs ss) (f : Fr W.B H0 H1) : VlsR K W A H0 H vs ss := by
  induction h with
  | nil => exact .nil
  | cons a _ ih => exact .cons (a.early f) ih
theorem VlsR.fr {K : PySem.W.Frag} {W : Wld τ} {A : Addr → Prop} {H0 H H' : Hp} {vs : List V} {ss : List Sl} (b : Bs W A H0) (h : VlsR K W A H0 H vs ss) (f : Fr W.B H H') : VlsR K W A H0 H' vs ss := by
  induction h with
  | nil => exact .nil
  | cons a _ ih => exact .cons (a.fr b f) ih
class RefA (K : PySem.W.Frag) (τ : List (Addr × Str)) (E : XK) (t : TA) (f : outParam TDA) : Prop where
  go : ∀ (W : Wld τ) (A : Addr → Prop) (H : Hp) (σ : L2.St) (ρ : List Sl) (Qd : List Sl → Prop) (R : Er → Prop) (Q : List V → Hp → Prop), At K W A E H σ ρ R → f ρ Qd R → (∀ vs H' ss, Fr W.B H H' → W.I H' → VlsR K W A H H' vs ss → Qd ss → Q vs H') → t σ H Q
/-- operators of two values; of one; built-in calls -/
class Ref2 (K : PySem.W.Frag) (r : R2) (f : outParam (Sl → Sl → (Sl → Prop) → Prop)) : Prop where
  go : ∀ {τ : List (Addr × Str)} (W : Wld τ) (A : Addr → Prop) (H0 H : Hp) (x y : V) (s u : Sl) (Qd : Sl → Prop) (Q : VK), Bs W A H0 → Fr W.B H0 H → W.I H → VlR K W A H0 H x s → VlR K W A H0 H y u → f s u Qd → Want K W A H Qd Q → r x y H Q
class Ref1 (K : PySem.W.Frag) (r : V → Hp → VK → Prop) (f : outParam (Sl → (Sl → Prop) → Prop)) : Prop where
  go : ∀ {τ : List (Addr × Str)} (W : Wld τ) (A : Addr → Prop) (H0 H : Hp) (x : V) (s : Sl) (Qd : Sl → Prop) (Q : VK), Bs W A H0 → Fr W.B H0 H → W.I H → VlR K W A H0 H x s → f s Qd → Want K W A H Qd Q → r x H Q
class RefC (K : PySem.W.Frag) (r : List V → Hp → VK → Prop) (f : outParam (List Sl → (Sl → Prop) → Prop)) : Prop where
  go : ∀ {τ : List (Addr × Str)} (W : Wld τ) (A : Addr → Prop) (H0 H : Hp) (xs : List V) (ss : List Sl) (Qd : Sl → Prop) (Q : VK), Bs W A H0 → Fr W.B H0 H → W.I H → VlsR K W A H0 H xs ss → f ss Qd → Want K W A H Qd Q → r xs H Q
theorem Want.here {K : PySem.W.Frag} {W : Wld τ} {A : Addr → Prop} {H : Hp} {Qd : Sl → Prop} {Q : VK} (h : Want K W A H Qd Q) (i : W.I H) (v : V) (q : Qd (vS v)) : Q v H := h v H _ (Fr.refl H) i (vlr_vS v) q
theorem Want.back {K : PySem.W.Frag} {W : Wld τ} {A : Addr → Prop} {H H1 : Hp} {Qd : Sl → Prop} {Q : VK} (h : Want K W A H Qd Q) (f : Fr W.B H H1) : Want K W A H1 Qd Q := fun v H' s f' i r q => h v H' s (f.trans f') i (r.early f) q
/-- a new list -/
theorem Want.lst {K : PySem.W.Frag} {W : Wld τ} {A : Addr → Prop} {H : Hp} {Qd : Sl → Prop} {Q : VK} {vs : List V} {ds : List PyData} (b : Bs W A H) (h : Want K W A H Qd Q) (r : RpAll K A H vs ds) (q : Qd (.ml ds)) : ∀ p, H p = none → Q (.ref p) (upd H p (.lst vs)) := fun p n =>
  h _ _ (.ml ds) (Fr.new n) (W.stay _ _ (same_new n) b.inv) ⟨p, vs, rfl, nob n, upd_same, r.go fun c o e _ nc => ⟨same_new n _ _ e, fun z => z.elim nc (ne_of_none e n)⟩⟩ q
theorem Want.tup {K : PySem.W.Frag} {W : Wld τ} {A : Addr → Prop} {H : Hp} {Qd : Sl → Prop} {Q : VK} {vs : List V} {ds : List PyData} (b : Bs W A H) (h : Want K W A H Qd Q) (r : RpAll K A H vs ds) (q : Qd (.d (.tuple ds))) : ∀ p, H p = none → Q (.ref p) (upd H p (.tup vs)) := fun p n =>
  h _ _ (.d (.tuple ds)) (Fr.new n) (W.stay _ _ (same_new n) b.inv) (Rp.tup (.inl ⟨.inl upd_same, b.nA (nob n)⟩) (r.go (goes_fr b.ba (Fr.new n)))) q
/-! ### names, constants -/
def dVar (i : Nat) : TD := fun ρ Qd _ => match (ρ[i]?).getD .un with
  | .un => False
  | .d x => Qd (.d x)
  | .ml xs => Qd (.bl xs)
  | .bl xs => Qd (.bl xs)
  | .st => Qd .st
  | .scr ns => Qd (.scr ns)
  | .raw v => Qd (.raw v)
  | .mo o => Qd (.bo o)
  | .bo o => Qd (.bo o)
theorem dVar_iff {i : Nat} {ρ : List Sl} {Qd : Sl → Prop} {R : Er → Prop} (h : dVar i ρ Qd R) : ∃ s, ρ[i]? = some s ∧ s ≠ .un ∧ Qd s.val := by
  unfold dVar at h
  cases e : ρ[i]? with
  | none =>
    rw [e] at h
    exact h.elim
  | some s =>
    rw [e] at h
    cases s with
    | un => exact h.elim
    | _ => exact ⟨_, rfl, (fun z => nomatch z), h⟩
section
variable {K : PySem.W.Frag} {E : XK}
instance {i : Nat} : RefE K τ E (tVar i) (dVar i) := ⟨fun W A H σ ρ Qd R Q a h w => by
  obtain ⟨s, e, hs, q⟩ := dVar_iff h
  obtain ⟨v, e1, r⟩ := a.env.at_ _ _ e
  obtain ⟨u, rfl, r2⟩ := r.val (H0 := H) hs
  exact ⟨u, e1, w u H _ (Fr.refl H) a.bs.inv r2 q⟩⟩
def dC (v : V) : TD := fun _ Qd _ => Qd (vS v)
instance {v : V} : RefE K τ E (tC v) (dC v) := ⟨fun W A H σ ρ Qd R Q a h w => w.here a.bs.inv v h⟩
/-! ### operators -/
def dOp (f : Sl → Sl → (Sl → Prop) → Prop) (fa fb : TD) : TD := fun ρ Qd R => fa ρ (fun s => fb ρ (fun u => f s u Qd) R) R
instance {r : R2} {ta tb : TE} {f : Sl → Sl → (Sl → Prop) → Prop} {fa fb : TD} [ha : RefE K τ E ta fa] [hb : RefE K τ E tb fb] [h2 : Ref2 K r f] : RefE K τ E (tOp r ta tb) (dOp f fa fb) := ⟨fun W A H σ ρ Qd R Q a h w => by
  refine ha.go W A H σ ρ _ R _ a h fun x H1 s f1 i1 r1 q1 => ?_
  refine hb.go W A H1 σ ρ _ R _ (a.fr f1 i1) q1 fun y H2 u f2 i2 r2 q2 => ?_
  exact h2.go W A H H2 x y s u Qd Q a.bs (f1.trans f2) i2 (r1.fr a.bs f2) (r2.early f1) q2 (w.back (f1.trans f2))⟩
def dUn (f : Sl → (Sl → Prop) → Prop) (fa : TD) : TD := fun ρ Qd R => fa ρ (fun s => f s Qd) R
instance {r : V → Hp → VK → Prop} {ta : TE} {f : Sl → (Sl → Prop) → Prop} {fa : TD} [ha : RefE K τ E ta fa] [h1 : Ref1 K r f] : RefE K τ E (tUn r ta) (dUn f fa) := ⟨fun W A H σ ρ Qd R Q a h w => by
  refine ha.go W A H σ ρ _ R _ a h fun x H1 s f1 i1 r1 q1 => ?_
  exact h1.go W A H H1 x s Qd Q a.bs f1 i1 r1 q1 (w.back f1)⟩
def fI0 (g : Int → Int → V) : Sl → Sl → (Sl → Prop) → Prop := fun s u Qd => match s, u with
  | .d (.int i), .d (.int j) => Qd (vS (g i j))
  | _, _ => False
theorem fI0_iff {g : Int → Int → V} {s u : Sl} {Qd : Sl → Prop} (h : fI0 g s u Qd) : ∃ i j, s = .d (.int i) ∧ u = .d (.int j) ∧ Qd (vS (g i j)) := by
  unfold fI0 at h
  split at h
  · exact ⟨_, _, rfl, rfl, h⟩
  · exact h.elim
instance {g : Int → Int → V} : Ref2 K (rI0 g) (fI0 g) := ⟨fun W A H0 H x y s u Qd Q b f i rx ry h w => by
  obtain ⟨m, n, rfl, rfl, q⟩ := fI0_iff h
  exact ⟨m, n, rx.flat (u := .int m) rfl, ry.flat (u := .int n) rfl, w.here i _ q⟩⟩
def fI (C : Int → Int → Prop) (g : Int → Int → V) : Sl → Sl → (Sl → Prop) → Prop := fun s u Qd => match s, u with
  | .d (.int i), .d (.int j) => C i j ∧ Qd (vS (g i j))
  | _, _ => False
instance {C : Int → Int → Prop} {g : Int → Int → V} : Ref2 K (rI C g) (fI C g) := ⟨fun W A H0 H x y s u Qd Q b f i rx ry h w => by
  unfold fI at h
  split at h
  · rename_i m n
    exact ⟨m, n, rx.flat (u := .int m) rfl, ry.flat (u := .int n) rfl, h.1, w.here i _ h.2⟩
  · exact h.elim⟩
def fU (g : Int → V) : Sl → (Sl → Prop) → Prop := fun s Qd => match s with
  | .d (.int i) => Qd (vS (g i))
  | _ => False
instance {g : Int → V} : Ref1 K (rU g) (fU g) := ⟨fun W A H0 H x s Qd Q b f i rx h w => by
  unfold fU at h
  split at h
  · rename_i m
    exact ⟨m, rx.flat (u := .int m) rfl, w.here i _ h⟩
  · exact h.elim⟩
def fEq (neg : Bool) : Sl → Sl → (Sl → Prop) → Prop := fun s u Qd => match s.flat, u.flat with
  | some x, some y => scal x y = true ∧ Qd (.d (.bool (if neg then !decide (x = y) else decide (x = y))))
  | _, _ => False
theorem fEq_iff {neg : Bool} {s u : Sl} {Qd : Sl → Prop} (h : fEq neg s u Qd) : ∃ x y, s.flat = some x ∧ u.flat = some y ∧ scal x y = true ∧ Qd (.d (.bool (if neg then !decide (x = y) else decide (x = y)))) := by
  unfold fEq at h
  split at h
  · rename_i x y e1 e2
    exact ⟨x, y, e1, e2, h.1, h.2⟩
  · exact h.elim
instance : Ref2 K rEq (fEq false) := ⟨fun W A H0 H x y s u Qd Q b f i rx ry h w => by
  obtain ⟨m, n, e1, e2, sc, q⟩ := fEq_iff h
  obtain rfl := rx.flat e1
  obtain rfl := ry.flat e2
  exact ⟨sc, w.here i _ q⟩⟩
instance : Ref2 K rNe (fEq true) := ⟨fun W A H0 H x y s u Qd Q b f i rx ry h w => by
  obtain ⟨m, n, e1, e2, sc, q⟩ := fEq_iff h
  obtain rfl := rx.flat e1
  obtain rfl := ry.flat e2
  exact ⟨sc, w.here i _ q⟩⟩
/-- == of data of any depth -/
def fEqD (neg : Bool) : Sl → Sl → (Sl → Prop) → Prop := fun s u Qd => match s.rd, u.rd with
  | some x, some y => SeqAt.shaped x = true ∧ SeqAt.shaped y = true ∧ Qd (.d (.bool (if neg then !PyData.eqv x y else PyData.eqv x y)))
  | _, _ => False
theorem shaped_lay {d : PyData} (h : SeqAt.shaped d = true) : d.canLay0 = true := by
  unfold SeqAt.shaped at h
  rw [Bool.and_eq_true] at h
  exact h.1
theorem fEqD_iff {neg : Bool} {s u : Sl} {Qd : Sl → Prop} (h : fEqD neg s u Qd) : ∃ x y, s.rd = some x ∧ u.rd = some y ∧ SeqAt.shaped x = true ∧ SeqAt.shaped y = true ∧ Qd (.d (.bool (if neg then !PyData.eqv x y else PyData.eqv x y))) := by
  unfold fEqD at h
  split at h
  · rename_i x y e1 e2
    exact ⟨x, y, e1, e2, h.1, h.2.1, h.2.2⟩
  · exact h.elim
instance : Ref2 K (rEqD K) (fEqD false) := ⟨fun W A H0 H x y s u Qd Q b f i rx ry h w => by
  obtain ⟨m, n, e1, e2, s1, s2, q⟩ := fEqD_iff h
  obtain ⟨_, r1⟩ := rx.rd b e1
  obtain ⟨_, r2⟩ := ry.rd b e2
  exact ⟨m, n, r1.dp (shaped_lay s1), r2.dp (shaped_lay s2), s1, s2, w.here i _ q⟩⟩
instance : Ref2 K (rNeD K) (fEqD true) := ⟨fun W A H0 H x y s u Qd Q b f i rx ry h w => by
  obtain ⟨m, n, e1, e2, s1, s2, q⟩ := fEqD_iff h
  obtain ⟨_, r1⟩ := rx.rd b e1
  obtain ⟨_, r2⟩ := ry.rd b e2
  exact ⟨m, n, r1.dp (shaped_lay s1), r2.dp (shaped_lay s2), s1, s2, w.here i _ q⟩⟩
/-- is None -/
def Sl.isNon : Sl → Bool
  | .d .none => true
  | _ => false
def fIs (neg : Bool) : Sl → Sl → (Sl → Prop) → Prop := fun s u Qd => match s, u with
  | .d x, .d .none => Qd (.d (.bool (if neg then !(Sl.d x).isNon else (Sl.d x).isNon)))
  | .ml xs, .d .none => Qd (.d (.bool neg))
  | .bl xs, .d .none => Qd (.d (.bool neg))
  | _, _ => False
theorem rp_non {K : PySem.W.Frag} {A : Addr → Prop} {H : Hp} {v : V} {x : PyData} (h : Rp K A H v x) : decide (v = .non) = (Sl.d x).isNon := by
  cases h <;> rfl
theorem fIs_iff {neg : Bool} {s u : Sl} {Qd : Sl → Prop} {K : PySem.W.Frag} {W : Wld τ} {A : Addr → Prop} {H0 H : Hp} {v : V} (r : VlR K W A H0 H v s) (h : fIs neg s u Qd) : u = .d .none ∧ Qd (.d (.bool (if neg then !decide (v = .non) else decide (v = .non)))) := by
  unfold fIs at h
  split at h
  · rename_i x
    refine ⟨rfl, ?_⟩
    rw [rp_non r]
    exact h
  · obtain ⟨p, vs, rfl, _⟩ := r
    refine ⟨rfl, ?_⟩
    cases neg <;> exact h
  · obtain ⟨p, vs, rfl, _⟩ := r
    refine ⟨rfl, ?_⟩
    cases neg <;> exact h
  · exact h.elim
instance : Ref2 K (fun x y H Q => y = .non ∧ Q (.bl (decide (x = .non))) H) (fIs false) := ⟨fun W A H0 H x y s u Qd Q b f i rx ry h w => by
  obtain ⟨rfl, q⟩ := fIs_iff rx h
  exact ⟨ry.flat (u := .non) rfl, w.here i _ q⟩⟩
instance : Ref2 K (fun x y H Q => y = .non ∧ Q (.bl (!decide (x = .non))) H) (fIs true) := ⟨fun W A H0 H x y s u Qd Q b f i rx ry h w => by
  obtain ⟨rfl, q⟩ := fIs_iff rx h
  exact ⟨ry.flat (u := .non) rfl, w.here i _ q⟩⟩
/-! ### tests -/
def dTst (fe : TD) : TDT := fun ρ Qd R => fe ρ (fun s => match s with
  | .d (.bool b) => Qd b
  | _ => False) R
theorem dTst_iff {Qd : Bool → Prop} {s : Sl} (h : (match s with
  | .d (.bool b) => Qd b
  | _ => False)) : ∃ b, s = .d (.bool b) ∧ Qd b := by
  split at h
  · exact ⟨_, rfl, h⟩
  · exact h.elim
instance {t : TE} {f : TD} [ht : RefE K τ E t f] : RefT K τ E (tB t) (dTst f) := ⟨fun W A H σ ρ Qd R Q a h w => by
  refine ht.go W A H σ ρ _ R _ a h fun x H1 s f1 i1 r1 q1 => ?_
  obtain ⟨b, rfl, q⟩ := dTst_iff q1
  exact ⟨b, r1.flat (u := .bl b) rfl, w b H1 f1 i1 q⟩⟩
instance {t : TE} {f : TD} [ht : RefE K τ E t f] : RefT K τ E (tTest t) (dTst f) := ⟨fun W A H σ ρ Qd R Q a h w => by
  refine ht.go W A H σ ρ _ R _ a h fun x H1 s f1 i1 r1 q1 => ?_
  obtain ⟨b, rfl, q⟩ := dTst_iff q1
  exact ⟨b, r1.flat (u := .bl b) rfl, w b H1 f1 i1 q⟩⟩
def dNot (c : TDT) : TDT := fun ρ Qd R => c ρ (fun b => Qd (!b)) R
instance {t : TT} {c : TDT} [ht : RefT K τ E t c] : RefT K τ E (tNot t) (dNot c) := ⟨fun W A H σ ρ Qd R Q a h w => ht.go W A H σ ρ _ R _ a h fun b H1 f1 i1 q => w _ _ f1 i1 q⟩
def dAnd (c e : TDT) : TDT := fun ρ Qd R => c ρ (fun b => match b with
  | true => e ρ Qd R
  | false => Qd false) R
def dOr (c e : TDT) : TDT := fun ρ Qd R => c ρ (fun b => match b with
  | true => Qd true
  | false => e ρ Qd R) R
instance {t u : TT} {c e : TDT} [ht : RefT K τ E t c] [hu : RefT K τ E u e] : RefT K τ E (tAnd t u) (dAnd c e) := ⟨fun W A H σ ρ Qd R Q a h w => by
  refine ht.go W A H σ ρ _ R _ a h fun b H1 f1 i1 q => ?_
  cases b with
  | true => exact iteT (hu.go W A H1 σ ρ _ R _ (a.fr f1 i1) q fun b H2 f2 i2 q2 => w b H2 (f1.trans f2) i2 q2)
  | false => exact iteF (w false H1 f1 i1 q)⟩
instance {t u : TT} {c e : TDT} [ht : RefT K τ E t c] [hu : RefT K τ E u e] : RefT K τ E (tOr t u) (dOr c e) := ⟨fun W A H σ ρ Qd R Q a h w => by
  refine ht.go W A H σ ρ _ R _ a h fun b H1 f1 i1 q => ?_
  cases b with
  | true => exact iteT (w true H1 f1 i1 q)
  | false => exact iteF (hu.go W A H1 σ ρ _ R _ (a.fr f1 i1) q fun b H2 f2 i2 q2 => w b H2 (f1.trans f2) i2 q2)⟩
/-- and, or, not as values -/
def dAndV (fa fb : TD) : TD := fun ρ Qd R => dTst fa ρ (fun b => match b with
  | true => fb ρ Qd R
  | false => Qd (.d (.bool false))) R
def dOrV (fa fb : TD) : TD := fun ρ Qd R => dTst fa ρ (fun b => match b with
  | true => Qd (.d (.bool true))
  | false => fb ρ Qd R) R
def dNotV (fa : TD) : TD := fun ρ Qd R => dTst fa ρ (fun b => Qd (.d (.bool !b))) R
instance {t u : TE} {c e : TD} [ht : RefE K τ E t c] [hu : RefE K τ E u e] : RefE K τ E (tAndV t u) (dAndV c e) := ⟨fun W A H σ ρ Qd R Q a h w => by
  refine ht.go W A H σ ρ _ R _ a h fun x H1 s f1 i1 r1 q1 => ?_
  obtain ⟨b, rfl, q⟩ := dTst_iff (Qd := fun b => match b with
    | true => e ρ Qd R
    | false => Qd (.d (.bool false))) q1
  refine ⟨b, r1.flat (u := .bl b) rfl, ?_⟩
  cases b with
  | true => exact iteT (hu.go W A H1 σ ρ _ R _ (a.fr f1 i1) q (w.back f1))
  | false => exact iteF ((w.back f1).here i1 _ q)⟩
instance {t u : TE} {c e : TD} [ht : RefE K τ E t c] [hu : RefE K τ E u e] : RefE K τ E (tOrV t u) (dOrV c e) := ⟨fun W A H σ ρ Qd R Q a h w => by
  refine ht.go W A H σ ρ _ R _ a h fun x H1 s f1 i1 r1 q1 => ?_
  obtain ⟨b, rfl, q⟩ := dTst_iff (Qd := fun b => match b with
    | true => Qd (.d (.bool true))
    | false => e ρ Qd R) q1
  refine ⟨b, r1.flat (u := .bl b) rfl, ?_⟩
  cases b with
  | true => exact iteT ((w.back f1).here i1 _ q)
  | false => exact iteF (hu.go W A H1 σ ρ _ R _ (a.fr f1 i1) q (w.back f1))⟩
instance {t : TE} {c : TD} [ht : RefE K τ E t c] : RefE K τ E (tNotV t) (dNotV c) := ⟨fun W A H σ ρ Qd R Q a h w => by
  refine ht.go W A H σ ρ _ R _ a h fun x H1 s f1 i1 r1 q1 => ?_
  obtain ⟨b, rfl, q⟩ := dTst_iff (Qd := fun b => Qd (.d (.bool !b))) q1
  exact ⟨b, r1.flat (u := .bl b) rfl, (w.back f1).here i1 _ q⟩⟩
/-- a if t else b -/
def dIf (c : TDT) (fa fb : TD) : TD := fun ρ Qd R => c ρ (fun b => match b with
  | true => fa ρ Qd R
  | false => fb ρ Qd R) R
instance {t : TT} {ta tb : TE} {c : TDT} {fa fb : TD} [ht : RefT K τ E t c] [ha : RefE K τ E ta fa] [hb : RefE K τ E tb fb] : RefE K τ E (tIf t ta tb) (dIf c fa fb) := ⟨fun W A H σ ρ Qd R Q a h w => by
  refine ht.go W A H σ ρ _ R _ a h fun b H1 f1 i1 q => ?_
  cases b with
  | true => exact iteT (ha.go W A H1 σ ρ _ R _ (a.fr f1 i1) q (w.back f1))
  | false => exact iteF (hb.go W A H1 σ ρ _ R _ (a.fr f1 i1) q (w.back f1))⟩
/-- a < b < c -/
def dChain (f g : Sl → Sl → (Sl → Prop) → Prop) (fa fb fc : TD) : TD := fun ρ Qd R => fa ρ (fun s => fb ρ (fun u => f s u fun z => match z with
  | .d (.bool b) => (match b with
    | true => fc ρ (fun y => g u y Qd) R
    | false => Qd (.d (.bool false)))
  | _ => False) R) R
instance {r r' : R2} {ta tb tc : TE} {f g : Sl → Sl → (Sl → Prop) → Prop} {fa fb fc : TD} [ha : RefE K τ E ta fa] [hb : RefE K τ E tb fb] [hc : RefE K τ E tc fc] [h2 : Ref2 K r f] [h3 : Ref2 K r' g] : RefE K τ E (tChain r r' ta tb tc) (dChain f g fa fb fc) := ⟨fun W A H σ ρ Qd R Q a h w => by
  refine ha.go W A H σ ρ _ R _ a h fun x H1 s f1 i1 r1 q1 => ?_
  refine hb.go W A H1 σ ρ _ R _ (a.fr f1 i1) q1 fun y H2 u f2 i2 r2 q2 => ?_
  refine h2.go W A H H2 x y s u _ _ a.bs (f1.trans f2) i2 (r1.fr a.bs f2) (r2.early f1) q2 fun z H3 c f3 i3 r3 q3 => ?_
  obtain ⟨b, rfl, q⟩ := dTst_iff (Qd := fun b => match b with
    | true => fc ρ (fun y => g u y Qd) R
    | false => Qd (.d (.bool false))) q3
  have f13 := (f1.trans f2).trans f3
  refine ⟨b, r3.flat (u := .bl b) rfl, ?_⟩
  cases b with
  | true =>
    refine iteT (hc.go W A H3 σ ρ _ R _ (a.fr f13 i3) q fun y' H4 c' f4 i4 r4 q4 => ?_)
    exact h3.go W A H H4 y y' u c' Qd Q a.bs (f13.trans f4) i4 ((r2.early f1).fr a.bs (f3.trans f4)) (r4.early f13) q4 (w.back (f13.trans f4))
  | false => exact iteF ((w.back f13).here i3 _ q)⟩
/-! ### arguments, displays, built-in calls -/
def dNil : TDA := fun _ Qd _ => Qd []
def dCons (fa : TD) (fr : TDA) : TDA := fun ρ Qd R => fa ρ (fun s => fr ρ (fun ss => Qd (s :: ss)) R) R
instance : RefA K τ E tNil dNil := ⟨fun W A H σ ρ Qd R Q a h w => w [] H [] (Fr.refl H) a.bs.inv .nil h⟩
instance {ta : TE} {tr : TA} {fa : TD} {fr : TDA} [ha : RefE K τ E ta fa] [hr : RefA K τ E tr fr] : RefA K τ E (tCons ta tr) (dCons fa fr) := ⟨fun W A H σ ρ Qd R Q a h w => by
  refine ha.go W A H σ ρ _ R _ a h fun x H1 s f1 i1 r1 q1 => ?_
  refine hr.go W A H1 σ ρ _ R _ (a.fr f1 i1) q1 fun ys H2 ss f2 i2 r2 q2 => ?_
  exact w (x :: ys) H2 (s :: ss) (f1.trans f2) i2 (.cons (r1.fr a.bs f2) (r2.early f1)) q2⟩
/-- all of them data -/
def dats : List Sl → Option (List PyData)
  | [] => some []
  | s :: r => match s.dat, dats r with
    | some x, some xs => some (x :: xs)
    | _, _ => none
theorem VlsR.dats {W : Wld τ} {A : Addr → Prop} {H0 H : Hp} (b : Bs W A H0) {vs : List V} {ss : List Sl} (h : VlsR K W A H0 H vs ss) : ∀ {ds : List PyData}, Dl.dats ss = some ds → RpAll K A H vs ds := by
  induction h with
  | nil =>
    intro ds e
    cases e
    exact .nil
  | @cons v vs s ss h1 h2 ih =>
    intro ds e
    unfold Dl.dats at e
    split at e
    · rename_i x xs e1 e2
      cases e
      exact .cons (h1.dat b e1) (ih e2)
    · cases e
theorem VlsR.length {W : Wld τ} {A : Addr → Prop} {H0 H : Hp} {vs : List V} {ss : List Sl} (h : VlsR K W A H0 H vs ss) : vs.length = ss.length := by
  induction h with
  | nil => rfl
  | cons _ _ ih => rw [List.length_cons, List.length_cons, ih]
def dTup (fa : TDA) : TD := fun ρ Qd R => fa ρ (fun ss => ss.length ≤ sizeLine ∧ match dats ss with
  | some ds => Qd (.d (.tuple ds))
  | none => False) R
def dLst (fa : TDA) : TD := fun ρ Qd R => fa ρ (fun ss => ss.length ≤ sizeLine ∧ match dats ss with
  | some ds => Qd (.ml ds)
  | none => False) R
theorem dats_iff {ss : List Sl} {P : List PyData → Prop} (h : (match dats ss with
  | some ds => P ds
  | none => False)) : ∃ ds, dats ss = some ds ∧ P ds := by
  split at h
  · rename_i ds e
    exact ⟨ds, e, h⟩
  · exact h.elim
instance {t : TA} {fa : TDA} [ha : RefA K τ E t fa] : RefE K τ E (tTup t) (dTup fa) := ⟨fun W A H σ ρ Qd R Q a h w => by
  refine ha.go W A H σ ρ _ R _ a h fun vs H1 ss f1 i1 r1 q1 => ?_
  obtain ⟨hl, q⟩ := q1
  obtain ⟨ds, e, q⟩ := dats_iff (P := fun ds => Qd (.d (.tuple ds))) q
  exact ⟨by rw [r1.length]; exact hl, Want.tup (a.bs.fr f1 i1) (w.back f1) (r1.dats a.bs e) q⟩⟩
instance {t : TA} {fa : TDA} [ha : RefA K τ E t fa] : RefE K τ E (tLst t) (dLst fa) := ⟨fun W A H σ ρ Qd R Q a h w => by
  refine ha.go W A H σ ρ _ R _ a h fun vs H1 ss f1 i1 r1 q1 => ?_
  obtain ⟨hl, q⟩ := q1
  obtain ⟨ds, e, q⟩ := dats_iff (P := fun ds => Qd (.ml ds)) q
  exact ⟨by rw [r1.length]; exact hl, Want.lst (a.bs.fr f1 i1) (w.back f1) (r1.dats a.bs e) q⟩⟩
def dCB (f : List Sl → (Sl → Prop) → Prop) (fa : TDA) : TD := fun ρ Qd R => fa ρ (fun ss => f ss Qd) R
instance {r : List V → Hp → VK → Prop} {t : TA} {f : List Sl → (Sl → Prop) → Prop} {fa : TDA} [ha : RefA K τ E t fa] [hc : RefC K r f] : RefE K τ E (tCB r t) (dCB f fa) := ⟨fun W A H σ ρ Qd R Q a h w => by
  refine ha.go W A H σ ρ _ R _ a h fun vs H1 ss f1 i1 r1 q1 => ?_
  exact hc.go W A H H1 vs ss Qd Q a.bs f1 i1 r1 q1 (w.back f1)⟩
end
end Dl

namespace Dl
open PySem PySem.Spec PyProof.Rows L2
/-! ### slots -/
theorem EnvR.pre {K : PySem.W.Frag} {W : Wld τ} {A : Addr → Prop} {H : Hp} {σ gσ : L2.St} {ρ gρ : List Sl} (h : EnvR K W A H (σ ++ gσ) (ρ ++ gρ)) (hl : σ.length = ρ.length) : EnvR K W A H σ ρ := by
  have up : ∀ {i : Nat} {s : Sl}, ρ[i]? = some s → (ρ ++ gρ)[i]? = some s ∧ (σ ++ gσ)[i]? = σ[i]? := fun {i s} e => by
    have hi := (List.getElem?_eq_some_iff.mp e).1
    exact ⟨by rw [List.getElem?_append_left hi]; exact e, List.getElem?_append_left (by omega)⟩
  refine ⟨hl, fun i s e => ?_, fun i j p t s ne e1 e0 e2 e3 e4 e5 => ?_⟩
  · obtain ⟨v, e1, r⟩ := h.at_ i s (up e).1
    rw [(up e).2] at e1
    exact ⟨v, e1, r⟩
  · exact h.dis i j p t s ne (up e1).1 e0 (up e2).1 e3 ((up e1).2.trans e4) ((up e2).2.trans e5)
theorem get_set {α : Type} {xs : List α} {i j : Nat} {x y : α} (h : (xs.set i x)[j]? = some y) : (i = j ∧ y = x ∧ i < xs.length) ∨ (i ≠ j ∧ xs[j]? = some y) := by
  rw [List.getElem?_set] at h
  split at h
  · rename_i e
    split at h
    · rename_i hl
      exact .inl ⟨e, (Option.some.inj h).symm, hl⟩
    · cases h
  · rename_i e
    exact .inr ⟨e, h⟩
/-- what is no list of one's own and none that is read -/
def Sl.plain : Sl → Prop
  | .ml _ => False
  | .bl _ => False
  | .mo _ => False
  | .bo _ => False
  | _ => True
theorem plain_own {s : Sl} (h : s.plain) (k : s.isOwn) : False := by cases s <;> first | exact h | exact k
theorem plain_foot {s : Sl} (h : s.plain) (k : s.foot) : False := by cases s <;> first | exact h | exact k
/-- what is its own stands in the heap -/
theorem foot_ob {K : PySem.W.Frag} {W : Wld τ} {A : Addr → Prop} {H : Hp} {p : Addr} {s : Sl} (h : SlR K W A H (some (.ref p)) s) (k : s.foot) : Ob H p := by
  cases s with
  | ml xs =>
    obtain ⟨q, vs, e, e1, _⟩ := h
    cases e
    exact ⟨_, e1, nt_lst⟩
  | bl xs =>
    obtain ⟨q, vs, e, e1, _⟩ := h
    cases e
    exact ⟨_, e1.1, nt_lst⟩
  | mo o =>
    obtain ⟨q, ho, e, e1, _, _, r⟩ := h
    cases e
    exact ⟨_, e1, r.mb.nt⟩
  | bo o =>
    obtain ⟨q, ho, e, e1, _, r⟩ := h
    cases e
    exact ⟨_, e1, r.mb.nt⟩
  | _ => exact k.elim
theorem own_foot {s : Sl} (h : s.isOwn) : s.foot := by cases s <;> first | trivial | exact h.elim
theorem EnvR.set {K : PySem.W.Frag} {W : Wld τ} {A : Addr → Prop} {H : Hp} {σ : L2.St} {ρ : List Sl} {i : Nat} {v : Option V} {s : Sl} (h : EnvR K W A H σ ρ) (hs : s.plain) (r : SlR K W A H v s) : EnvR K W A H (σ.set i v) (ρ.set i s) := by
  refine ⟨by rw [List.length_set, List.length_set, h.len], fun j u e => ?_, fun j k p t u ne e1 e0 e2 e3 e4 e5 => ?_⟩
  · rcases get_set e with ⟨rfl, rfl, hl⟩ | ⟨ne, e⟩
    · exact ⟨v, by rw [List.getElem?_set_self (by rw [h.len]; exact hl)], r⟩
    · obtain ⟨w, e1, r1⟩ := h.at_ j u e
      exact ⟨w, by rw [List.getElem?_set_ne ne]; exact e1, r1⟩
  · rcases get_set e1 with ⟨rfl, e, _⟩ | ⟨n1, e1⟩
    · rw [← e] at hs
      exact plain_own hs e0
    · rcases get_set e2 with ⟨rfl, e, _⟩ | ⟨n2, e2⟩
      · rw [← e] at hs
        exact plain_foot hs e3
      · rw [List.getElem?_set_ne n1] at e4
        rw [List.getElem?_set_ne n2] at e5
        exact h.dis j k p t u ne e1 e0 e2 e3 e4 e5
theorem set_app {α : Type} {xs ys : List α} {i : Nat} {x : α} (h : i < xs.length) : xs.set i x ++ ys = (xs ++ ys).set i x := by rw [List.set_append_left _ _ h]
theorem EnvR.setA {K : PySem.W.Frag} {W : Wld τ} {A : Addr → Prop} {H : Hp} {σ gσ : L2.St} {ρ gρ : List Sl} {i : Nat} {v : Option V} {s : Sl} (h : EnvR K W A H (σ ++ gσ) (ρ ++ gρ)) (hl : σ.length = ρ.length) (hs : s.plain) (r : SlR K W A H v s) : EnvR K W A H (σ.set i v ++ gσ) (ρ.set i s ++ gρ) := by
  by_cases hi : i < σ.length
  · rw [set_app hi, set_app (by omega)]
    exact h.set hs r
  · rw [List.set_eq_of_length_le (by omega), List.set_eq_of_length_le (by omega)]
    exact h
/-- a new list becomes a slot's own -/
theorem EnvR.own {K : PySem.W.Frag} {W : Wld τ} {A : Addr → Prop} {Hs H : Hp} {σ : L2.St} {ρ : List Sl} {i : Nat} {p : Addr} {s : Sl} (h : EnvR K W A Hs σ ρ) (b : Bs W A Hs) (f : Fr W.B Hs H) (n : ¬ Ob Hs p) (r : SlR K W (fun a => A a ∨ a = p) H (some (.ref p)) s) :
    EnvR K W (fun a => A a ∨ a = p) H (σ.set i (some (.ref p))) (ρ.set i s) := by
  have ba : ∀ a, W.B a → A a ∨ a = p := fun a z => .inl (b.ba a z)
  have g : Goes A (fun a => A a ∨ a = p) Hs Hs := fun c o ec t nc => ⟨ec, fun z => z.elim nc (ne_nob ec t n)⟩
  have up : ∀ {v : Option V} {s : Sl}, SlR K W A Hs v s → SlR K W (fun a => A a ∨ a = p) H v s := fun {v s} q => by
    refine SlR.fr (H := Hs) ba ?_ f
    cases s with
    | un => exact q
    | d x =>
      obtain ⟨u, e1, r1⟩ := q
      exact ⟨u, e1, r1.go g⟩
    | ml ys =>
      obtain ⟨q', us, e1, e2, e3, e4, e5⟩ := q
      exact ⟨q', us, e1, e2, e3, .inl e4, e5.go g⟩
    | bl ys =>
      obtain ⟨q', us, e1, e2, e3⟩ := q
      exact ⟨q', us, e1, e2, e3.go g⟩
    | st => exact q
    | scr ns => exact q
    | raw u => exact q
    | mo o =>
      obtain ⟨q', us, e1, e2, e3, e4, e5⟩ := q
      exact ⟨q', us, e1, e2, e3, .inl e4, e5.go g⟩
    | bo o =>
      obtain ⟨q', us, e1, e2, e3, e4⟩ := q
      exact ⟨q', us, e1, e2, e3, e4.go g⟩
  refine ⟨by rw [List.length_set, List.length_set, h.len], fun j u ej => ?_, fun j k q t u ne e1 e0 e2 e3 e4 e5 => ?_⟩
  · rcases get_set ej with ⟨rfl, rfl, hl⟩ | ⟨ne, ej⟩
    · exact ⟨some (.ref p), by rw [List.getElem?_set_self (by rw [h.len]; exact hl)], r⟩
    · obtain ⟨w, e1, r1⟩ := h.at_ j u ej
      exact ⟨w, by rw [List.getElem?_set_ne ne]; exact e1, up r1⟩
  · have noml : ∀ {j : Nat} {u : Sl}, ρ[j]? = some u → u.foot → σ[j]? = some (some (.ref p)) → False := fun {j u} ej ku vj => by
      obtain ⟨w, e1, q'⟩ := h.at_ _ _ ej
      rw [vj] at e1
      cases e1
      exact n (foot_ob q' ku)
    rcases get_set e1 with ⟨rfl, ee, hl⟩ | ⟨n1, e1⟩
    · rw [List.getElem?_set_self (by rw [h.len]; exact hl)] at e4
      cases e4
      rcases get_set e2 with ⟨z, _, _⟩ | ⟨n2, e2⟩
      · exact ne z
      · rw [List.getElem?_set_ne n2] at e5
        exact noml e2 e3 e5
    · rw [List.getElem?_set_ne n1] at e4
      rcases get_set e2 with ⟨rfl, ee, hl⟩ | ⟨n2, e2⟩
      · rw [List.getElem?_set_self (by rw [h.len]; exact hl)] at e5
        cases e5
        exact noml e1 (own_foot e0) e4
      · rw [List.getElem?_set_ne n2] at e5
        exact h.dis j k q t u ne e1 e0 e2 e3 e4 e5
end Dl

namespace Dl
open PySem PySem.Spec PyProof.Rows L2
/-! ### where a statement stands -/
/-- the world grows: new states -/
structure WLe (W0 : Wld τ) (H0 : Hp) (W : Wld τ) : Prop where
  up : ∀ a, W0.B a → W.B a
  dn : ∀ a, W.B a → W0.B a ∨ ¬ Ob H0 a
  inv : ∀ H, W.I H → W0.I H
theorem WLe.refl (W : Wld τ) (H : Hp) : WLe W H W := ⟨fun _ h => h, fun _ h => .inl h, fun _ h => h⟩
theorem WLe.fr {W0 W : Wld τ} {H0 H H' : Hp} (l : WLe W0 H0 W) (f : Fr W0.B H0 H) (g : Fr W.B H H') : Fr W0.B H0 H' := ⟨fun b o e t n => g.1 b o (f.1 b o e t n) t fun z => (l.dn b z).elim n (fun q => q ⟨o, e, t⟩), fun b h => g.2 b (f.2 b h)⟩
structure Cor (K : PySem.W.Frag) (W0 : Wld τ) (A0 : Addr → Prop) (H0 : Hp) (W : Wld τ) (A : Addr → Prop) (H : Hp) (σ : L2.St) (ρ : List Sl) (gσ : L2.St) (gρ : List Sl) : Prop where
  wl : WLe W0 H0 W
  a0 : ∀ a, A0 a → A a
  bs : Bs W A H
  fr : Fr W0.B H0 H
  env : EnvR K W A H (σ ++ gσ) (ρ ++ gρ)
  lg : σ.length = ρ.length
  new : ∀ (i : Nat) (p : Addr) (s : Sl), ρ[i]? = some s → s.isOwn → σ[i]? = some (some (.ref p)) → ¬ Ob H0 p
def SR (K : PySem.W.Frag) (W0 : Wld τ) (A0 : Addr → Prop) (H0 H : Hp) (σ : L2.St) (ρ : List Sl) (gσ : L2.St) (gρ : List Sl) : Prop := ∃ W A, Cor K W0 A0 H0 W A H σ ρ gσ gρ
structure DEnds where
  nx : List Sl → Prop
  rt : Sl → Prop
  bk : List Sl → Prop := fun _ => False
  ct : List Sl → Prop := fun _ => False
abbrev TDS := DEnds → (Er → Prop) → List Sl → Prop
structure EndR (K : PySem.W.Frag) (W : Wld τ) (A0 : Addr → Prop) (H0 : Hp) (gσ : L2.St) (gρ : List Sl) (D : Ends) (dd : DEnds) : Prop where
  nx : ∀ H σ ρ, SR K W A0 H0 H σ ρ gσ gρ → dd.nx ρ → D.nx σ H
  rt : ∀ v H s, Fr W.B H0 H → W.I H → VlR K W A0 H0 H v s → dd.rt s → D.rt v H
  bk : ∀ H σ ρ, SR K W A0 H0 H σ ρ gσ gρ → dd.bk ρ → D.bk σ H
  ct : ∀ H σ ρ, SR K W A0 H0 H σ ρ gσ gρ → dd.ct ρ → D.ct σ H
class RefS (K : PySem.W.Frag) (τ : List (Addr × Str)) (E : XK) (t : TS) (g : outParam TDS) : Prop where
  go : ∀ (W : Wld τ) (A0 : Addr → Prop) (H0 : Hp) (D : Ends) (dd : DEnds) (R : Er → Prop) (H : Hp) (σ : L2.St) (ρ : List Sl) (gσ : L2.St) (gρ : List Sl), Bs W A0 H0 → SR K W A0 H0 H σ ρ gσ gρ → EndR K W A0 H0 gσ gρ D dd → ErK K W A0 E H0 R → g dd R ρ → t D σ H
section
variable {K : PySem.W.Frag} {E : XK} {W0 W : Wld τ} {A A0 : Addr → Prop} {H0 H H' : Hp} {σ gσ : L2.St} {ρ gρ : List Sl} {R : Er → Prop}
theorem Cor.at_ (c : Cor K W0 A0 H0 W A H σ ρ gσ gρ) (er : ErK K W0 A0 E H0 R) : At K W A E H σ ρ R := ⟨c.bs, c.env.pre c.lg, fun e x H' f i z r => er e x H' (c.wl.fr c.fr f) (c.wl.inv _ i) (z.mono c.a0) r⟩
theorem Cor.step (c : Cor K W0 A0 H0 W A H σ ρ gσ gρ) (f : Fr W.B H H') (i : W.I H') : Cor K W0 A0 H0 W A H' σ ρ gσ gρ := ⟨c.wl, c.a0, c.bs.fr f i, c.wl.fr c.fr f, c.env.fr c.bs.ba f, c.lg, c.new⟩
theorem VlR.down {H1 : Hp} {v : V} {s : Sl} (m : ∀ a, A0 a → A a) (h : VlR K W A H1 H v s) : VlR K W A0 H1 H v s := by
  cases s with
  | un => exact h
  | d x => exact Rp.go (goes_less m) h
  | ml xs =>
    obtain ⟨p, vs, e, n, e1, r⟩ := h
    exact ⟨p, vs, e, n, e1, r.go (goes_less fun a z => z.imp (m a) id)⟩
  | bl xs =>
    obtain ⟨p, vs, e, q, r⟩ := h
    exact ⟨p, vs, e, q, r.go (goes_less m)⟩
  | st => exact h
  | scr ns => exact h
  | raw u => exact h
  | mo o =>
    obtain ⟨p, vs, e, n, e1, r⟩ := h
    exact ⟨p, vs, e, n, e1, r.go (goes_less fun a z => z.imp (m a) id)⟩
  | bo o =>
    obtain ⟨p, vs, e, e1, n, r⟩ := h
    exact ⟨p, vs, e, e1, n, r.go (goes_less m)⟩
theorem VlR.early' {H1 : Hp} {v : V} {s : Sl} (h : VlR K W A H1 H v s) (f : ∀ p, ¬ Ob H1 p → ¬ Ob H0 p) : VlR K W A H0 H v s := by
  cases s with
  | ml xs =>
    obtain ⟨p, vs, e, n, e1, r⟩ := h
    exact ⟨p, vs, e, f p n, e1, r⟩
  | mo o =>
    obtain ⟨p, vs, e, n, e1, r⟩ := h
    exact ⟨p, vs, e, f p n, e1, r⟩
  | _ => exact h
/-! ### blocks -/
def dNext : TDS := fun dd _ ρ => dd.nx ρ
def dSeq (g h : TDS) : TDS := fun dd R ρ => g { dd with nx := h dd R } R ρ
instance : RefS K τ E tNext dNext := ⟨fun W A0 H0 D dd R H σ ρ gσ gρ b sr er _ h => er.nx H σ ρ sr h⟩
instance {t u : TS} {g h : TDS} [ht : RefS K τ E t g] [hu : RefS K τ E u h] : RefS K τ E (tSeq t u) (dSeq g h) := ⟨fun W A0 H0 D dd R H σ ρ gσ gρ b sr er ek q => by
  exact ht.go W A0 H0 { D with nx := u D } { dd with nx := h dd R } R H σ ρ gσ gρ b sr ⟨fun H1 σ1 ρ1 s1 q1 => hu.go W A0 H0 D dd R H1 σ1 ρ1 gσ gρ b s1 er ek q1, er.rt, er.bk, er.ct⟩ ek q⟩
def dBreak : TDS := fun dd _ ρ => dd.bk ρ
def dCont : TDS := fun dd _ ρ => dd.ct ρ
instance : RefS K τ E tBreak dBreak := ⟨fun W A0 H0 D dd R H σ ρ gσ gρ b sr er _ h => er.bk H σ ρ sr h⟩
instance : RefS K τ E tCont dCont := ⟨fun W A0 H0 D dd R H σ ρ gσ gρ b sr er _ h => er.ct H σ ρ sr h⟩
def dDrop (fe : TD) : TDS := fun dd R ρ => fe ρ (fun _ => dd.nx ρ) R
instance {t : TE} {f : TD} [ht : RefE K τ E t f] : RefS K τ E (tDrop t) (dDrop f) := ⟨fun W A0 H0 D dd R H σ ρ gσ gρ b sr er ek h => by
  obtain ⟨W', A, c⟩ := sr
  exact ht.go W' A H σ ρ _ R _ (c.at_ ek) h fun v H1 s f1 i1 r1 q => er.nx H1 σ ρ ⟨W', A, c.step f1 i1⟩ q⟩
/-- what may be handed on -/
def Sl.out : Sl → Prop
  | .un => False
  | .bl _ => False
  | .bo _ => False
  | _ => True
def dRet (fe : TD) : TDS := fun dd R ρ => fe ρ (fun s => match s with
  | .bl _ => False
  | .st => False
  | .scr _ => False
  | .bo _ => False
  | s => dd.rt s) R
theorem VlR.home {H1 : Hp} {v : V} {s : Sl} (h : VlR K W A H1 H v s) (n1 : ∀ xs, s ≠ .bl xs) (n2 : s ≠ .st) (n3 : ∀ ns, s ≠ .scr ns) (n4 : ∀ o, s ≠ .bo o) : VlR K W0 A H1 H v s := by
  cases s with
  | bl xs => exact absurd rfl (n1 xs)
  | st => exact absurd rfl n2
  | scr ns => exact absurd rfl (n3 ns)
  | bo o => exact absurd rfl (n4 o)
  | _ => exact h
instance {t : TE} {f : TD} [ht : RefE K τ E t f] : RefS K τ E (tRet t) (dRet f) := ⟨fun W A0 H0 D dd R H σ ρ gσ gρ b sr er ek h => by
  obtain ⟨W', A, c⟩ := sr
  refine ht.go W' A H σ ρ _ R _ (c.at_ ek) h fun v H1 s f1 i1 r1 q => ?_
  have n0 : ∀ p, ¬ Ob H p → ¬ Ob H0 p := fun p n z => n (c.fr.2 p z)
  have fin : (∀ xs, s ≠ .bl xs) → s ≠ .st → (∀ ns, s ≠ .scr ns) → (∀ o, s ≠ .bo o) → dd.rt s → D.rt v H1 := fun n1 n2 n3 n4 q' => by
    refine er.rt v H1 s (c.wl.fr c.fr f1) (c.wl.inv _ i1) (((VlR.home (W0 := W) r1 n1 n2 n3 n4).early' n0).down c.a0) q'
  cases s with
  | bl xs => exact q.elim
  | st => exact q.elim
  | scr ns => exact q.elim
  | bo o => exact q.elim
  | _ => exact fin (fun _ z => nomatch z) (fun z => nomatch z) (fun _ z => nomatch z) (fun _ z => nomatch z) q⟩
def dRetN : TDS := fun dd _ _ => dd.rt (.d .none)
instance : RefS K τ E tRetN dRetN := ⟨fun W A0 H0 D dd R H σ ρ gσ gρ b sr er ek h => by
  obtain ⟨W', A, c⟩ := sr
  exact er.rt .non H (.d .none) c.fr (c.wl.inv _ c.bs.inv) Rp.non h⟩
def dIfS (c : TDT) (g h : TDS) : TDS := fun dd R ρ => c ρ (fun b => match b with
  | true => g dd R ρ
  | false => h dd R ρ) R
instance {c : TT} {t u : TS} {fc : TDT} {g h : TDS} [hc : RefT K τ E c fc] [ht : RefS K τ E t g] [hu : RefS K τ E u h] : RefS K τ E (tIfS c t u) (dIfS fc g h) := ⟨fun W A0 H0 D dd R H σ ρ gσ gρ b sr er ek q => by
  obtain ⟨W', A, co⟩ := sr
  refine hc.go W' A H σ ρ _ R _ (co.at_ ek) q fun k H1 f1 i1 q1 => ?_
  cases k with
  | true => exact iteT (ht.go W A0 H0 D dd R H1 σ ρ gσ gρ b ⟨W', A, co.step f1 i1⟩ er ek q1)
  | false => exact iteF (hu.go W A0 H0 D dd R H1 σ ρ gσ gρ b ⟨W', A, co.step f1 i1⟩ er ek q1)⟩
def dNever : TDS := fun _ _ _ => False
instance : RefS K τ E tNever dNever := ⟨fun W A0 H0 D dd R H σ ρ gσ gρ b sr er ek q => q⟩
instance : RefS K τ E (fun _ _ _ => False) dNever := ⟨fun W A0 H0 D dd R H σ ρ gσ gρ b sr er ek q => q⟩
instance : RefE K τ E (fun _ _ _ => False) (fun _ _ _ => False) := ⟨fun W A H σ ρ Qd R Q a h w => h⟩
/-! ### a name is set -/
def dSet (i : Nat) (fe : TD) : TDS := fun dd R ρ => fe ρ (fun s => match s with
  | .un => False
  | .bl _ => False
  | .bo _ => False
  | s => dd.nx (ρ.set i s)) R
theorem Cor.set (c : Cor K W0 A0 H0 W A H σ ρ gσ gρ) {i : Nat} {v : V} {s : Sl} (hs : s.plain) (r : SlR K W A H (some v) s) : Cor K W0 A0 H0 W A H (σ.set i (some v)) (ρ.set i s) gσ gρ := by
  refine ⟨c.wl, c.a0, c.bs, c.fr, c.env.setA c.lg hs r, by rw [List.length_set, List.length_set, c.lg], fun j p t e1 e0 e2 => ?_⟩
  rcases get_set e1 with ⟨rfl, e, _⟩ | ⟨n, e1⟩
  · rw [← e] at hs
    exact (plain_own hs e0).elim
  · rw [List.getElem?_set_ne n] at e2
    exact c.new j p t e1 e0 e2
theorem Cor.own (c : Cor K W0 A0 H0 W A H σ ρ gσ gρ) {H1 : Hp} {i : Nat} {p : Addr} {s : Sl} (f1 : Fr W.B H H1) (i1 : W.I H1) (n : ¬ Ob H p) (r : SlR K W (fun a => A a ∨ a = p) H1 (some (.ref p)) s) (k : s.foot) :
    Cor K W0 A0 H0 W (fun a => A a ∨ a = p) H1 (σ.set i (some (.ref p))) (ρ.set i s) gσ gρ := by
  have c1 := c.step f1 i1
  have n0 : ¬ Ob H0 p := fun z => n (c.fr.2 p z)
  refine ⟨c.wl, fun a z => .inl (c.a0 a z), ⟨fun a z => .inl (c.bs.ba a z), fun a z => ?_, i1⟩, c1.fr, ?_, by rw [List.length_set, List.length_set, c.lg], fun j q t e2 e0 e3 => ?_⟩
  · rcases z with z | rfl
    · exact c1.bs.dom a z
    · exact foot_ob r k
  · by_cases hi : i < σ.length
    · rw [set_app hi, set_app (by rw [← c.lg]; exact hi)]
      exact c.env.own c.bs f1 n r
    · rw [List.set_eq_of_length_le (by omega), List.set_eq_of_length_le (by rw [← c.lg]; omega)]
      have := c.env.own (i := σ.length + gσ.length) c.bs f1 n r
      rw [List.set_eq_of_length_le (by simp), List.set_eq_of_length_le (by have := c.env.len; simp only [List.length_append] at this ⊢; omega)] at this
      exact this
  · rcases get_set e2 with ⟨rfl, _, hl⟩ | ⟨ne, e2⟩
    · rw [List.getElem?_set_self (by rw [c.lg]; exact hl)] at e3
      cases e3
      exact n0
    · rw [List.getElem?_set_ne ne] at e3
      exact c.new j q t e2 e0 e3
instance {i : Nat} {t : TE} {f : TD} [ht : RefE K τ E t f] : RefS K τ E (tAsg t (gName i)) (dSet i f) := ⟨fun W A0 H0 D dd R H σ ρ gσ gρ b sr er ek h => by
  obtain ⟨W', A, c⟩ := sr
  refine ht.go W' A H σ ρ _ R _ (c.at_ ek) h fun v H1 s f1 i1 r1 q => ?_
  show D.nx (σ.set i (some v)) H1
  have c1 := c.step f1 i1
  cases s with
  | un => exact q.elim
  | bl xs => exact q.elim
  | bo o => exact q.elim
  | d x => exact er.nx H1 _ _ ⟨W', A, c1.set (s := .d x) trivial ⟨v, rfl, r1⟩⟩ q
  | st =>
    obtain ⟨z, rfl, r⟩ := r1
    exact er.nx H1 _ _ ⟨W', A, c1.set (s := .st) trivial ⟨z, rfl, r⟩⟩ q
  | scr ns =>
    obtain ⟨z, rfl, r⟩ := r1
    exact er.nx H1 _ _ ⟨W', A, c1.set (s := .scr ns) trivial ⟨z, rfl, r⟩⟩ q
  | raw u =>
    obtain rfl := r1
    exact er.nx H1 _ _ ⟨W', A, c1.set (s := .raw v) trivial rfl⟩ q
  | ml xs =>
    obtain ⟨p, vs, rfl, n, e1, r⟩ := r1
    exact er.nx H1 _ _ ⟨W', _, c.own (s := .ml xs) f1 i1 n ⟨p, vs, rfl, e1, c.bs.nB n, .inr rfl, r⟩ trivial⟩ q
  | mo o =>
    obtain ⟨p, vs, rfl, n, e1, r⟩ := r1
    exact er.nx H1 _ _ ⟨W', _, c.own (s := .mo o) f1 i1 n ⟨p, vs, rfl, e1, c.bs.nB n, .inr rfl, r⟩ trivial⟩ q⟩
/-- from here on the slot's list stays as it is -/
def tFz (i : Nat) (t : TS) : TS := t
def Sl.fz : Sl → Sl
  | .ml xs => .d (.list xs)
  | s => s
def dFz (i : Nat) (g : TDS) : TDS := fun dd R ρ => g dd R (ρ.set i ((ρ[i]?).getD .un).fz)
theorem Cor.fz (b0 : Bs W0 A0 H0) (c : Cor K W0 A0 H0 W A H σ ρ gσ gρ) (i : Nat) : SR K W0 A0 H0 H σ (ρ.set i ((ρ[i]?).getD .un).fz) gσ gρ := by
  cases e : ρ[i]? with
  | none =>
    refine ⟨W, A, ?_⟩
    rw [List.set_eq_of_length_le (List.getElem?_eq_none_iff.mp e)]
    exact c
  | some s =>
    have same : ∀ s', s' = s → ρ.set i s' = ρ := fun s' z => by
      subst z
      obtain ⟨hi, e⟩ := List.getElem?_eq_some_iff.mp e
      rw [← e]
      exact List.set_getElem_self hi
    cases s with
    | ml xs =>
      have hi := (List.getElem?_eq_some_iff.mp e).1
      have eA : (ρ ++ gρ)[i]? = some (.ml xs) := by rw [List.getElem?_append_left hi]; exact e
      obtain ⟨v, ev, p, vs, rfl, e1, nB, aP, r⟩ := c.env.at_ _ _ eA
      have ev' : σ[i]? = some (some (.ref p)) := by
        rw [List.getElem?_append_left (by rw [c.lg]; exact hi)] at ev
        exact ev
      have n0 := c.new i p _ e trivial ev'
      let A' : Addr → Prop := fun a => A a ∧ a ≠ p
      have less : ∀ a, A' a → A a := fun a z => z.1
      have ba' : ∀ a, W.B a → A' a := fun a z => ⟨c.bs.ba a z, fun q => nB (q ▸ z)⟩
      have conv : ∀ {j : Nat} {w : Option V} {s : Sl}, (σ ++ gσ)[j]? = some w → (ρ ++ gρ)[j]? = some s → j ≠ i → SlR K W A H w s → SlR K W A' H w s := fun {j w s} ew es nj q => by
        cases s with
        | un => exact q
        | d x =>
          obtain ⟨u, e1, r1⟩ := q
          exact ⟨u, e1, r1.go (goes_less less)⟩
        | ml ys =>
          obtain ⟨q', us, f1, f2, f3, f4, f5⟩ := q
          subst f1
          refine ⟨q', us, rfl, f2, f3, ⟨f4, fun z => ?_⟩, f5.go (goes_less less)⟩
          subst z
          exact c.env.dis i j q' _ _ (Ne.symm nj) eA trivial es trivial ev ew
        | bl ys =>
          obtain ⟨q', us, f1, f2, f3⟩ := q
          exact ⟨q', us, f1, f2, f3.go (goes_less less)⟩
        | st => exact q
        | scr ns => exact q
        | raw u => exact q
        | mo o =>
          obtain ⟨q', us, f1, f2, f3, f4, f5⟩ := q
          subst f1
          refine ⟨q', us, rfl, f2, f3, ⟨f4, fun z => ?_⟩, f5.go (goes_less less)⟩
          subst z
          exact c.env.dis i j q' _ _ (Ne.symm nj) eA trivial es trivial ev ew
        | bo o =>
          obtain ⟨q', us, f1, f2, f3, f4⟩ := q
          exact ⟨q', us, f1, f2, f3, f4.go (goes_less less)⟩
      refine ⟨W, A', c.wl, fun a z => ⟨c.a0 a z, fun q => ?_⟩, ⟨ba', fun a z => c.bs.dom a z.1, c.bs.inv⟩, c.fr, ?_, by rw [List.length_set, c.lg], fun j q t e2 e0 e3 => ?_⟩
      · subst q
        exact n0 (b0.dom _ z)
      · rw [set_app hi]
        refine ⟨by rw [List.length_set]; exact c.env.len, fun j s ej => ?_, fun j k q t s ne f1 f0 f2 f3 f4 f5 => ?_⟩
        · rcases get_set ej with ⟨rfl, rfl, _⟩ | ⟨nj, ej⟩
          · exact ⟨some (.ref p), ev, .ref p, rfl, .lst ⟨e1, fun z => z.2 rfl⟩ (r.go (goes_less less))⟩
          · obtain ⟨w, ew, rw_⟩ := c.env.at_ j s ej
            exact ⟨w, ew, conv ew ej (Ne.symm nj) rw_⟩
        · rcases get_set f1 with ⟨rfl, z, _⟩ | ⟨n1, f1⟩
          · subst z
            exact f0
          · rcases get_set f2 with ⟨rfl, z, _⟩ | ⟨n2, f2⟩
            · subst z
              exact f3
            · exact c.env.dis j k q t s ne f1 f0 f2 f3 f4 f5
      · rcases get_set e2 with ⟨rfl, z, _⟩ | ⟨nj, e2⟩
        · subst z
          exact e0.elim
        · exact c.new j q t e2 e0 e3
    | _ =>
      refine ⟨W, A, ?_⟩
      have z := same _ rfl
      dsimp only [Option.getD_some, Sl.fz]
      rw [z]
      exact c
instance {i : Nat} {t : TS} {g : TDS} [ht : RefS K τ E t g] : RefS K τ E (tFz i t) (dFz i g) := ⟨fun W A0 H0 D dd R H σ ρ gσ gρ b sr er ek h => by
  obtain ⟨W', A, c⟩ := sr
  exact ht.go W A0 H0 D dd R H σ _ gσ gρ b (c.fz b i) er ek h⟩
end
end Dl

namespace Dl
open PySem PySem.Spec PyProof.Rows L2
/-! ### targets -/
theorem wipe_get (σ : L2.St) : ∀ (vs : List Nat) (j : Nat), (wipe σ vs)[j]? = if j ∈ vs then (σ[j]?).map fun _ => none else σ[j]?
  | [], j => by simp [wipe]
  | v :: vs, j => by
    unfold wipe
    rw [List.getElem?_set, wipe_get σ vs j, wipe_length]
    by_cases h : v = j
    · subst h
      rw [if_pos rfl, if_pos (List.mem_cons_self)]
      by_cases hl : v < σ.length
      · rw [if_pos hl, List.getElem?_eq_getElem hl]
        rfl
      · rw [if_neg hl, List.getElem?_eq_none (by omega)]
        rfl
    · rw [if_neg h]
      by_cases hm : j ∈ vs
      · rw [if_pos hm, if_pos (List.mem_cons_of_mem _ hm)]
      · rw [if_neg hm, if_neg (by simp only [List.mem_cons, not_or]; exact ⟨fun z => h z.symm, hm⟩)]
theorem wipe_set {σ : L2.St} {vs : List Nat} {i : Nat} {x : Option V} (h : i ∈ vs) : wipe (σ.set i x) vs = wipe σ vs := by
  refine List.ext_getElem? fun j => ?_
  rw [wipe_get, wipe_get, List.getElem?_set]
  by_cases hj : j ∈ vs
  · rw [if_pos hj, if_pos hj]
    by_cases e : i = j
    · subst e
      rw [if_pos rfl]
      by_cases hl : i < σ.length
      · rw [if_pos hl, List.getElem?_eq_getElem hl]
        rfl
      · rw [if_neg hl, List.getElem?_eq_none (by omega)]
    · rw [if_neg e]
  · rw [if_neg hj, if_neg hj, if_neg (fun (e : i = j) => hj (by rw [← e]; exact h))]
def Dif (sl : List Nat) (σ σ' : L2.St) : Prop := ∀ vs : List Nat, (∀ i ∈ sl, i ∈ vs) → wipe σ' vs = wipe σ vs
/-- no new own list -/
def NoNew (σ σ' : L2.St) (ρ ρ' : List Sl) : Prop := ∀ (j : Nat) (p : Addr) (s : Sl), ρ'[j]? = some s → s.isOwn → σ'[j]? = some (some (.ref p)) → ρ[j]? = some s ∧ σ[j]? = some (some (.ref p))
abbrev FG := PyData → List Sl → (List Sl → Prop) → Prop
abbrev FGs := List PyData → List Sl → (List Sl → Prop) → Prop
class RefG (K : PySem.W.Frag) (g : TG) (fg : outParam FG) (sl : outParam (List Nat)) : Prop where
  go : ∀ {τ : List (Addr × Str)} (W : Wld τ) (A : Addr → Prop) (H : Hp) (σ : L2.St) (ρ : List Sl) (gσ : L2.St) (gρ : List Sl) (v : V) (x : PyData) (Qd : List Sl → Prop) (P : L2.St → Hp → Prop), EnvR K W A H (σ ++ gσ) (ρ ++ gρ) → σ.length = ρ.length → Rp K A H v x → fg x ρ Qd →
    (∀ σ' ρ', EnvR K W A H (σ' ++ gσ) (ρ' ++ gρ) → σ'.length = ρ'.length → Dif sl σ σ' → NoNew σ σ' ρ ρ' → Qd ρ' → P σ' H) → g v σ H P
class RefGs (K : PySem.W.Frag) (g : TGs) (fg : outParam FGs) (sl : outParam (List Nat)) : Prop where
  go : ∀ {τ : List (Addr × Str)} (W : Wld τ) (A : Addr → Prop) (H : Hp) (σ : L2.St) (ρ : List Sl) (gσ : L2.St) (gρ : List Sl) (vs : List V) (xs : List PyData) (Qd : List Sl → Prop) (P : L2.St → Hp → Prop), EnvR K W A H (σ ++ gσ) (ρ ++ gρ) → σ.length = ρ.length → RpAll K A H vs xs → fg xs ρ Qd →
    (∀ σ' ρ', EnvR K W A H (σ' ++ gσ) (ρ' ++ gρ) → σ'.length = ρ'.length → Dif sl σ σ' → NoNew σ σ' ρ ρ' → Qd ρ' → P σ' H) → g vs σ H P
section
variable {K : PySem.W.Frag} {E : XK}
def gdName (i : Nat) : FG := fun x ρ Qd => Qd (ρ.set i (.d x))
instance {i : Nat} : RefG K (gName i) (gdName i) [i] := ⟨fun W A H σ ρ gσ gρ v x Qd P env hl r h k => by
  refine k (σ.set i (some v)) (ρ.set i (.d x)) (env.setA hl (s := .d x) trivial ⟨v, rfl, r⟩) (by rw [List.length_set, List.length_set, hl]) (fun vs hv => wipe_set (hv i (by simp))) (fun j p t e1 e0 e2 => ?_) h
  rcases get_set e1 with ⟨rfl, z, _⟩ | ⟨n, e1⟩
  · subst z
    exact e0.elim
  · rw [List.getElem?_set_ne n] at e2
    exact ⟨e1, e2⟩⟩
def gdNil : FGs := fun xs ρ Qd => match xs with
  | [] => Qd ρ
  | _ :: _ => False
def gdCons (f : FG) (fs : FGs) : FGs := fun xs ρ Qd => match xs with
  | [] => False
  | x :: r => f x ρ fun ρ' => fs r ρ' Qd
def gdTup (n : Nat) (fs : FGs) : FG := fun x ρ Qd => match x with
  | .tuple xs => xs.length = n ∧ fs xs ρ Qd
  | _ => False
instance : RefGs K gNil gdNil [] := ⟨fun W A H σ ρ gσ gρ vs xs Qd P env hl r h k => by
  unfold gdNil at h
  split at h
  · cases r
    exact ⟨rfl, k σ ρ env hl (fun _ _ => rfl) (fun j p t e1 _ e2 => ⟨e1, e2⟩) h⟩
  · exact h.elim⟩
instance {t : TG} {u : TGs} {f : FG} {fs : FGs} {s1 s2 : List Nat} [ht : RefG K t f s1] [hu : RefGs K u fs s2] : RefGs K (gCons t u) (gdCons f fs) (s1 ++ s2) := ⟨fun W A H σ ρ gσ gρ vs xs Qd P env hl r h k => by
  unfold gdCons at h
  split at h
  · exact h.elim
  · cases r with
    | cons r1 r2 =>
      refine ⟨_, _, rfl, ht.go W A H σ ρ gσ gρ _ _ _ _ env hl r1 h fun σ1 ρ1 e1 l1 d1 n1 q1 => ?_⟩
      refine hu.go W A H σ1 ρ1 gσ gρ _ _ _ _ e1 l1 r2 q1 fun σ2 ρ2 e2 l2 d2 n2 q2 => ?_
      refine k σ2 ρ2 e2 l2 (fun vs hv => ?_) (fun j p t a o b => ?_) q2
      · rw [d2 vs fun i hi => hv i (List.mem_append_right _ hi), d1 vs fun i hi => hv i (List.mem_append_left _ hi)]
      · obtain ⟨a1, b1⟩ := n2 j p t a o b
        exact n1 j p t a1 o b1⟩
instance {n : Nat} {t : TGs} {fs : FGs} {sl : List Nat} [ht : RefGs K t fs sl] : RefG K (gTup K n t) (gdTup n fs) sl := ⟨fun W A H σ ρ gσ gρ v x Qd P env hl r h k => by
  unfold gdTup at h
  split at h
  · cases r with
    | tup q r => exact ⟨_, _, rfl, sqTA_sq q, by rw [r.length]; exact h.1, ht.go W A H σ ρ gσ gρ _ _ _ _ env hl r h.2 k⟩
  · exact h.elim⟩
/-- a, b = e -/
def dAsg (fe : TD) (fg : FG) : TDS := fun dd R ρ => fe ρ (fun s => match s.dat with
  | some x => fg x ρ dd.nx
  | none => False) R
theorem dat_iff {s : Sl} {P : PyData → Prop} (h : (match s.dat with
  | some x => P x
  | none => False)) : ∃ x, s.dat = some x ∧ P x := by
  split at h
  · rename_i x e
    exact ⟨x, e, h⟩
  · exact h.elim
instance {n : Nat} {t : TE} {g : TGs} {f : TD} {fs : FGs} {sl : List Nat} [ht : RefE K τ E t f] [hg : RefGs K g fs sl] : RefS K τ E (tAsg t (gTup K n g)) (dAsg f (gdTup n fs)) := ⟨fun W A0 H0 D dd R H σ ρ gσ gρ b sr er ek h => by
  obtain ⟨W', A, c⟩ := sr
  refine ht.go W' A H σ ρ _ R _ (c.at_ ek) h fun v H1 s f1 i1 r1 q => ?_
  obtain ⟨x, ex, q⟩ := dat_iff (P := fun x => gdTup n fs x ρ dd.nx) q
  have c1 := c.step f1 i1
  have hG : RefG K (gTup K n g) (gdTup n fs) sl := inferInstance
  refine hG.go W' A H1 σ ρ gσ gρ v x _ _ c1.env c1.lg (r1.dat c.bs ex) q fun σ' ρ' e' l' _ n' q' => ?_
  exact er.nx H1 σ' ρ' ⟨W', A, c1.wl, c1.a0, c1.bs, c1.fr, e', l', fun j p t a o b => c1.new j p t (n' j p t a o b).1 o (n' j p t a o b).2⟩ q'⟩
/-- a, b = e1, e2: two data, or a flat one and a new list -/
def dPar (i j : Nat) (fa : TDA) : TDS := fun dd R ρ => fa ρ (fun ss => match ss with
  | [s, .ml ys] => (match s.flat with
    | some x => dd.nx ((ρ.set i (vS x)).set j (.ml ys))
    | none => False)
  | [s, .d y] => (match s.dat with
    | some x => dd.nx ((ρ.set i (.d x)).set j (.d y))
    | none => False)
  | _ => False) R
theorem plain_vS (v : V) : (vS v).plain := by cases v <;> trivial
theorem slr_vS {W : Wld τ} {A : Addr → Prop} {H : Hp} (v : V) : SlR K W A H (some v) (vS v) := by
  cases v with
  | non => exact ⟨_, rfl, .non⟩
  | bl b => exact ⟨_, rfl, .bl b⟩
  | int i => exact ⟨_, rfl, .int i⟩
  | str x => exact ⟨_, rfl, .str x⟩
  | _ => rfl
theorem vlsr2 {W : Wld τ} {A : Addr → Prop} {H0 H : Hp} {vs : List V} {s u : Sl} (h : VlsR K W A H0 H vs [s, u]) : ∃ v w, vs = [v, w] ∧ VlR K W A H0 H v s ∧ VlR K W A H0 H w u := by
  cases h with
  | cons a r =>
    cases r with
    | cons b r =>
      cases r
      exact ⟨_, _, rfl, a, b⟩
theorem vlsr1 {W : Wld τ} {A : Addr → Prop} {H0 H : Hp} {vs : List V} {s : Sl} (h : VlsR K W A H0 H vs [s]) : ∃ v, vs = [v] ∧ VlR K W A H0 H v s := by
  cases h with
  | cons a r =>
    cases r
    exact ⟨_, rfl, a⟩
instance {i j : Nat} {t : TA} {fa : TDA} [ha : RefA K τ E t fa] : RefS K τ E (tPar i j t) (dPar i j fa) := ⟨fun W A0 H0 D dd R H σ ρ gσ gρ b sr er ek h => by
  obtain ⟨W', A, c⟩ := sr
  refine ha.go W' A H σ ρ _ R _ (c.at_ ek) h fun vs H1 ss f1 i1 r1 q => ?_
  split at q
  · obtain ⟨va, vb, rfl, ra, rb⟩ := vlsr2 r1
    split at q
    · rename_i x ex
      obtain rfl := ra.flat ex
      obtain ⟨p, us, rfl, n, e1, r⟩ := rb
      have c2 := c.set (i := i) (plain_vS va) (slr_vS va)
      exact ⟨va, _, rfl, er.nx H1 _ _ ⟨W', _, c2.own (i := j) (s := .ml _) f1 i1 n ⟨p, us, rfl, e1, c.bs.nB n, .inr rfl, r⟩ trivial⟩ q⟩
    · exact q.elim
  · obtain ⟨va, vb, rfl, ra, rb⟩ := vlsr2 r1
    split at q
    · rename_i x ex
      have c1 := c.step f1 i1
      have c2 := c1.set (i := i) (s := .d x) trivial ⟨va, rfl, ra.dat c.bs ex⟩
      have c3 := c2.set (i := j) (s := .d _) trivial ⟨vb, rfl, rb⟩
      exact ⟨va, vb, rfl, er.nx H1 _ _ ⟨W', A, c3⟩ q⟩
    · exact q.elim
  · exact q.elim⟩
/-! ### what is walked -/
/-- the things that are walked stand still: data -/
structure GhR (K : PySem.W.Frag) (W : Wld τ) (A : Addr → Prop) (H : Hp) (gs : L2.St) (gr : List Sl) : Prop where
  len : gs.length = gr.length
  at_ : ∀ (i : Nat) (s : Sl), gr[i]? = some s → ∃ v x, gs[i]? = some (some v) ∧ s = .d x ∧ Rp K A H v x
structure ItR (K : PySem.W.Frag) (J : It) (gs : L2.St) (gr : List Sl) (ds : List PyData) : Prop where
  go : ∀ (W : Wld τ) (A : Addr → Prop) (H : Hp) (i : Nat), Bs W A H → GhR K W A H gs gr → i < ds.length → J.go i H
  stop : ∀ (W : Wld τ) (A : Addr → Prop) (H : Hp) (i : Nat), Bs W A H → GhR K W A H gs gr → ds.length ≤ i → J.stop i H
  yld : ∀ (W : Wld τ) (A : Addr → Prop) (H : Hp) (i : Nat) (x : V) (H' : Hp) (d : PyData), Bs W A H → GhR K W A H gs gr → ds[i]? = some d → J.yld i H x H' → Same H H' ∧ Rp K A H' x d
abbrev TDI := List Sl → (List PyData → Prop) → (Er → Prop) → Prop
class RefI (K : PySem.W.Frag) (τ : List (Addr × Str)) (E : XK) (wi : TI) (fi : outParam TDI) : Prop where
  go : ∀ (W : Wld τ) (A : Addr → Prop) (H : Hp) (σ : L2.St) (ρ : List Sl) (Qd : List PyData → Prop) (R : Er → Prop) (P : It → Hp → Prop), At K W A E H σ ρ R → fi ρ Qd R →
    (∀ J H' gs gr ds, Fr W.B H H' → W.I H' → GhR K W A H' gs gr → ItR K J gs gr ds → Qd ds → P J H') → wi σ H P
theorem EnvR.app {W : Wld τ} {A : Addr → Prop} {H : Hp} {σ gs : L2.St} {ρ gr : List Sl} (h : EnvR K W A H σ ρ) (g : GhR K W A H gs gr) : EnvR K W A H (σ ++ gs) (ρ ++ gr) := by
  have cs : ∀ {i : Nat} {s : Sl}, (ρ ++ gr)[i]? = some s → (ρ[i]? = some s ∧ (σ ++ gs)[i]? = σ[i]?) ∨ (∃ v x, (σ ++ gs)[i]? = some (some v) ∧ s = .d x ∧ Rp K A H v x) := fun {i s} e => by
    by_cases hi : i < ρ.length
    · rw [List.getElem?_append_left hi] at e
      exact .inl ⟨e, List.getElem?_append_left (by rw [h.len]; exact hi)⟩
    · rw [List.getElem?_append_right (by omega)] at e
      obtain ⟨v, x, e1, e2, r⟩ := g.at_ _ _ e
      refine .inr ⟨v, x, ?_, e2, r⟩
      rw [List.getElem?_append_right (by rw [h.len]; omega), h.len]
      exact e1
  refine ⟨by rw [List.length_append, List.length_append, h.len, g.len], fun i s e => ?_, fun i j p t s ne e1 e0 e2 e3 e4 e5 => ?_⟩
  · rcases cs e with ⟨e, z⟩ | ⟨v, x, e1, rfl, r⟩
    · obtain ⟨v, e1, r⟩ := h.at_ i s e
      exact ⟨v, z.trans e1, r⟩
    · exact ⟨_, e1, v, rfl, r⟩
  · rcases cs e1 with ⟨e1, z1⟩ | ⟨_, _, _, rfl, _⟩
    · rcases cs e2 with ⟨e2, z2⟩ | ⟨_, _, _, rfl, _⟩
      · exact h.dis i j p t s ne e1 e0 e2 e3 (z1.symm.trans e4) (z2.symm.trans e5)
      · exact e3
    · exact e0
theorem EnvR.gh {W : Wld τ} {A : Addr → Prop} {H : Hp} {σ gs : L2.St} {ρ gr : List Sl} {H1 : Hp} {A1 : Addr → Prop} {W1 : Wld τ} (h : EnvR K W A H (σ ++ gs) (ρ ++ gr)) (hl : σ.length = ρ.length) (g : GhR K W1 A1 H1 gs gr) : GhR K W A H gs gr := ⟨g.len, fun i s e => by
  obtain ⟨_, x, _, rfl, _⟩ := g.at_ i s e
  obtain ⟨v, e1, u, rfl, r⟩ := h.at_ (ρ.length + i) (.d x) (by rw [List.getElem?_append_right (by omega)]; simpa using e)
  refine ⟨u, x, ?_, rfl, r⟩
  rw [← hl, List.getElem?_append_right (by omega)] at e1
  simpa using e1⟩
/-! ### for -/
def forD (fg : FG) (gb : TDS) (dd : DEnds) (R : Er → Prop) : List PyData → List Sl → Prop
  | [], ρ => dd.nx ρ
  | d :: r, ρ => fg d ρ fun ρ' => gb { dd with nx := forD fg gb dd R r, ct := forD fg gb dd R r, bk := dd.nx } R ρ'
def dFor (fi : TDI) (fg : FG) (gb : TDS) : TDS := fun dd R ρ => fi ρ (fun ds => forD fg gb dd R ds ρ) R
theorem SR.drop {W : Wld τ} {A0 : Addr → Prop} {H0 H : Hp} {σ gσ gs : L2.St} {ρ gρ gr : List Sl} (h : SR K W A0 H0 H σ ρ (gσ ++ gs) (gρ ++ gr)) (hl : gσ.length = gρ.length) : SR K W A0 H0 H σ ρ gσ gρ := by
  obtain ⟨W', A, c⟩ := h
  refine ⟨W', A, c.wl, c.a0, c.bs, c.fr, ?_, c.lg, c.new⟩
  have := c.env
  rw [← List.append_assoc, ← List.append_assoc] at this
  exact this.pre (by rw [List.length_append, List.length_append, c.lg, hl])
instance {wi : TI} {g : TG} {tb : TS} {fi : TDI} {fg : FG} {gb : TDS} {sl : List Nat} [hi : RefI K τ E wi fi] [hg : RefG K g fg sl] [hb : RefS K τ E tb gb] : RefS K τ E (tFor wi g tb) (dFor fi fg gb) := ⟨fun W A0 H0 D dd R H σ ρ gσ gρ b sr er ek h => by
  obtain ⟨W', A, c⟩ := sr
  have gl : gσ.length = gρ.length := by
    have := c.env.len
    simp only [List.length_append] at this
    have := c.lg
    omega
  refine hi.go W' A H σ ρ _ R _ (c.at_ ek) h fun J H1 gs gr ds f1 i1 gh it q => ?_
  have c1 := c.step f1 i1
  have sr0 : SR K W A0 H0 H1 σ ρ (gσ ++ gs) (gρ ++ gr) := ⟨W', A, c1.wl, c1.a0, c1.bs, c1.fr, by rw [← List.append_assoc, ← List.append_assoc]; exact c1.env.app gh, c1.lg, c1.new⟩
  refine ⟨fun i m σ' H' => m = ds.length - i ∧ i ≤ ds.length ∧ ∃ ρ', SR K W A0 H0 H' σ' ρ' (gσ ++ gs) (gρ ++ gr) ∧ forD fg gb dd R (ds.drop i) ρ', ⟨ds.length, by omega, by omega, ρ, sr0, q⟩, ?_⟩
  rintro i m σ' H' ⟨rfl, hi', ρ', s', q'⟩
  have s0 := s'
  obtain ⟨W2, A', c'⟩ := s'
  have env' := c'.env
  rw [← List.append_assoc, ← List.append_assoc] at env'
  have gh' : GhR K W2 A' H' gs gr := env'.gh (by rw [List.length_append, List.length_append, c'.lg, gl]) gh
  by_cases hlt : i < ds.length
  · refine .inr ⟨it.go W2 A' H' i c'.bs gh' hlt, fun σ2 H2 => ∃ ρ2, SR K W A0 H0 H2 σ2 ρ2 (gσ ++ gs) (gρ ++ gr) ∧ forD fg gb dd R (ds.drop (i + 1)) ρ2, fun σ2 H2 z => ⟨ds.length - (i + 1), by omega, rfl, hlt, z⟩, fun x H2 y => ?_⟩
    obtain ⟨sm, rx⟩ := it.yld W2 A' H' i x H2 ds[i] c'.bs gh' (List.getElem?_eq_getElem hlt) y
    rw [List.drop_eq_getElem_cons hlt] at q'
    have f2 : Fr W2.B H' H2 := Fr.of sm
    have c2 := c'.step f2 (W2.stay _ _ sm c'.bs.inv)
    refine hg.go W2 A' H2 σ' ρ' (gσ ++ gs) (gρ ++ gr) x ds[i] _ _ c2.env c2.lg rx q' fun σ3 ρ3 e3 l3 _ n3 q3 => ?_
    refine hb.go W A0 H0 _ { dd with nx := forD fg gb dd R (ds.drop (i + 1)), ct := forD fg gb dd R (ds.drop (i + 1)), bk := dd.nx } R H2 σ3 ρ3 (gσ ++ gs) (gρ ++ gr) b ⟨W2, A', c2.wl, c2.a0, c2.bs, c2.fr, e3, l3, fun j p t a o b => c2.new j p t (n3 j p t a o b).1 o (n3 j p t a o b).2⟩ ⟨fun H4 σ4 ρ4 s4 q4 => ⟨ρ4, s4, q4⟩, er.rt, fun H4 σ4 ρ4 s4 q4 => er.nx H4 σ4 ρ4 (s4.drop gl) q4, fun H4 σ4 ρ4 s4 q4 => ⟨ρ4, s4, q4⟩⟩ ek q3
  · have e : i = ds.length := by omega
    subst e
    rw [List.drop_length] at q'
    exact .inl ⟨it.stop W2 A' H' _ c'.bs gh' (Nat.le_refl _), er.nx H' σ' ρ' (s0.drop gl) q'⟩⟩
/-! ### comprehensions -/
def wipeD (ρ : List Sl) : List Nat → List Sl
  | [] => ρ
  | v :: vs => (wipeD ρ vs).set v .un
theorem EnvR.wipe {W : Wld τ} {A : Addr → Prop} {H : Hp} {σ : L2.St} {ρ : List Sl} (h : EnvR K W A H σ ρ) : ∀ vs : List Nat, EnvR K W A H (L2.wipe σ vs) (wipeD ρ vs)
  | [] => h
  | v :: vs => (EnvR.wipe h vs).set (s := .un) trivial trivial
def lcD (fg : FG) (ft : TDT) (fe : TD) (ρ : List Sl) (R : Er → Prop) (Qd : List PyData → Prop) : List PyData → List PyData → Prop
  | [], acc => Qd acc
  | d :: r, acc => fg d ρ fun ρ' => ft ρ' (fun b => match b with
    | true => fe ρ' (fun s => acc.length < sizeLine ∧ match s.dat with
      | some y => lcD fg ft fe ρ R Qd r (acc ++ [y])
      | none => False) R
    | false => lcD fg ft fe ρ R Qd r acc) R
def dLc (fi : TDI) (fg : FG) (ft : TDT) (fe : TD) (vs : List Nat) : TD := fun ρ Qd R => fi ρ (fun ds => lcD fg ft fe (wipeD ρ vs) R (fun ys => Qd (.ml ys)) ds []) R
def dYes : TDT := fun _ Qd _ => Qd true
instance : RefT K τ E tYes dYes := ⟨fun W A H σ ρ Qd R Q a h w => w true H (Fr.refl H) a.bs.inv h⟩
/-- its source: data, or a list that is read -/
class RefJ (K : PySem.W.Frag) (τ : List (Addr × Str)) (E : XK) (wi : TI) (fi : outParam TDI) : Prop where
  go : ∀ (W : Wld τ) (A : Addr → Prop) (H : Hp) (σ : L2.St) (ρ : List Sl) (Qd : List PyData → Prop) (R : Er → Prop) (P : It → Hp → Prop), At K W A E H σ ρ R → fi ρ Qd R →
    (∀ (J : It) (H' : Hp) (ds : List PyData), Fr W.B H H' → W.I H' → (∀ (A' : Addr → Prop) (H2 : Hp) (i : Nat), Bs W A' H2 → Goes A A' H' H' → Fr W.B H' H2 → (i < ds.length → J.go i H2) ∧ (ds.length ≤ i → J.stop i H2) ∧ ∀ x H3 d, ds[i]? = some d → J.yld i H2 x H3 → Same H2 H3 ∧ Rp K A' H3 x d) → Qd ds → P J H') → wi σ H P
class Inc (sl vs : List Nat) : Prop where
  h : ∀ i ∈ sl, i ∈ vs
instance (priority := low) {wi : TI} {fi : TDI} [hi : RefI K τ E wi fi] : RefJ K τ E wi fi := ⟨fun W A H σ ρ Qd R P a h k => by
  refine hi.go W A H σ ρ Qd R P a h fun J H1 gs gr ds f1 i1 gh it q => k J H1 ds f1 i1 (fun A' H2 i b2 g2 f2 => ?_) q
  have gh2 : GhR K W A' H2 gs gr := ⟨gh.len, fun j s e => by
    obtain ⟨v, x, e1, e2, r⟩ := gh.at_ j s e
    exact ⟨v, x, e1, e2, (r.go g2).go (goes_fr b2.ba f2)⟩⟩
  exact ⟨fun z => it.go W A' H2 i b2 gh2 z, fun z => it.stop W A' H2 i b2 gh2 z, fun x H3 d e y => it.yld W A' H2 i x H3 d b2 gh2 e y⟩⟩
theorem SlR.grow {W : Wld τ} {A A' : Addr → Prop} {H : Hp} {v : Option V} {s : Sl} (g : Goes A A' H H) (m : ∀ a, A a → A' a) (q : SlR K W A H v s) : SlR K W A' H v s := by
  cases s with
  | un => exact q
  | d x =>
    obtain ⟨u, e1, r1⟩ := q
    exact ⟨u, e1, r1.go g⟩
  | ml ys =>
    obtain ⟨q', us, e1, e2, e3, e4, e5⟩ := q
    exact ⟨q', us, e1, e2, e3, m _ e4, e5.go g⟩
  | bl ys =>
    obtain ⟨q', us, e1, e2, e3⟩ := q
    exact ⟨q', us, e1, e2, e3.go g⟩
  | st => exact q
  | scr ns => exact q
  | raw u => exact q
  | mo o =>
    obtain ⟨q', us, e1, e2, e3, e4, e5⟩ := q
    exact ⟨q', us, e1, e2, e3, m _ e4, e5.go g⟩
  | bo o =>
    obtain ⟨q', us, e1, e2, e3, e4⟩ := q
    exact ⟨q', us, e1, e2, e3, e4.go g⟩
theorem EnvR.grow {W : Wld τ} {A A' : Addr → Prop} {H : Hp} {σ : L2.St} {ρ : List Sl} (g : Goes A A' H H) (m : ∀ a, A a → A' a) (h : EnvR K W A H σ ρ) : EnvR K W A' H σ ρ := ⟨h.len, fun i s e => by
  obtain ⟨v, e1, r⟩ := h.at_ i s e
  exact ⟨v, e1, r.grow g m⟩, h.dis⟩
instance {wi : TI} {g : TG} {tt : TT} {te : TE} {vs sl : List Nat} {fi : TDI} {fg : FG} {ft : TDT} {fe : TD} [hi : RefJ K τ E wi fi] [hg : RefG K g fg sl] [ht : RefT K τ E tt ft] [he : RefE K τ E te fe] [inc : Inc sl vs] : RefE K τ E (tLc wi g tt te vs) (dLc fi fg ft fe vs) := ⟨fun W A H σ ρ Qd R Q a h w => by
  refine hi.go W A H σ ρ _ R _ a h fun J H1 ds f1 i1 jt q => ?_
  intro D nD
  have a1 := a.fr f1 i1
  have sD : Same H1 (upd H1 D (.lst [])) := same_new nD
  have nB : ¬ W.B D := a1.bs.nB (nob nD)
  -- what holds at each turn
  refine ⟨fun i m H' => m = ds.length - i ∧ i ≤ ds.length ∧ Fr W.B H1 H' ∧ W.I H' ∧ ∃ acc ys, H' D = some (.lst acc) ∧ RpAll K (fun a => A a ∨ a = D) H' acc ys ∧ lcD fg ft fe (wipeD ρ vs) R (fun ys => Qd (.ml ys)) (ds.drop i) ys,
    ⟨ds.length, by omega, by omega, Fr.of sD, W.stay _ _ sD i1, [], [], upd_same, .nil, q⟩, ?_⟩
  rintro i m H' ⟨rfl, hi', f', i', acc, ys, eD, rD, q'⟩
  have gA : Goes A (fun a => A a ∨ a = D) H1 H1 := fun c o ec _ nc => ⟨ec, fun z => z.elim nc (ne_of_none ec nD)⟩
  have aH : At K W (fun a => A a ∨ a = D) E H' σ ρ R := by
    refine ⟨⟨fun a z => .inl (a1.bs.ba a z), fun a z => ?_, i'⟩, (a1.env.grow gA fun a z => .inl z).fr (fun a z => .inl (a1.bs.ba a z)) f', fun er x H2 fr2 i2 z r => a1.er er x H2 (f'.trans fr2) i2 (z.mono fun a z => .inl z) r⟩
    rcases z with z | rfl
    · exact f'.2 a (a1.bs.dom a z)
    · exact ⟨_, eD, nt_lst⟩
  obtain ⟨j1, j2, j3⟩ := jt _ H' i aH.bs gA f'
  by_cases hlt : i < ds.length
  · rw [List.drop_eq_getElem_cons hlt] at q'
    refine .inr ⟨j1 hlt, fun H2 => i + 1 ≤ ds.length ∧ Fr W.B H1 H2 ∧ W.I H2 ∧ ∃ acc ys, H2 D = some (.lst acc) ∧ RpAll K (fun a => A a ∨ a = D) H2 acc ys ∧ lcD fg ft fe (wipeD ρ vs) R (fun ys => Qd (.ml ys)) (ds.drop (i + 1)) ys, fun H2 z => ⟨ds.length - (i + 1), by omega, rfl, z⟩, fun x H2 y => ?_⟩
    obtain ⟨sm, rx⟩ := j3 x H2 ds[i] (List.getElem?_eq_getElem hlt) y
    have f2 : Fr W.B H' H2 := Fr.of sm
    have i2 := W.stay _ _ sm i'
    have a2 := aH.fr f2 i2
    have ew : EnvR K W (fun a => A a ∨ a = D) H2 (wipe σ vs ++ []) (wipeD ρ vs ++ []) := by
      rw [List.append_nil, List.append_nil]
      exact a2.env.wipe vs
    refine hg.go W (fun a => A a ∨ a = D) H2 (wipe σ vs) (wipeD ρ vs) [] [] x ds[i] _ _ ew (a2.env.wipe vs).len rx q' fun σ3 ρ3 e3 l3 d3 _ q3 => ?_
    rw [List.append_nil, List.append_nil] at e3
    have ww : wipe σ3 vs = wipe σ vs := by
      have z := d3 vs inc.h
      rw [z]
      refine List.ext_getElem? fun j => ?_
      rw [wipe_get, wipe_get]
      by_cases hj : j ∈ vs
      · rw [if_pos hj, if_pos hj]
        cases σ[j]? <;> rfl
      · rw [if_neg hj, if_neg hj]
    refine ⟨ww, ?_⟩
    have a3 : At K W (fun a => A a ∨ a = D) E H2 σ3 ρ3 R := ⟨a2.bs, e3, a2.er⟩
    refine ht.go W (fun a => A a ∨ a = D) H2 σ3 ρ3 _ R _ a3 q3 fun k H3 f3 i3 q4 => ?_
    cases k with
    | false =>
      refine iteF ⟨hlt, (f'.trans f2).trans f3, i3, acc, ys, (f2.trans f3).1 _ _ eD nt_lst nB, rD.go (goes_fr (fun a z => .inl (a1.bs.ba a z)) (f2.trans f3)), q4⟩
    | true =>
      refine iteT (he.go W (fun a => A a ∨ a = D) H3 σ3 ρ3 _ R _ (a3.fr f3 i3) q4 fun y H4 s f4 i4 r4 q5 => ?_)
      obtain ⟨hs, q5⟩ := q5
      obtain ⟨z, ez, q6⟩ := dat_iff (P := fun y => lcD fg ft fe (wipeD ρ vs) R (fun ys => Qd (.ml ys)) (ds.drop (i + 1)) (ys ++ [y])) q5
      have f24 := (f2.trans f3).trans f4
      have eD4 : H4 D = some (.lst acc) := f24.1 _ _ eD nt_lst nB
      have rz := r4.dat (a3.bs.fr f3 i3) ez
      refine ⟨acc, eD4, by rw [rD.length]; exact hs, hlt, ?_, W.own H4 D _ _ i4 eD4 (.lst _) (.lst _) nB, acc ++ [y], ys ++ [z], upd_same, ?_, q6⟩
      · refine ⟨fun c o ec t nc => ?_, fun c hc => ?_⟩
        · rw [upd_ne (ne_of_none ec nD)]
          exact (f'.trans f24).1 c o ec t nc
        · by_cases e : c = D
          · subst e
            exact ⟨_, upd_same, nt_lst⟩
          · obtain ⟨o, e1, t1⟩ := (f'.trans f24).2 c hc
            exact ⟨o, (upd_ne e).trans e1, t1⟩
      · have gu : Goes (fun a => A a ∨ a = D) (fun a => A a ∨ a = D) H4 (upd H4 D (.lst (acc ++ [y]))) := fun c o ec _ nc => ⟨(upd_ne fun z => nc (.inr z)).trans ec, nc⟩
        exact ((rD.go (goes_fr (fun a z => .inl (a1.bs.ba a z)) f24)).go gu).append (.one (rz.go gu))
  · have e : i = ds.length := by omega
    subst e
    rw [List.drop_length] at q'
    exact .inl ⟨j2 (Nat.le_refl _), w (.ref D) H' (.ml ys) (f1.trans f') i' ⟨D, acc, rfl, fun z => nob nD (f1.2 D z), eD, rD⟩ q'⟩⟩
end
end Dl

namespace Dl
open PySem PySem.Spec PyProof.Rows L2
section
variable {K : PySem.W.Frag} {E : XK}
/-! ### what is walked -/
theorem gh1 {W : Wld τ} {A : Addr → Prop} {H : Hp} {v : V} {x : PyData} (r : Rp K A H v x) : GhR K W A H [some v] [.d x] := ⟨rfl, fun i s e => by
  cases i with
  | zero =>
    simp at e
    subst e
    exact ⟨v, x, rfl, rfl, r⟩
  | succ i => simp at e⟩
theorem GhR.one {W : Wld τ} {A : Addr → Prop} {H : Hp} {v : V} {x : PyData} (h : GhR K W A H [some v] [.d x]) : Rp K A H v x := by
  obtain ⟨u, y, e1, e2, r⟩ := h.at_ 0 _ rfl
  cases e1
  cases e2
  exact r
theorem Rp.lst_ {A : Addr → Prop} {H : Hp} {v : V} {xs : List PyData} (h : Rp K A H v (.list xs)) : ∃ a vs, v = .ref a ∧ SqL K H a vs ∧ RpAll K A H vs xs := by
  cases h with
  | lst q r => exact ⟨_, _, rfl, sqLA_sq q, r⟩
theorem Rp.tup_ {A : Addr → Prop} {H : Hp} {v : V} {xs : List PyData} (h : Rp K A H v (.tuple xs)) : ∃ a vs, v = .ref a ∧ SqT K H a vs ∧ RpAll K A H vs xs := by
  cases h with
  | tup q r => exact ⟨_, _, rfl, sqTA_sq q, r⟩
def iLst (fe : TD) : TDI := fun ρ Qd R => fe ρ (fun s => match s.dat with
  | some (.list xs) => Qd xs
  | _ => False) R
def iTp (fe : TD) : TDI := fun ρ Qd R => fe ρ (fun s => match s.dat with
  | some (.tuple xs) => Qd xs
  | _ => False) R
instance {t : TE} {f : TD} [ht : RefE K τ E t f] : RefI K τ E (iList K t) (iLst f) := ⟨fun W A H σ ρ Qd R P a h k => by
  refine ht.go W A H σ ρ _ R _ a h fun v H1 s f1 i1 r1 q => ?_
  split at q
  · rename_i xs ex
    have rp := r1.dat a.bs ex
    obtain ⟨p, vs, rfl, sq, ra⟩ := rp.lst_
    refine ⟨p, rfl, ⟨_, sq⟩, k (Itl K p) H1 [some (.ref p)] [.d (.list xs)] xs f1 i1 (gh1 rp) ⟨fun W A H i b g hi => ?_, fun W A H i b g hi => ?_, fun W A H i x H' d b g ed y => ?_⟩ q⟩
    · obtain ⟨a, us, e, s2, r2⟩ := g.one.lst_
      cases e
      obtain ⟨u, eu, _⟩ := r2.get (List.getElem?_eq_getElem hi)
      exact ⟨us, u, s2, eu⟩
    · obtain ⟨a, us, e, s2, r2⟩ := g.one.lst_
      cases e
      exact ⟨us, s2, by rw [r2.length]; exact hi⟩
    · obtain ⟨a, us, e, s2, r2⟩ := g.one.lst_
      cases e
      obtain ⟨rfl, y⟩ := y
      obtain ⟨d', e1, e2⟩ := r2.getV (y us s2)
      rw [ed] at e1
      cases e1
      exact ⟨Same.refl _, e2⟩
  · exact q.elim⟩
instance {t : TE} {f : TD} [ht : RefE K τ E t f] : RefI K τ E (iTup K t) (iTp f) := ⟨fun W A H σ ρ Qd R P a h k => by
  refine ht.go W A H σ ρ _ R _ a h fun v H1 s f1 i1 r1 q => ?_
  split at q
  · rename_i xs ex
    have rp := r1.dat a.bs ex
    obtain ⟨p, vs, rfl, sq, ra⟩ := rp.tup_
    refine ⟨p, rfl, ⟨_, sq⟩, k (Itt K p) H1 [some (.ref p)] [.d (.tuple xs)] xs f1 i1 (gh1 rp) ⟨fun W A H i b g hi => ?_, fun W A H i b g hi => ?_, fun W A H i x H' d b g ed y => ?_⟩ q⟩
    · obtain ⟨a, us, e, s2, r2⟩ := g.one.tup_
      cases e
      obtain ⟨u, eu, _⟩ := r2.get (List.getElem?_eq_getElem hi)
      exact ⟨us, u, s2, eu⟩
    · obtain ⟨a, us, e, s2, r2⟩ := g.one.tup_
      cases e
      exact ⟨us, s2, by rw [r2.length]; exact hi⟩
    · obtain ⟨a, us, e, s2, r2⟩ := g.one.tup_
      cases e
      obtain ⟨rfl, y⟩ := y
      obtain ⟨d', e1, e2⟩ := r2.getV (y us s2)
      rw [ed] at e1
      cases e1
      exact ⟨Same.refl _, e2⟩
  · exact q.elim⟩
/-- a comprehension over a list that is read -/
def iSeq (fe : TD) : TDI := fun ρ Qd R => fe ρ (fun s => match s.seq with
  | some xs => Qd xs
  | none => False) R
instance (priority := high) {t : TE} {f : TD} [ht : RefE K τ E t f] : RefJ K τ E (iList K t) (iSeq f) := ⟨fun W A H σ ρ Qd R P a h k => by
  refine ht.go W A H σ ρ _ R _ a h fun v H1 s f1 i1 r1 q => ?_
  split at q
  · rename_i xs ex
    obtain ⟨p, vs, rfl, sq, ra⟩ := r1.seq a.bs ex
    refine ⟨p, rfl, ⟨_, sqLA_sq sq⟩, k (Itl K p) H1 xs f1 i1 (fun A' H2 i b2 g2 f2 => ?_) q⟩
    have s2 := sqLA_sq (sqB_fr f2 sq)
    have r2 := (ra.go g2).go (goes_fr b2.ba f2)
    refine ⟨fun hi => ?_, fun hi => ⟨vs, s2, by rw [r2.length]; exact hi⟩, fun x H3 d ed y => ?_⟩
    · obtain ⟨u, eu, _⟩ := r2.get (List.getElem?_eq_getElem hi)
      exact ⟨vs, u, s2, eu⟩
    · obtain ⟨rfl, y⟩ := y
      obtain ⟨d', e1, e2⟩ := r2.getV (y vs s2)
      rw [ed] at e1
      cases e1
      exact ⟨Same.refl _, e2⟩
  · exact q.elim⟩
/-- range(n), range(m, n) -/
def rangeD (lo : Int) (n : Nat) : List PyData := (List.range n).map fun (k : Nat) => PyData.int (lo + k)
def iRg1 (fa : TDA) : TDI := fun ρ Qd R => fa ρ (fun ss => match ss with
  | [.d (.int j)] => -(2 ^ 62) ≤ j ∧ j < 2 ^ 62 ∧ Qd (rangeD 0 j.toNat)
  | _ => False) R
def iRg2 (fa : TDA) : TDI := fun ρ Qd R => fa ρ (fun ss => match ss with
  | [.d (.int i), .d (.int j)] => (-(2 ^ 62) ≤ i ∧ i < 2 ^ 62 ∧ -(2 ^ 62) ≤ j ∧ j < 2 ^ 62) ∧ Qd (rangeD i (j - i).toNat)
  | _ => False) R
theorem itR_rng (lo : Int) (n : Nat) : ItR K (Itr lo n) [] [] (rangeD lo n) := by
  have hl : (rangeD lo n).length = n := by rw [rangeD, List.length_map, List.length_range]
  refine ⟨fun W A H i b g hi => by rw [hl] at hi; exact hi, fun W A H i b g hi => by rw [hl] at hi; exact hi, fun W A H i x H' d b g ed y => ?_⟩
  obtain ⟨rfl, rfl⟩ := y
  unfold rangeD at ed
  rw [List.getElem?_map] at ed
  have hi : i < n := by
    rcases Nat.lt_or_ge i n with z | z
    · exact z
    · rw [List.getElem?_eq_none (by rw [List.length_range]; exact z)] at ed
      cases ed
  rw [List.getElem?_range hi] at ed
  cases ed
  exact ⟨Same.refl _, .int _⟩
theorem ghNil {W : Wld τ} {A : Addr → Prop} {H : Hp} : GhR K W A H [] [] := ⟨rfl, fun i s e => by simp at e⟩
instance {t : TA} {f : TDA} [ht : RefA K τ E t f] : RefI K τ E (iRng1 t) (iRg1 f) := ⟨fun W A H σ ρ Qd R P a h k => by
  refine ht.go W A H σ ρ _ R _ a h fun vs H1 ss f1 i1 r1 q => ?_
  split at q
  · rename_i j
    obtain ⟨v, rfl, r⟩ := vlsr1 r1
    obtain rfl := r.flat (u := .int j) rfl
    exact ⟨j, rfl, q.1, q.2.1, k _ H1 [] [] _ f1 i1 ghNil (itR_rng 0 j.toNat) q.2.2⟩
  · exact q.elim⟩
instance {t : TA} {f : TDA} [ht : RefA K τ E t f] : RefI K τ E (iRng2 t) (iRg2 f) := ⟨fun W A H σ ρ Qd R P a h k => by
  refine ht.go W A H σ ρ _ R _ a h fun vs H1 ss f1 i1 r1 q => ?_
  split at q
  · rename_i i j
    obtain ⟨v, u, rfl, r, r'⟩ := vlsr2 r1
    obtain rfl := r.flat (u := .int i) rfl
    obtain rfl := r'.flat (u := .int j) rfl
    exact ⟨i, j, rfl, q.1, k _ H1 [] [] _ f1 i1 ghNil (itR_rng i _) q.2⟩
  · exact q.elim⟩
/-- enumerate(xs) -/
def enumD (xs : List PyData) : List PyData := xs.zipIdx.map fun p => .tuple [.int (p.2 : Nat), p.1]
theorem enumD_get {xs : List PyData} {i : Nat} {d : PyData} (h : (enumD xs)[i]? = some d) : ∃ x, xs[i]? = some x ∧ d = .tuple [.int (i : Nat), x] := by
  unfold enumD at h
  rw [List.getElem?_map, List.getElem?_zipIdx] at h
  cases e : xs[i]? with
  | none =>
    rw [e] at h
    cases h
  | some x =>
    rw [e] at h
    simp at h
    exact ⟨x, rfl, h.symm⟩
theorem enumD_len (xs : List PyData) : (enumD xs).length = xs.length := by rw [enumD, List.length_map, List.length_zipIdx]
def iEn (fa : TDA) : TDI := fun ρ Qd R => fa ρ (fun ss => match ss with
  | [s] => (match s.dat with
    | some (.list xs) => Qd (enumD xs)
    | _ => False)
  | _ => False) R
theorem rp_pair {W : Wld τ} {A : Addr → Prop} {H : Hp} {T : Addr} {v w : V} {x y : PyData} (b : Bs W A H) (n : H T = none) (r : Rp K A H v x) (r' : Rp K A H w y) : Same H (upd H T (.tup [v, w])) ∧ Rp K A (upd H T (.tup [v, w])) (.ref T) (.tuple [x, y]) :=
  ⟨same_new n, .tup (.inl ⟨.inl upd_same, b.nA (nob n)⟩) (.cons (r.go (goes_fr b.ba (Fr.new n))) (.cons (r'.go (goes_fr b.ba (Fr.new n))) .nil))⟩
instance {t : TA} {f : TDA} [ht : RefA K τ E t f] : RefI K τ E (iEnum K t) (iEn f) := ⟨fun W A H σ ρ Qd R P a h k => by
  refine ht.go W A H σ ρ _ R _ a h fun vs H1 ss f1 i1 r1 q => ?_
  split at q
  · obtain ⟨v, rfl, r⟩ := vlsr1 r1
    split at q
    · rename_i xs ex
      have rp := r.dat a.bs ex
      obtain ⟨p, us, rfl, sq, ra⟩ := rp.lst_
      refine ⟨p, _, rfl, sq, k (Ite K p) H1 [some (.ref p)] [.d (.list xs)] (enumD xs) f1 i1 (gh1 rp) ⟨fun W A H i b g hi => ?_, fun W A H i b g hi => ?_, fun W A H i x H' d b g ed y => ?_⟩ q⟩
      · rw [enumD_len] at hi
        obtain ⟨a, us, e, s2, r2⟩ := g.one.lst_
        cases e
        obtain ⟨u, eu, _⟩ := r2.get (List.getElem?_eq_getElem hi)
        exact ⟨us, u, s2, eu⟩
      · rw [enumD_len] at hi
        obtain ⟨a, us, e, s2, r2⟩ := g.one.lst_
        cases e
        exact ⟨us, s2, by rw [r2.length]; exact hi⟩
      · obtain ⟨a, us, e, s2, r2⟩ := g.one.lst_
        cases e
        obtain ⟨T, u, rfl, nT, rfl, hx⟩ := y
        obtain ⟨x', ex', rfl⟩ := enumD_get ed
        obtain ⟨d', e1, e2⟩ := r2.getV (hx us s2)
        rw [ex'] at e1
        cases e1
        exact rp_pair b nT (.int _) e2
    · exact q.elim
  · exact q.elim⟩
/-- zip(xs, ys) of two lists, of two tuples -/
def zipD (xs ys : List PyData) : List PyData := (xs.zip ys).map fun p => .tuple [p.1, p.2]
theorem zipD_get {xs ys : List PyData} {i : Nat} {d : PyData} (h : (zipD xs ys)[i]? = some d) : ∃ x y, xs[i]? = some x ∧ ys[i]? = some y ∧ d = .tuple [x, y] := by
  unfold zipD at h
  rw [List.getElem?_map] at h
  cases e : (xs.zip ys)[i]? with
  | none =>
    rw [e] at h
    cases h
  | some p =>
    rw [e] at h
    cases h
    obtain ⟨e1, e2⟩ := List.getElem?_zip_eq_some.mp e
    exact ⟨p.1, p.2, e1, e2, rfl⟩
theorem zipD_len (xs ys : List PyData) : (zipD xs ys).length = min xs.length ys.length := by rw [zipD, List.length_map, List.length_zip]
def iZp (fa : TDA) : TDI := fun ρ Qd R => fa ρ (fun ss => match ss with
  | [s, u] => (match s.dat, u.dat with
    | some (.list xs), some (.list ys) => Qd (zipD xs ys)
    | some (.tuple xs), some (.tuple ys) => Qd (zipD xs ys)
    | _, _ => False)
  | _ => False) R
theorem gh2 {W : Wld τ} {A : Addr → Prop} {H : Hp} {v w : V} {x y : PyData} (r : Rp K A H v x) (r' : Rp K A H w y) : GhR K W A H [some v, some w] [.d x, .d y] := ⟨rfl, fun i s e => by
  match i with
  | 0 =>
    simp at e
    subst e
    exact ⟨v, x, rfl, rfl, r⟩
  | 1 =>
    simp at e
    subst e
    exact ⟨w, y, rfl, rfl, r'⟩
  | i + 2 => simp at e⟩
theorem GhR.two {W : Wld τ} {A : Addr → Prop} {H : Hp} {v w : V} {x y : PyData} (h : GhR K W A H [some v, some w] [.d x, .d y]) : Rp K A H v x ∧ Rp K A H w y := by
  obtain ⟨u, z, e1, e2, r⟩ := h.at_ 0 _ rfl
  cases e1
  cases e2
  obtain ⟨u, z, e1, e2, r'⟩ := h.at_ 1 _ rfl
  cases e1
  cases e2
  exact ⟨r, r'⟩
instance {t : TA} {f : TDA} [ht : RefA K τ E t f] : RefI K τ E (RZ.iZipA K t) (iZp f) := ⟨fun W A H σ ρ Qd R P a h k => by
  refine ht.go W A H σ ρ _ R _ a h fun vs H1 ss f1 i1 r1 q => ?_
  split at q
  · obtain ⟨v, w, rfl, r, r'⟩ := vlsr2 r1
    split at q
    · rename_i xs ys ex ey
      have rp := r.dat a.bs ex
      have rp' := r'.dat a.bs ey
      obtain ⟨p, us, rfl, sq, ra⟩ := rp.lst_
      obtain ⟨p', us', rfl, sq', ra'⟩ := rp'.lst_
      refine ⟨p, p', _, _, rfl, .inl ⟨sq, sq', k (Itz K p p') H1 [some (.ref p), some (.ref p')] [.d (.list xs), .d (.list ys)] (zipD xs ys) f1 i1 (gh2 rp rp') ⟨fun W A H i b g hi => ?_, fun W A H i b g hi => ?_, fun W A H i x H' d b g ed y => ?_⟩ q⟩⟩
      all_goals
        obtain ⟨g1, g2⟩ := g.two
        obtain ⟨a1, us, e, s2, r2⟩ := g1.lst_
        cases e
        obtain ⟨a2, us', e, s3, r3⟩ := g2.lst_
        cases e
      · rw [zipD_len] at hi
        obtain ⟨u, eu, _⟩ := r2.get (List.getElem?_eq_getElem (show i < xs.length by omega))
        obtain ⟨u', eu', _⟩ := r3.get (List.getElem?_eq_getElem (show i < ys.length by omega))
        exact ⟨us, us', u, u', s2, s3, eu, eu'⟩
      · rw [zipD_len] at hi
        refine ⟨us, us', s2, s3, ?_⟩
        rw [r2.length, r3.length]
        omega
      · obtain ⟨T, u, u', rfl, nT, rfl, hx, hy⟩ := y
        obtain ⟨x', y', ex', ey', rfl⟩ := zipD_get ed
        obtain ⟨d1, e1, q1⟩ := r2.getV (hx us s2)
        obtain ⟨d2, e2, q2⟩ := r3.getV (hy us' s3)
        rw [ex'] at e1
        rw [ey'] at e2
        cases e1
        cases e2
        exact rp_pair b nT q1 q2
    · rename_i xs ys ex ey
      have rp := r.dat a.bs ex
      have rp' := r'.dat a.bs ey
      obtain ⟨p, us, rfl, sq, ra⟩ := rp.tup_
      obtain ⟨p', us', rfl, sq', ra'⟩ := rp'.tup_
      refine ⟨p, p', _, _, rfl, .inr ⟨sq, sq', k (RZ.ItzT K p p') H1 [some (.ref p), some (.ref p')] [.d (.tuple xs), .d (.tuple ys)] (zipD xs ys) f1 i1 (gh2 rp rp') ⟨fun W A H i b g hi => ?_, fun W A H i b g hi => ?_, fun W A H i x H' d b g ed y => ?_⟩ q⟩⟩
      all_goals
        obtain ⟨g1, g2⟩ := g.two
        obtain ⟨a1, us, e, s2, r2⟩ := g1.tup_
        cases e
        obtain ⟨a2, us', e, s3, r3⟩ := g2.tup_
        cases e
      · rw [zipD_len] at hi
        obtain ⟨u, eu, _⟩ := r2.get (List.getElem?_eq_getElem (show i < xs.length by omega))
        obtain ⟨u', eu', _⟩ := r3.get (List.getElem?_eq_getElem (show i < ys.length by omega))
        exact ⟨us, us', u, u', s2, s3, eu, eu'⟩
      · rw [zipD_len] at hi
        refine ⟨us, us', s2, s3, ?_⟩
        rw [r2.length, r3.length]
        omega
      · obtain ⟨T, u, u', rfl, nT, rfl, hx, hy⟩ := y
        obtain ⟨x', y', ex', ey', rfl⟩ := zipD_get ed
        obtain ⟨d1, e1, q1⟩ := r2.getV (hx us s2)
        obtain ⟨d2, e2, q2⟩ := r3.getV (hy us' s3)
        rw [ex'] at e1
        rw [ey'] at e2
        cases e1
        cases e2
        exact rp_pair b nT q1 q2
    · exact q.elim
  · exact q.elim⟩
end
end Dl

namespace Dl
open PySem PySem.Spec PyProof.Rows L2
section
variable {K : PySem.W.Frag} {E : XK}
/-! ### items, slices, sums of sequences -/
theorem RpAll.atI {A : Addr → Prop} {H : Hp} {vs : List V} {ds : List PyData} {i : Int} {d : PyData} (h : RpAll K A H vs ds) (e : L2.atI ds i = some d) : ∃ v, L2.atI vs i = some v ∧ Rp K A H v d := by
  unfold L2.atI at e ⊢
  rw [h.length]
  cases z : ixN ds.length i with
  | none =>
    rw [z] at e
    cases e
  | some j =>
    rw [z] at e
    exact h.get e
def fIxL : Sl → Sl → (Sl → Prop) → Prop := fun s u Qd => match s.seq, u with
  | some xs, .d (.int i) => (match L2.atI xs i with
    | some d => Qd (.d d)
    | none => False)
  | _, _ => False
def fIxT : Sl → Sl → (Sl → Prop) → Prop := fun s u Qd => match s, u with
  | .d (.tuple xs), .d (.int i) => (match L2.atI xs i with
    | some d => Qd (.d d)
    | none => False)
  | _, _ => False
instance : Ref2 K (rIxL K) fIxL := ⟨fun W A H0 H x y s u Qd Q b f i rx ry h w => by
  unfold fIxL at h
  split at h
  · rename_i xs n ex
    split at h
    · rename_i d ed
      obtain ⟨p, vs, rfl, sq, r⟩ := rx.seq b ex
      obtain ⟨v, ev, rv⟩ := r.atI ed
      exact ⟨p, vs, n, v, rfl, ry.flat (u := .int n) rfl, sqLA_sq sq, ev, w v H (.d d) (Fr.refl H) i rv h⟩
    · exact h.elim
  · exact h.elim⟩
instance : Ref2 K (rIxT K) fIxT := ⟨fun W A H0 H x y s u Qd Q b f i rx ry h w => by
  unfold fIxT at h
  split at h
  · rename_i xs n
    split at h
    · rename_i d ed
      obtain ⟨p, vs, rfl, sq, r⟩ := Rp.tup_ rx
      obtain ⟨v, ev, rv⟩ := r.atI ed
      exact ⟨p, vs, n, v, rfl, ry.flat (u := .int n) rfl, sq, ev, w v H (.d d) (Fr.refl H) i rv h⟩
    · exact h.elim
  · exact h.elim⟩
def cutD (xs : List PyData) (lo hi : Option Int) : List PyData := (xs.drop (HT.sIx xs.length 0 lo)).take (HT.sIx xs.length xs.length hi - HT.sIx xs.length 0 lo)
theorem RpAll.cut {A : Addr → Prop} {H : Hp} {vs : List V} {ds : List PyData} (h : RpAll K A H vs ds) (lo hi : Option Int) : RpAll K A H (cutV vs lo hi) (cutD ds lo hi) := by
  unfold cutV cutD
  rw [h.length]
  exact (h.drop _).take _
theorem cutD_whole {xs : List PyData} {lo hi : Option Int} (h : HT.sIx xs.length 0 lo = 0 ∧ HT.sIx xs.length xs.length hi = xs.length) : cutD xs lo hi = xs := by
  unfold cutD
  rw [h.1, h.2, List.drop_zero, Nat.sub_zero, List.take_length]
abbrev TDO := List Sl → (Option Int → Prop) → (Er → Prop) → Prop
class RefO (K : PySem.W.Frag) (τ : List (Addr × Str)) (E : XK) (t : TO) (f : outParam TDO) : Prop where
  go : ∀ (W : Wld τ) (A : Addr → Prop) (H : Hp) (σ : L2.St) (ρ : List Sl) (Qd : Option Int → Prop) (R : Er → Prop) (Q : Option Int → Hp → Prop), At K W A E H σ ρ R → f ρ Qd R → (∀ o H', Fr W.B H H' → W.I H' → Qd o → Q o H') → t σ H Q
def dNo : TDO := fun _ Qd _ => Qd none
def dPt (fe : TD) : TDO := fun ρ Qd R => fe ρ (fun s => match s with
  | .d (.int i) => Qd (some i)
  | _ => False) R
instance : RefO K τ E tNoPart dNo := ⟨fun W A H σ ρ Qd R Q a h w => w none H (Fr.refl H) a.bs.inv h⟩
instance {t : TE} {f : TD} [ht : RefE K τ E t f] : RefO K τ E (tPart t) (dPt f) := ⟨fun W A H σ ρ Qd R Q a h w => by
  refine ht.go W A H σ ρ _ R _ a h fun v H1 s f1 i1 r1 q => ?_
  split at q
  · rename_i i
    exact ⟨i, r1.flat (u := .int i) rfl, w _ H1 f1 i1 q⟩
  · exact q.elim⟩
class RefSl (K : PySem.W.Frag) (r : V → Option Int → Option Int → Hp → VK → Prop) (f : outParam (Sl → Option Int → Option Int → (Sl → Prop) → Prop)) : Prop where
  go : ∀ {τ : List (Addr × Str)} (W : Wld τ) (A : Addr → Prop) (H0 H : Hp) (x : V) (s : Sl) (lo hi : Option Int) (Qd : Sl → Prop) (Q : VK), Bs W A H0 → Fr W.B H0 H → W.I H → VlR K W A H0 H x s → f s lo hi Qd → Want K W A H Qd Q → r x lo hi H Q
def dSl (f : Sl → Option Int → Option Int → (Sl → Prop) → Prop) (fe : TD) (fl fh : TDO) : TD := fun ρ Qd R => fe ρ (fun s => fl ρ (fun l => fh ρ (fun h => f s l h Qd) R) R) R
instance {r : V → Option Int → Option Int → Hp → VK → Prop} {te : TE} {tl th : TO} {f : Sl → Option Int → Option Int → (Sl → Prop) → Prop} {fe : TD} {fl fh : TDO} [he : RefE K τ E te fe] [hl : RefO K τ E tl fl] [hh : RefO K τ E th fh] [hr : RefSl K r f] : RefE K τ E (tSl r te tl th) (dSl f fe fl fh) := ⟨fun W A H σ ρ Qd R Q a h w => by
  refine he.go W A H σ ρ _ R _ a h fun v H1 s f1 i1 r1 q1 => ?_
  refine hl.go W A H1 σ ρ _ R _ (a.fr f1 i1) q1 fun l H2 f2 i2 q2 => ?_
  refine hh.go W A H2 σ ρ _ R _ (a.fr (f1.trans f2) i2) q2 fun u H3 f3 i3 q3 => ?_
  exact hr.go W A H H3 v s l u Qd Q a.bs ((f1.trans f2).trans f3) i3 (r1.fr a.bs (f2.trans f3)) q3 (w.back ((f1.trans f2).trans f3))⟩
def fSlT : Sl → Option Int → Option Int → (Sl → Prop) → Prop := fun s lo hi Qd => match s with
  | .d (.tuple xs) => Qd (.d (.tuple (cutD xs lo hi)))
  | _ => False
def fSlL : Sl → Option Int → Option Int → (Sl → Prop) → Prop := fun s lo hi Qd => match s.seq with
  | some xs => Qd (.ml (cutD xs lo hi))
  | none => False
instance : RefSl K (rSlA K) fSlT := ⟨fun W A H0 H x s lo hi Qd Q b f i rx h w => by
  unfold fSlT at h
  split at h
  · rename_i xs
    have rx' : Rp K A H x (.tuple xs) := rx
    have bH : Bs W A H := b.fr f i
    cases rx with
    | @tup a vs ds q r =>
      refine ⟨a, vs, rfl, sqTA_sq q, fun hw => ?_, fun hw => ?_⟩
      · refine w _ H (.d (.tuple (cutD xs lo hi))) (Fr.refl H) i ?_ h
        rw [cutD_whole (by rw [← r.length]; exact hw)]
        exact rx'
      · exact Want.tup bH w (r.cut lo hi) h
  · exact h.elim⟩
instance : RefSl K (rSlL K) fSlL := ⟨fun W A H0 H x s lo hi Qd Q b f i rx h w => by
  unfold fSlL at h
  split at h
  · rename_i xs ex
    obtain ⟨p, vs, rfl, sq, r⟩ := rx.seq b ex
    exact ⟨p, vs, rfl, sqLA_sq sq, Want.lst (b.fr f i) w (r.cut lo hi) h⟩
  · exact h.elim⟩
def fCatT : Sl → Sl → (Sl → Prop) → Prop := fun s u Qd => match s, u with
  | .d (.tuple xs), .d (.tuple ys) => xs.length + ys.length ≤ sizeLine ∧ Qd (.d (.tuple (xs ++ ys)))
  | _, _ => False
instance : Ref2 K (rCatA K) fCatT := ⟨fun W A H0 H x y s u Qd Q b f i rx ry h w => by
  unfold fCatT at h
  split at h
  · rename_i xs ys
    have rx' : Rp K A H x (.tuple xs) := rx
    have ry' : Rp K A H y (.tuple ys) := ry
    obtain ⟨p, vs, rfl, sq, r⟩ := Rp.tup_ rx'
    obtain ⟨p', vs', rfl, sq', r'⟩ := Rp.tup_ ry'
    refine ⟨p, p', vs, vs', rfl, rfl, sq, sq', by rw [r.length, r'.length]; exact h.1, fun z => ?_, fun _ z => ?_, fun _ _ => Want.tup (b.fr f i) w (r.append r') h.2⟩
    · refine w _ H (.d (.tuple (xs ++ ys))) (Fr.refl H) i ?_ h.2
      subst z
      cases r
      exact ry'
    · refine w _ H (.d (.tuple (xs ++ ys))) (Fr.refl H) i ?_ h.2
      subst z
      cases r'
      rw [List.append_nil]
      exact rx'
  · exact h.elim⟩
def fCatL : Sl → Sl → (Sl → Prop) → Prop := fun s u Qd => match s.seq, u.seq with
  | some xs, some ys => xs.length + ys.length ≤ sizeLine ∧ Qd (.ml (xs ++ ys))
  | _, _ => False
instance : Ref2 K rCat fCatL := ⟨fun W A H0 H x y s u Qd Q b f i rx ry h w => by
  unfold fCatL at h
  split at h
  · rename_i xs ys ex ey
    obtain ⟨p, vs, rfl, sq, r⟩ := rx.seq b ex
    obtain ⟨p', vs', rfl, sq', r'⟩ := ry.seq b ey
    exact ⟨p, p', vs, vs', rfl, rfl, sq.1, sq'.1, by rw [r.length, r'.length]; exact h.1, Want.lst (b.fr f i) w (r.append r') h.2⟩
  · exact h.elim⟩
def fRep : Sl → Sl → (Sl → Prop) → Prop := fun s u Qd => match s.seq, u with
  | some xs, .d (.int k) => -(2 ^ 63) ≤ k ∧ k < 2 ^ 63 ∧ xs.length * k.toNat ≤ sizeLine ∧ Qd (.ml (List.replicate k.toNat xs).flatten)
  | _, _ => False
instance : Ref2 K rRep fRep := ⟨fun W A H0 H x y s u Qd Q b f i rx ry h w => by
  unfold fRep at h
  split at h
  · rename_i xs k ex
    obtain ⟨p, vs, rfl, sq, r⟩ := rx.seq b ex
    exact ⟨p, k, vs, rfl, ry.flat (u := .int k) rfl, sq.1, h.1, h.2.1, by rw [r.length]; exact h.2.2.1, Want.lst (b.fr f i) w (r.rep _) h.2.2.2⟩
  · exact h.elim⟩
/-! ### in -/
def dflat : PyData → Option V
  | .none => some .non
  | .bool b => some (.bl b)
  | .int i => some (.int i)
  | .str x => some (.str x)
  | _ => none
def dflats : List PyData → Option (List V)
  | [] => some []
  | x :: r => match dflat x, dflats r with
    | some v, some vs => some (v :: vs)
    | _, _ => none
theorem rp_flat {A : Addr → Prop} {H : Hp} {v u : V} {x : PyData} (h : Rp K A H v x) (e : dflat x = some u) : v = u ∧ flatV u = true := by
  cases h <;> cases e <;> exact ⟨rfl, rfl⟩
theorem rps_flat {A : Addr → Prop} {H : Hp} : ∀ {vs us : List V} {xs : List PyData}, RpAll K A H vs xs → dflats xs = some us → vs = us ∧ us.all flatV = true
  | _, _, _, .nil, e => by
    cases e
    exact ⟨rfl, rfl⟩
  | _, _, _, .cons h r, e => by
    unfold dflats at e
    split at e
    · rename_i v vs e1 e2
      cases e
      obtain ⟨rfl, a1⟩ := rp_flat h e1
      obtain ⟨rfl, a2⟩ := rps_flat r e2
      exact ⟨rfl, by rw [List.all_cons, a1, a2]; rfl⟩
    · cases e
def fIn (neg : Bool) : Sl → Sl → (Sl → Prop) → Prop := fun s u Qd => match s.dat.bind dflat, u.sq.bind dflats with
  | some x, some ys => Qd (.d (.bool (if neg then !inV x ys else inV x ys)))
  | _, _ => False
instance {neg : Bool} : Ref2 K (rIn K neg) (fIn neg) := ⟨fun W A H0 H x y s u Qd Q b f i rx ry h w => by
  unfold fIn at h
  split at h
  · rename_i v vs ex ey
    obtain ⟨d, e1, e2⟩ := Option.bind_eq_some_iff.mp ex
    obtain ⟨ds, e3, e4⟩ := Option.bind_eq_some_iff.mp ey
    obtain ⟨rfl, a1⟩ := rp_flat (rx.dat b e1) e2
    obtain ⟨p, us, rfl, sq, r⟩ := ry.sq b i e3
    obtain ⟨rfl, a2⟩ := rps_flat r e4
    exact ⟨p, us, rfl, sq, a1, a2, w.here i _ h⟩
  · exact h.elim⟩
/-! ### built-in calls -/
def fLen : List Sl → (Sl → Prop) → Prop := fun ss Qd => match ss with
  | [s] => (match s.sq with
    | some xs => Qd (.d (.int xs.length))
    | none => False)
  | _ => False
instance : RefC K (fun xs H Q => ∃ p ys, xs = [.ref p] ∧ (SqL K H p ys ∨ SqT K H p ys) ∧ Q (.int ys.length) H) fLen := ⟨fun W A H0 H xs ss Qd Q b f i rx h w => by
  unfold fLen at h
  split at h
  · obtain ⟨v, rfl, r⟩ := vlsr1 rx
    split at h
    · rename_i xs ex
      obtain ⟨p, vs, rfl, sq, r⟩ := r.sq b i ex
      refine ⟨p, vs, rfl, sq, ?_⟩
      rw [r.length]
      exact w.here i _ h
    · exact h.elim
  · exact h.elim⟩
def fLenS : List Sl → (Sl → Prop) → Prop := fun ss Qd => match ss with
  | [.d (.str z)] => z.length ≤ sizeLine ∧ Qd (.d (.int z.length))
  | _ => False
instance : RefC K (fun xs H Q => ∃ z, xs = [.str z] ∧ z.length ≤ sizeLine ∧ Q (.int z.length) H) fLenS := ⟨fun W A H0 H xs ss Qd Q b f i rx h w => by
  unfold fLenS at h
  split at h
  · rename_i z
    obtain ⟨v, rfl, r⟩ := vlsr1 rx
    obtain rfl := r.flat (u := .str z) rfl
    exact ⟨z, rfl, h.1, w.here i _ h.2⟩
  · exact h.elim⟩
/-- isinstance(x, T), T a built-in class -/
def tyD : PyData → String
  | .none => "NoneType"
  | .bool _ => "bool"
  | .int _ => "int"
  | .str _ => "str"
  | .list _ => "list"
  | .tuple _ => "tuple"
  | .dict _ => "dict"
def isiD (n T : String) : Bool := n == T || (n == "bool" && T == "int")
def okTy (T : String) : Prop := T = "int" ∨ T = "bool" ∨ T = "tuple" ∨ T = "list" ∨ T = "str" ∨ T = "dict"
theorem isi_kit (x : PyData) {T : String} (h : okTy T) : PySem.W.kitOne K (.type (tyD x)) (.type T) = some (isiD (tyD x) T) := by
  rcases h with rfl | rfl | rfl | rfl | rfl | rfl <;> cases x <;> (simp only [tyD]; exact kit_ty (by decide +kernel))
theorem rp_ty {A : Addr → Prop} {H : Hp} {v : V} {x : PyData} (h : Rp K A H v x) : TyX K H v (.type (tyD x)) := by
  cases h with
  | non => exact .base .non
  | bl b => exact .base (.bl b)
  | int i => exact .base (.int i)
  | str x => exact .base (.str x)
  | lst q r => exact .base (.lst q.1)
  | tup q r =>
    rcases sqTA_sq q with (e | ⟨o, e⟩) | ⟨o, its, n, e, c, _⟩
    · exact .base (.tup e)
    · exact .fTuple e
    · exact .kTuple e c
  | dct e n r => exact .base (.dK e)
def fIsi : List Sl → (Sl → Prop) → Prop := fun ss Qd => match ss with
  | [s, .raw (.ty T)] => (match s.dat with
    | some x => okTy T ∧ Qd (.d (.bool (isiD (tyD x) T)))
    | none => False)
  | _ => False
instance : RefC K (rIsi K) fIsi := ⟨fun W A H0 H xs ss Qd Q b f i rx h w => by
  unfold fIsi at h
  split at h
  · rename_i s T
    obtain ⟨v, u, rfl, r, r'⟩ := vlsr2 rx
    obtain rfl := r'.flat (u := .ty T) rfl
    split at h
    · rename_i x ex
      exact ⟨v, _, _, _, _, rfl, .ty T, rp_ty (r.dat b ex), isi_kit x h.1, w.here i _ h.2⟩
    · exact h.elim
  · exact h.elim⟩
end
end Dl

namespace Dl
open PySem PySem.Spec PyProof.Rows L2
section
variable {K : PySem.W.Frag} {E : XK}
/-! ### built-in calls over lists -/
def dint : PyData → Option Int
  | .int i => some i
  | _ => none
def dbool : PyData → Option Bool
  | .bool b => some b
  | _ => none
def dstr : PyData → Option Str
  | .str b => some b
  | _ => none
def oAll {α : Type} (f : PyData → Option α) : List PyData → Option (List α)
  | [] => some []
  | x :: r => match f x, oAll f r with
    | some a, some as => some (a :: as)
    | _, _ => none
theorem oAll_map {α : Type} {f : PyData → Option α} {g : α → PyData} (h : ∀ x a, f x = some a → x = g a) : ∀ {xs : List PyData} {as : List α}, oAll f xs = some as → xs = as.map g
  | [], _, e => by
    cases e
    rfl
  | x :: r, as, e => by
    unfold oAll at e
    split at e
    · rename_i a as' e1 e2
      cases e
      rw [h x a e1, oAll_map h e2]
      rfl
    · cases e
theorem oAll_of {α : Type} {f : PyData → Option α} {g : α → PyData} (h : ∀ a, f (g a) = some a) : ∀ as : List α, oAll f (as.map g) = some as
  | [] => rfl
  | a :: r => by
    rw [List.map_cons]
    unfold oAll
    rw [h a, oAll_of h r]
theorem dint_eq : ∀ (x : PyData) (a : Int), dint x = some a → x = .int a := fun x a e => by cases x <;> cases e; rfl
theorem dbool_eq : ∀ (x : PyData) (a : Bool), dbool x = some a → x = .bool a := fun x a e => by cases x <;> cases e; rfl
theorem dstr_eq : ∀ (x : PyData) (a : Str), dstr x = some a → x = .str a := fun x a e => by cases x <;> cases e; rfl
theorem ints_of (ns : List Int) : oAll dint (ns.map PyData.int) = some ns := oAll_of (g := PyData.int) (fun _ => rfl) ns
theorem bools_of (ns : List Bool) : oAll dbool (ns.map PyData.bool) = some ns := oAll_of (g := PyData.bool) (fun _ => rfl) ns
theorem strs_of (ns : List Str) : oAll dstr (ns.map PyData.str) = some ns := oAll_of (g := PyData.str) (fun _ => rfl) ns
/-- f of a list of ints, of truths -/
def fInts (g : List Int → (Sl → Prop) → Prop) : List Sl → (Sl → Prop) → Prop := fun ss Qd => match ss with
  | [s] => (match s.seq.bind (oAll dint) with
    | some ns => g ns Qd
    | none => False)
  | _ => False
def fBools (g : List Bool → (Sl → Prop) → Prop) : List Sl → (Sl → Prop) → Prop := fun ss Qd => match ss with
  | [s] => (match s.seq.bind (oAll dbool) with
    | some ns => g ns Qd
    | none => False)
  | _ => False
theorem fInts_go {g : List Int → (Sl → Prop) → Prop} {W : Wld τ} {A : Addr → Prop} {H0 H : Hp} {xs : List V} {ss : List Sl} {Qd : Sl → Prop} (b : Bs W A H0) (rx : VlsR K W A H0 H xs ss) (h : fInts g ss Qd) : ∃ (p : Addr) (ns : List Int), xs = [.ref p] ∧ H p = some (.lst (ns.map V.int)) ∧ g ns Qd := by
  unfold fInts at h
  split at h
  · obtain ⟨v, rfl, r⟩ := vlsr1 rx
    split at h
    · rename_i ns ex
      obtain ⟨ds, e1, e2⟩ := Option.bind_eq_some_iff.mp ex
      obtain ⟨p, vs, rfl, sq, r⟩ := r.seq b e1
      rw [oAll_map dint_eq e2] at r
      have z := r.ints
      subst z
      exact ⟨p, ns, rfl, sq.1, h⟩
    · exact h.elim
  · exact h.elim
theorem fBools_go {g : List Bool → (Sl → Prop) → Prop} {W : Wld τ} {A : Addr → Prop} {H0 H : Hp} {xs : List V} {ss : List Sl} {Qd : Sl → Prop} (b : Bs W A H0) (rx : VlsR K W A H0 H xs ss) (h : fBools g ss Qd) : ∃ (p : Addr) (ns : List Bool), xs = [.ref p] ∧ H p = some (.lst (ns.map V.bl)) ∧ g ns Qd := by
  unfold fBools at h
  split at h
  · obtain ⟨v, rfl, r⟩ := vlsr1 rx
    split at h
    · rename_i ns ex
      obtain ⟨ds, e1, e2⟩ := Option.bind_eq_some_iff.mp ex
      obtain ⟨p, vs, rfl, sq, r⟩ := r.seq b e1
      rw [oAll_map dbool_eq e2] at r
      have z := r.bools
      subst z
      exact ⟨p, ns, rfl, sq.1, h⟩
    · exact h.elim
  · exact h.elim
def gAll : List Bool → (Sl → Prop) → Prop := fun bs Qd => Qd (.d (.bool (bs.all id)))
def gAny : List Bool → (Sl → Prop) → Prop := fun bs Qd => Qd (.d (.bool (bs.any id)))
def gSum : List Int → (Sl → Prop) → Prop := fun ns Qd => Qd (.d (.int ns.sum))
def gMax : List Int → (Sl → Prop) → Prop := fun ns Qd => 0 < ns.length ∧ ∀ m, m ∈ ns → (∀ y, y ∈ ns → y ≤ m) → Qd (.d (.int m))
def gMin : List Int → (Sl → Prop) → Prop := fun ns Qd => 0 < ns.length ∧ ∀ m, m ∈ ns → (∀ y, y ∈ ns → m ≤ y) → Qd (.d (.int m))
def gSort : List Int → (Sl → Prop) → Prop := fun ns Qd => ns.length < 64 ∧ ∀ ns' : List Int, ns'.Perm ns → ns'.Pairwise (· ≤ ·) → Qd (.ml (ns'.map PyData.int))
instance : RefC K (rAll K) (fBools gAll) := ⟨fun W A H0 H xs ss Qd Q b f i rx h w => by
  obtain ⟨p, ns, rfl, e, q⟩ := fBools_go b rx h
  exact ⟨p, ns, rfl, SqL.of e, w.here i _ q⟩⟩
instance : RefC K (rAny K) (fBools gAny) := ⟨fun W A H0 H xs ss Qd Q b f i rx h w => by
  obtain ⟨p, ns, rfl, e, q⟩ := fBools_go b rx h
  exact ⟨p, ns, rfl, SqL.of e, w.here i _ q⟩⟩
instance : RefC K (rSum K) (fInts gSum) := ⟨fun W A H0 H xs ss Qd Q b f i rx h w => by
  obtain ⟨p, ns, rfl, e, q⟩ := fInts_go b rx h
  exact ⟨p, ns, rfl, SqL.of e, w.here i _ q⟩⟩
instance : RefC K (rMax K) (fInts gMax) := ⟨fun W A H0 H xs ss Qd Q b f i rx h w => by
  obtain ⟨p, ns, rfl, e, q0, q⟩ := fInts_go b rx h
  exact ⟨p, ns, rfl, SqL.of e, q0, fun m h1 h2 => w.here i _ (q m h1 h2)⟩⟩
instance : RefC K (rMin K) (fInts gMin) := ⟨fun W A H0 H xs ss Qd Q b f i rx h w => by
  obtain ⟨p, ns, rfl, e, q0, q⟩ := fInts_go b rx h
  exact ⟨p, ns, rfl, SqL.of e, q0, fun m h1 h2 => w.here i _ (q m h1 h2)⟩⟩
instance : RefC K (rSorted K) (fInts gSort) := ⟨fun W A H0 H xs ss Qd Q b f i rx h w => by
  obtain ⟨p, ns, rfl, e, q0, q⟩ := fInts_go b rx h
  exact ⟨p, ns, rfl, SqL.of e, q0, fun ns' p' h1 h2 n => Want.lst (b.fr f i) w (.of_ints ns') (q ns' h1 h2) p' n⟩⟩
/-- max(m, n), min(m, n), abs -/
def f2I (g : Int → Int → Int) : List Sl → (Sl → Prop) → Prop := fun ss Qd => match ss with
  | [.d (.int i), .d (.int j)] => Qd (.d (.int (g i j)))
  | _ => False
instance : RefC K (fun xs H Q => ∃ i j, xs = [.int i, .int j] ∧ Q (.int (if j > i then j else i)) H) (f2I fun i j => if j > i then j else i) := ⟨fun W A H0 H xs ss Qd Q b f i rx h w => by
  unfold f2I at h
  split at h
  · rename_i m n
    obtain ⟨v, u, rfl, r, r'⟩ := vlsr2 rx
    obtain rfl := r.flat (u := .int m) rfl
    obtain rfl := r'.flat (u := .int n) rfl
    exact ⟨m, n, rfl, w.here i _ h⟩
  · exact h.elim⟩
instance : RefC K (fun xs H Q => ∃ i j, xs = [.int i, .int j] ∧ Q (.int (if j < i then j else i)) H) (f2I fun i j => if j < i then j else i) := ⟨fun W A H0 H xs ss Qd Q b f i rx h w => by
  unfold f2I at h
  split at h
  · rename_i m n
    obtain ⟨v, u, rfl, r, r'⟩ := vlsr2 rx
    obtain rfl := r.flat (u := .int m) rfl
    obtain rfl := r'.flat (u := .int n) rfl
    exact ⟨m, n, rfl, w.here i _ h⟩
  · exact h.elim⟩
/-- int(x) of an int, a truth; str(n) -/
def fInt : List Sl → (Sl → Prop) → Prop := fun ss Qd => match ss with
  | [.d (.int i)] => Qd (.d (.int i))
  | [.d (.bool k)] => Qd (.d (.int (if k then 1 else 0)))
  | _ => False
instance : RefC K (fun xs H Q => (∃ i, xs = [.int i] ∧ Q (.int i) H) ∨ ∃ k, xs = [.bl k] ∧ Q (.int (if k then 1 else 0)) H) fInt := ⟨fun W A H0 H xs ss Qd Q b f i rx h w => by
  unfold fInt at h
  split at h
  · rename_i m
    obtain ⟨v, rfl, r⟩ := vlsr1 rx
    obtain rfl := r.flat (u := .int m) rfl
    exact .inl ⟨m, rfl, w.here i _ h⟩
  · rename_i m
    obtain ⟨v, rfl, r⟩ := vlsr1 rx
    obtain rfl := r.flat (u := .bl m) rfl
    exact .inr ⟨m, rfl, w.here i _ h⟩
  · exact h.elim⟩
def fStr : List Sl → (Sl → Prop) → Prop := fun ss Qd => match ss with
  | [.d (.int i)] => i.natAbs.log2 < 1920 ∧ Qd (.d (.str (toString i)))
  | _ => False
instance : RefC K (fun xs H Q => ∃ i, xs = [.int i] ∧ i.natAbs.log2 < 1920 ∧ Q (.str (toString i)) H) fStr := ⟨fun W A H0 H xs ss Qd Q b f i rx h w => by
  unfold fStr at h
  split at h
  · rename_i m
    obtain ⟨v, rfl, r⟩ := vlsr1 rx
    obtain rfl := r.flat (u := .int m) rfl
    exact ⟨m, rfl, h.1, w.here i _ h.2⟩
  · exact h.elim⟩
/-- list(x), tuple(x) -/
def fList : List Sl → (Sl → Prop) → Prop := fun ss Qd => match ss with
  | [s] => (match s.sq with
    | some xs => Qd (.ml xs)
    | none => False)
  | _ => False
instance : RefC K (fun xs H Q => ∃ p ys, xs = [.ref p] ∧ (SqL K H p ys ∨ SqT K H p ys) ∧ ∀ l, H l = none → Q (.ref l) (upd H l (.lst ys))) fList := ⟨fun W A H0 H xs ss Qd Q b f i rx h w => by
  unfold fList at h
  split at h
  · obtain ⟨v, rfl, r⟩ := vlsr1 rx
    split at h
    · rename_i xs ex
      obtain ⟨p, vs, rfl, sq, r⟩ := r.sq b i ex
      exact ⟨p, vs, rfl, sq, Want.lst (b.fr f i) w r h⟩
    · exact h.elim
  · exact h.elim⟩
def fTuple : List Sl → (Sl → Prop) → Prop := fun ss Qd => match ss with
  | [s] => (match s.sq with
    | some xs => Qd (.d (.tuple xs))
    | none => False)
  | _ => False
instance : RefC K (fun xs H Q => ∃ p ys, xs = [.ref p] ∧ ((SqL K H p ys ∧ ∀ l, H l = none → Q (.ref l) (upd H l (.tup ys))) ∨ (SqT K H p ys ∧ Q (.ref p) H))) fTuple := ⟨fun W A H0 H xs ss Qd Q b f i rx h w => by
  unfold fTuple at h
  split at h
  · obtain ⟨v, rfl, r⟩ := vlsr1 rx
    rename_i s
    have tup : ∀ ys, s.seq = some ys → s.sq = some ys → Qd (.d (.tuple ys)) → ∃ p zs, [v] = [.ref p] ∧ ((SqL K H p zs ∧ ∀ l, H l = none → Q (.ref l) (upd H l (.tup zs))) ∨ (SqT K H p zs ∧ Q (.ref p) H)) := fun ys e1 _ q => by
      obtain ⟨p, vs, rfl, sq, r⟩ := r.seq b e1
      exact ⟨p, vs, rfl, .inl ⟨sqLA_sq sq, Want.tup (b.fr f i) w r q⟩⟩
    split at h
    · rename_i xs ex
      cases s with
      | d x =>
        cases x with
        | tuple ys =>
          obtain rfl : ys = xs := Option.some.inj ex
          have r' : Rp K A H v (.tuple ys) := r
          obtain ⟨p, vs, rfl, sq, _⟩ := Rp.tup_ r'
          exact ⟨p, vs, rfl, .inr ⟨sq, w _ H (.d (.tuple ys)) (Fr.refl H) i r' h⟩⟩
        | list ys =>
          obtain rfl : ys = xs := Option.some.inj ex
          exact tup ys rfl rfl h
        | _ => cases ex
      | ml ys =>
        obtain rfl : ys = xs := Option.some.inj ex
        exact tup ys rfl rfl h
      | bl ys =>
        obtain rfl : ys = xs := Option.some.inj ex
        exact tup ys rfl rfl h
      | scr ns =>
        obtain rfl : ns.map PyData.int = xs := Option.some.inj ex
        obtain ⟨a, rfl, q⟩ := r
        exact ⟨a, _, rfl, .inl ⟨q H i, Want.tup (b.fr f i) w (.of_ints ns) h⟩⟩
      | _ => cases ex
    · exact h.elim
  · exact h.elim⟩
/-! ### a list of one's own grows, is set -/
theorem own_here {W : Wld τ} {A : Addr → Prop} {H : Hp} {p : Addr} {s : Sl} (h : SlR K W A H (some (.ref p)) s) (k : s.isOwn) : ∃ ho, H p = some ho ∧ Mb ho ∧ ¬ W.B p ∧ A p := by
  cases s with
  | ml xs =>
    obtain ⟨q, vs, e, e1, n, a, _⟩ := h
    cases e
    exact ⟨_, e1, .lst _, n, a⟩
  | mo o =>
    obtain ⟨q, ho, e, e1, n, a, r⟩ := h
    cases e
    exact ⟨_, e1, r.mb, n, a⟩
  | _ => exact k.elim
theorem Cor.mutO {W0 W : Wld τ} {A0 A : Addr → Prop} {H0 H : Hp} {σ gσ : L2.St} {ρ gρ : List Sl} (c : Cor K W0 A0 H0 W A H σ ρ gσ gρ) {i : Nat} {p : Addr} {s0 s1 : Sl} {ho : HO} (e : ρ[i]? = some s0) (k0 : s0.isOwn) (ev : σ[i]? = some (some (.ref p))) (mb : Mb ho)
    (r : Goes A A H (upd H p ho) → ¬ W.B p → A p → SlR K W A (upd H p ho) (some (.ref p)) s1) :
    Cor K W0 A0 H0 W A (upd H p ho) σ (ρ.set i s1) gσ gρ := by
  have hi := (List.getElem?_eq_some_iff.mp e).1
  have eA : (ρ ++ gρ)[i]? = some s0 := by rw [List.getElem?_append_left hi]; exact e
  have eS : (σ ++ gσ)[i]? = some (some (.ref p)) := by rw [List.getElem?_append_left (by rw [c.lg]; exact hi)]; exact ev
  obtain ⟨v, ev', q0⟩ := c.env.at_ _ _ eA
  rw [eS] at ev'
  cases ev'
  obtain ⟨h0, e2, mb0, nB, aP⟩ := own_here q0 k0
  have n0 := c.new i p s0 e k0 ev
  have g : Goes A A H (upd H p ho) := fun b o eb _ nb => ⟨(upd_ne fun (z : b = p) => nb (by rw [z]; exact aP)).trans eb, nb⟩
  refine ⟨c.wl, c.a0, ⟨c.bs.ba, fun a z => ?_, W.own H p h0 ho c.bs.inv e2 mb0 mb nB⟩, ⟨fun b o eb t nb => ?_, fun b hb => ?_⟩, ?_, by rw [List.length_set, c.lg], fun j q t f1 f0 f2 => ?_⟩
  · by_cases h : a = p
    · subst h
      exact ⟨_, upd_same, mb.nt⟩
    · obtain ⟨o, e1, t1⟩ := c.bs.dom a z
      exact ⟨o, (upd_ne h).trans e1, t1⟩
  · rw [upd_ne (ne_nob eb t n0)]
    exact c.fr.1 b o eb t nb
  · by_cases h : b = p
    · subst h
      exact ⟨_, upd_same, mb.nt⟩
    · obtain ⟨o, e1, t1⟩ := c.fr.2 b hb
      exact ⟨o, (upd_ne h).trans e1, t1⟩
  · rw [set_app hi]
    refine ⟨by rw [List.length_set]; exact c.env.len, fun j s ej => ?_, fun j k q t s ne f1 f0 f2 f3 f4 f5 => ?_⟩
    · rcases get_set ej with ⟨rfl, rfl, _⟩ | ⟨nj, ej⟩
      · exact ⟨_, eS, r g nB aP⟩
      · obtain ⟨w, ew, q⟩ := c.env.at_ j s ej
        refine ⟨w, ew, ?_⟩
        have far : s.foot → ∀ q' : Addr, w = some (.ref q') → q' ≠ p := fun hf q' e1 z => by
          subst z
          subst e1
          exact c.env.dis i j q' _ _ nj eA k0 ej hf eS ew
        cases s with
        | un => exact q
        | d x =>
          obtain ⟨u, e1, r1⟩ := q
          exact ⟨u, e1, r1.go g⟩
        | ml zs =>
          obtain ⟨q', ws, f1, f2, f3, f4, f5⟩ := q
          exact ⟨q', ws, f1, (upd_ne (far trivial q' f1)).trans f2, f3, f4, f5.go g⟩
        | bl zs =>
          obtain ⟨q', ws, f1, f2, f3⟩ := q
          exact ⟨q', ws, f1, ⟨(upd_ne (far trivial q' f1)).trans f2.1, f2.2⟩, f3.go g⟩
        | st => exact q
        | scr ns => exact q
        | raw u => exact q
        | mo o =>
          obtain ⟨q', ws, f1, f2, f3, f4, f5⟩ := q
          exact ⟨q', ws, f1, (upd_ne (far trivial q' f1)).trans f2, f3, f4, f5.go g⟩
        | bo o =>
          obtain ⟨q', ws, f1, f2, f3, f4⟩ := q
          exact ⟨q', ws, f1, (upd_ne (far trivial q' f1)).trans f2, f3, f4.go g⟩
    · rcases get_set f1 with ⟨rfl, z, _⟩ | ⟨n1, f1⟩
      · rcases get_set f2 with ⟨z2, _, _⟩ | ⟨n2, f2⟩
        · exact ne z2
        · exact c.env.dis i k q s0 s ne eA k0 f2 f3 f4 f5
      · rcases get_set f2 with ⟨rfl, z, _⟩ | ⟨n2, f2⟩
        · exact c.env.dis j i q t _ ne f1 f0 eA (own_foot k0) f4 f5
        · exact c.env.dis j k q t s ne f1 f0 f2 f3 f4 f5
  · rcases get_set f1 with ⟨rfl, z, _⟩ | ⟨nj, f1⟩
    · exact c.new i q s0 e k0 f2
    · exact c.new j q t f1 f0 f2
theorem Cor.mut {W0 W : Wld τ} {A0 A : Addr → Prop} {H0 H : Hp} {σ gσ : L2.St} {ρ gρ : List Sl} (c : Cor K W0 A0 H0 W A H σ ρ gσ gρ) {i : Nat} {p : Addr} {xs ys : List PyData} {us : List V} (e : ρ[i]? = some (.ml xs)) (ev : σ[i]? = some (some (.ref p))) (r : RpAll K A H us ys) :
    Cor K W0 A0 H0 W A (upd H p (.lst us)) σ (ρ.set i (.ml ys)) gσ gρ := c.mutO (s1 := .ml ys) e trivial ev (.lst us) fun g nB aP => ⟨p, us, rfl, upd_same, nB, aP, r.go g⟩
theorem Cor.own_at {W0 W : Wld τ} {A0 A : Addr → Prop} {H0 H : Hp} {σ gσ : L2.St} {ρ gρ : List Sl} (c : Cor K W0 A0 H0 W A H σ ρ gσ gρ) {i : Nat} {xs : List PyData} (e : ρ[i]? = some (.ml xs)) : ∃ p vs, σ[i]? = some (some (.ref p)) ∧ H p = some (.lst vs) ∧ ¬ W.B p ∧ RpAll K A H vs xs := by
  have hi := (List.getElem?_eq_some_iff.mp e).1
  obtain ⟨v, ev', p', vs, e1, e2, nB, aP, r0⟩ := (c.env.pre c.lg).at_ _ _ e
  subst e1
  exact ⟨p', vs, ev', e2, nB, r0⟩
/-- xs.append(e) -/
def dApp (i : Nat) (fe : TD) : TDS := fun dd R ρ => match (ρ[i]?).getD .un with
  | .ml xs => fe ρ (fun s => xs.length < sizeLine ∧ match s.dat with
    | some y => dd.nx (ρ.set i (.ml (xs ++ [y])))
    | none => False) R
  | _ => False
theorem own_iff {ρ : List Sl} {i : Nat} {P : List PyData → Prop} (h : (match (ρ[i]?).getD .un with
  | .ml xs => P xs
  | _ => False)) : ∃ xs, ρ[i]? = some (.ml xs) ∧ P xs := by
  cases e : ρ[i]? with
  | none =>
    rw [e] at h
    exact h.elim
  | some s =>
    rw [e] at h
    cases s with
    | ml xs => exact ⟨xs, rfl, h⟩
    | _ => exact h.elim
instance {i : Nat} {t : TE} {f : TD} [ht : RefE K τ E t f] : RefS K τ E (tDrop (tBM K "list" rAppend (tVar i) (tCons t tNil))) (dApp i f) := ⟨fun W A0 H0 D dd R H σ ρ gσ gρ b sr er ek h => by
  obtain ⟨W', A, c⟩ := sr
  obtain ⟨xs, e, q⟩ := own_iff (P := fun xs => f ρ (fun s => xs.length < sizeLine ∧ match s.dat with
    | some y => dd.nx (ρ.set i (.ml (xs ++ [y])))
    | none => False) R) h
  obtain ⟨p, vs, ev, ep, nB, r0⟩ := c.own_at e
  refine ⟨.ref p, ev, .inl ⟨rfl, _, SqL.of ep⟩, ?_⟩
  refine ht.go W' A H σ ρ _ R _ (c.at_ ek) q fun v H1 s f1 i1 r1 q1 => ?_
  obtain ⟨hs, q1⟩ := q1
  obtain ⟨y, ey, q2⟩ := dat_iff (P := fun y => dd.nx (ρ.set i (.ml (xs ++ [y])))) q1
  have c1 := c.step f1 i1
  have r1' := r0.go (goes_fr c.bs.ba f1)
  refine ⟨p, vs, v, rfl, rfl, f1.1 _ _ ep nt_lst nB, by rw [r0.length]; exact hs, ?_⟩
  exact er.nx _ _ _ ⟨W', A, c1.mut e ev (r1'.append (.one (r1.dat c.bs ey)))⟩ q2⟩
/-- xs[k] = e -/
def dSetI (i : Nat) (fe fk : TD) : TDS := fun dd R ρ => fe ρ (fun s => match (ρ[i]?).getD .un with
  | .ml xs => fk ρ (fun u => match s.dat, u with
    | some y, .d (.int k) => (match ixN xs.length k with
      | some j => dd.nx (ρ.set i (.ml (xs.set j y)))
      | none => False)
    | _, _ => False) R
  | _ => False) R
instance {i : Nat} {t tk : TE} {f fk : TD} [ht : RefE K τ E t f] [hk : RefE K τ E tk fk] : RefS K τ E (tAsg t (gSub (tVar i) tk rSetL)) (dSetI i f fk) := ⟨fun W A0 H0 D dd R H σ ρ gσ gρ b sr er ek h => by
  obtain ⟨W', A, c⟩ := sr
  refine ht.go W' A H σ ρ _ R _ (c.at_ ek) h fun v H1 s f1 i1 r1 q1 => ?_
  obtain ⟨xs, e, q⟩ := own_iff (P := fun xs => fk ρ (fun u => match s.dat, u with
    | some y, .d (.int k) => (match ixN xs.length k with
      | some j => dd.nx (ρ.set i (.ml (xs.set j y)))
      | none => False)
    | _, _ => False) R) q1
  have c1 := c.step f1 i1
  obtain ⟨p, vs, ev, ep, nB, r0⟩ := c1.own_at e
  refine ⟨.ref p, ev, ?_⟩
  refine hk.go W' A H1 σ ρ _ R _ (c1.at_ ek) q fun u H2 s2 f2 i2 r2 q2 => ?_
  have c2 := c1.step f2 i2
  split at q2
  · rename_i y k ey
    split at q2
    · rename_i j ej
      have ry := ((r1.early (Fr.refl H)).fr c.bs f2).dat c.bs ey
      exact ⟨p, vs, k, j, rfl, r2.flat (u := .int k) rfl, f2.1 _ _ ep nt_lst nB, by rw [r0.length]; exact ej, er.nx _ _ _ ⟨W', A, c2.mut e ev ((r0.go (goes_fr c1.bs.ba f2)).set ry j)⟩ q2⟩
    · exact q2.elim
  · exact q2.elim⟩
/-- x += e of ints -/
def dAug (i : Nat) (fe : TD) (g : Int → Int → Int) : TDS := fun dd R ρ => match (ρ[i]?).getD .un with
  | .d (.int m) => fe ρ (fun s => match s with
    | .d (.int n) => dd.nx (ρ.set i (.d (.int (g m n))))
    | _ => False) R
  | _ => False
instance {i : Nat} {t : TE} {f : TD} {g : Int → Int → Int} [ht : RefE K τ E t f] : RefS K τ E (tAug i t (ipI g)) (dAug i f g) := ⟨fun W A0 H0 D dd R H σ ρ gσ gρ b sr er ek h => by
  obtain ⟨W', A, c⟩ := sr
  unfold dAug at h
  split at h
  · rename_i m em
    have e : ρ[i]? = some (.d (.int m)) := by
      cases z : ρ[i]? with
      | none =>
        rw [z] at em
        cases em
      | some s =>
        rw [z] at em
        exact congrArg some em
    obtain ⟨v, ev, u, e1, r⟩ := (c.env.pre c.lg).at_ _ _ e
    subst e1
    cases r
    refine ⟨_, ev, ?_⟩
    refine ht.go W' A H σ ρ _ R _ (c.at_ ek) h fun v H1 s f1 i1 r1 q1 => ?_
    split at q1
    · rename_i n
      obtain rfl := r1.flat (u := .int n) rfl
      exact ⟨m, n, rfl, rfl, er.nx _ _ _ ⟨W', A, (c.step f1 i1).set (s := .d (.int (g m n))) trivial ⟨_, rfl, .int _⟩⟩ q1⟩
    · exact q1.elim
  · exact h.elim⟩
/-! ### while -/
def dWhile (c : TDT) (g : TDS) : TDS := fun dd R ρ => ∃ I : Nat → List Sl → Prop, (∃ m, I m ρ) ∧ ∀ m ρ, I m ρ → c ρ (fun b => match b with
  | true => g { dd with nx := fun ρ' => ∃ m', m' < m ∧ I m' ρ', ct := fun ρ' => ∃ m', m' < m ∧ I m' ρ', bk := dd.nx } R ρ
  | false => dd.nx ρ) R
instance {c : TT} {t : TS} {fc : TDT} {g : TDS} [hc : RefT K τ E c fc] [ht : RefS K τ E t g] : RefS K τ E (tWhile c t) (dWhile fc g) := ⟨fun W A0 H0 D dd R H σ ρ gσ gρ b sr er ek h => by
  obtain ⟨I, ⟨m, im⟩, h⟩ := h
  refine ⟨fun m σ H => ∃ ρ, SR K W A0 H0 H σ ρ gσ gρ ∧ I m ρ, ⟨m, ρ, sr, im⟩, fun m σ H ⟨ρ, sr, im⟩ => ?_⟩
  obtain ⟨W', A, co⟩ := sr
  refine hc.go W' A H σ ρ _ R _ (co.at_ ek) (h m ρ im) fun k H1 f1 i1 q => ?_
  have s1 : SR K W A0 H0 H1 σ ρ gσ gρ := ⟨W', A, co.step f1 i1⟩
  cases k with
  | true =>
    refine iteT ⟨fun σ' H' => ∃ ρ', SR K W A0 H0 H' σ' ρ' gσ gρ ∧ ∃ m', m' < m ∧ I m' ρ', fun σ' H' ⟨ρ', s', m', l, z⟩ => ⟨m', l, ρ', s', z⟩, ?_⟩
    exact ht.go W A0 H0 _ { dd with nx := fun ρ' => ∃ m', m' < m ∧ I m' ρ', ct := fun ρ' => ∃ m', m' < m ∧ I m' ρ', bk := dd.nx } R H1 σ ρ gσ gρ b s1 ⟨fun H2 σ2 ρ2 s2 z => ⟨ρ2, s2, z⟩, er.rt, fun H2 σ2 ρ2 s2 z => er.nx H2 σ2 ρ2 s2 z, fun H2 σ2 ρ2 s2 z => ⟨ρ2, s2, z⟩⟩ ek q
  | false => exact iteF (er.nx H1 σ ρ s1 q)⟩
end
end Dl

namespace Dl
open PySem PySem.Spec PyProof.Rows L2
section
variable {K : PySem.W.Frag} {E : XK}
/-! ### what a def promises, by data -/
abbrev SpD := List Sl → (Sl → Prop) → (Er → Prop) → Prop
/-- what may be handed in -/
def Sl.arg : Sl → Prop
  | .un => False
  | .ml _ => False
  | .mo _ => False
  | _ => True
def cv : Bool → Sl → Sl
  | true, .d (.list xs) => .bl xs
  | true, .ml xs => .bl xs
  | false, .ml xs => .d (.list xs)
  | _, .mo o => .bo o
  | _, s => s
def cvs : List Bool → List Sl → List Sl
  | _, [] => []
  | [], s :: ss => cv false s :: cvs [] ss
  | m :: ms, s :: ss => cv m s :: cvs ms ss
/-- by data: in some world that stands; ms tells which lists are but read -/
def spD (K : PySem.W.Frag) (ms : List Bool) (sp : SpD) : Sp := fun vs H Q E => ∃ (τ : List (Addr × Str)) (W : Wld τ) (A : Addr → Prop) (ss : List Sl) (Qd : Sl → Prop) (R : Er → Prop), Bs W A H ∧ VlsR K W A H H vs ss ∧ (∀ s ∈ ss, s.arg) ∧ sp ss Qd R ∧ Want K W A H Qd Q ∧ ErK K W A E H R
theorem VlR.cv {W : Wld τ} {A : Addr → Prop} {H0 H : Hp} {v : V} {s : Sl} (m : Bool) (b : Bs W A H0) (h : VlR K W A H0 H v s) : VlR K W A H H v (Dl.cv m s) ∧ (Dl.cv m s).arg := by
  cases s with
  | un => exact h.elim
  | d x =>
    cases m with
    | false => exact ⟨h, trivial⟩
    | true =>
      cases x with
      | list xs =>
        obtain ⟨p, vs, rfl, sq, r⟩ := h.seq b rfl
        exact ⟨⟨p, vs, rfl, sq, r⟩, trivial⟩
      | _ => exact ⟨h, trivial⟩
  | ml xs =>
    cases m with
    | false => exact ⟨h.dat b rfl, trivial⟩
    | true =>
      obtain ⟨p, vs, rfl, sq, r⟩ := h.seq b rfl
      exact ⟨⟨p, vs, rfl, sq, r⟩, trivial⟩
  | bl xs => cases m <;> exact ⟨h, trivial⟩
  | st => cases m <;> exact ⟨h, trivial⟩
  | scr ns => cases m <;> exact ⟨h, trivial⟩
  | raw u => cases m <;> exact ⟨h, trivial⟩
  | mo o =>
    obtain ⟨p, ho, e, n, e1, r⟩ := h
    cases m <;> exact ⟨⟨p, ho, e, e1, b.nB n, r.go (goes_less fun a z => .inl z)⟩, trivial⟩
  | bo o => cases m <;> exact ⟨h, trivial⟩
theorem VlsR.cvs {W : Wld τ} {A : Addr → Prop} {H0 H : Hp} {vs : List V} {ss : List Sl} (b : Bs W A H0) (h : VlsR K W A H0 H vs ss) : ∀ ms : List Bool, VlsR K W A H H vs (Dl.cvs ms ss) ∧ ∀ s ∈ Dl.cvs ms ss, s.arg := by
  induction h with
  | nil =>
    intro ms
    cases ms <;> exact ⟨.nil, fun _ h => by cases h⟩
  | @cons v vs s ss h1 h2 ih =>
    intro ms
    cases ms with
    | nil =>
      obtain ⟨a, c⟩ := h1.cv false b
      obtain ⟨a', c'⟩ := ih []
      exact ⟨.cons a a', fun s hs => by
        rcases List.mem_cons.mp hs with rfl | hs
        · exact c
        · exact c' s hs⟩
    | cons m ms =>
      obtain ⟨a, c⟩ := h1.cv m b
      obtain ⟨a', c'⟩ := ih ms
      exact ⟨.cons a a', fun s hs => by
        rcases List.mem_cons.mp hs with rfl | hs
        · exact c
        · exact c' s hs⟩
def dCall (ms : List Bool) (sp : SpD) (fa : TDA) : TD := fun ρ Qd R => fa ρ (fun ss => sp (cvs ms ss) Qd R) R
def dCall0 (ms : List Bool) (sp : SpD) (fa : TDA) : TD := fun ρ Qd R => fa ρ (fun ss => sp (cvs ms ss) Qd fun _ => False) R
instance {ms : List Bool} {sp : SpD} {t : TA} {fa : TDA} [ha : RefA K τ E t fa] : RefE K τ E (tCall (spD K ms sp) [] E0 t) (dCall0 ms sp fa) := ⟨fun W A H σ ρ Qd R Q a h w => by
  refine ha.go W A H σ ρ _ R _ a h fun vs H1 ss f1 i1 r1 q => ?_
  obtain ⟨r2, ar⟩ := r1.cvs a.bs ms
  rw [List.append_nil]
  exact ⟨τ, W, A, _, Qd, _, a.bs.fr f1 i1, r2, ar, q, w.back f1, fun er x H' f i z r => r.elim⟩⟩
instance (priority := low) {ms : List Bool} {sp : SpD} {t : TA} {fa : TDA} [ha : RefA K τ E t fa] : RefE K τ E (tCall (spD K ms sp) [] E t) (dCall ms sp fa) := ⟨fun W A H σ ρ Qd R Q a h w => by
  refine ha.go W A H σ ρ _ R _ a h fun vs H1 ss f1 i1 r1 q => ?_
  obtain ⟨r2, ar⟩ := r1.cvs a.bs ms
  rw [List.append_nil]
  exact ⟨τ, W, A, _, Qd, R, a.bs.fr f1 i1, r2, ar, q, w.back f1, (a.fr f1 i1).er⟩⟩
/-! ### a def, by its body -/
def startD (N : List Str) (ss : List Sl) : List Sl := ss ++ List.replicate (N.length - ss.length) .un
/-- what is left to be shown of a def's body -/
def Reads (K : PySem.W.Frag) (E : XK) (t : TS) (N : List Str) (sp : SpD) : Prop := ∃ g, (∀ τ, RefS K τ E t g) ∧ ∀ ss Qd R, sp ss Qd R → g { nx := fun _ => Qd (.d .none), rt := Qd } R (startD N ss)
theorem env_start {W : Wld τ} {A : Addr → Prop} {H : Hp} {N : List Str} {vs : List V} {ss : List Sl} (r : VlsR K W A H H vs ss) (ar : ∀ s ∈ ss, s.arg) : EnvR K W A H (L2.start N vs) (startD N ss) := by
  have hl := r.length
  have noml : ∀ {i : Nat} {s : Sl}, (startD N ss)[i]? = some s → s.isOwn → False := fun {i s} e k => by
    have := List.mem_of_getElem? e
    rcases List.mem_append.mp this with z | z
    · have := ar _ z
      cases s <;> first | exact this | exact k
    · rw [(List.mem_replicate.mp z).2] at k
      exact k
  refine ⟨?_, fun i s e => ?_, fun i j p t s ne e1 e0 _ _ _ _ => noml e1 e0⟩
  · unfold L2.start startD
    rw [List.length_append, List.length_append, List.length_map, List.length_replicate, List.length_replicate, hl]
  · unfold startD at e
    unfold L2.start
    by_cases hi : i < ss.length
    · rw [List.getElem?_append_left hi] at e
      have hi' : i < (vs.map some).length := by rw [List.length_map, hl]; exact hi
      rw [List.getElem?_append_left hi', List.getElem?_map]
      have get : ∀ {vs : List V} {ss : List Sl} {i : Nat} {s : Sl}, VlsR K W A H H vs ss → ss[i]? = some s → ∃ v, vs[i]? = some v ∧ VlR K W A H H v s := by
        intro vs ss i s r
        induction r generalizing i with
        | nil => intro e; simp at e
        | cons a _ ih =>
          intro e
          cases i with
          | zero => simp at e; subst e; exact ⟨_, rfl, a⟩
          | succ i => simp at e; obtain ⟨v, h1, h2⟩ := ih e; exact ⟨v, by simpa using h1, h2⟩
      obtain ⟨v, ev, rv⟩ := get r e
      rw [ev]
      refine ⟨some v, rfl, ?_⟩
      have hs := ar s (List.mem_of_getElem? e)
      cases s with
      | un => exact hs.elim
      | ml xs => exact hs.elim
      | d x => exact ⟨v, rfl, rv⟩
      | bl xs =>
        obtain ⟨p, us, rfl, q⟩ := rv
        exact ⟨p, us, rfl, q⟩
      | st =>
        obtain ⟨z, rfl, q⟩ := rv
        exact ⟨z, rfl, q⟩
      | scr ns =>
        obtain ⟨z, rfl, q⟩ := rv
        exact ⟨z, rfl, q⟩
      | raw u =>
        obtain rfl := rv
        exact rfl
      | mo o => exact hs.elim
      | bo o =>
        obtain ⟨p, us, rfl, q⟩ := rv
        exact ⟨p, us, rfl, q⟩
    · rw [List.getElem?_append_right (by omega)] at e
      have hi2 : i - ss.length < N.length - ss.length := by
        have := (List.getElem?_eq_some_iff.mp e).1
        rwa [List.length_replicate] at this
      rw [List.getElem?_replicate, if_pos hi2] at e
      cases e
      refine ⟨none, ?_, trivial⟩
      rw [List.getElem?_append_right (by rw [List.length_map, hl]; omega), List.length_map, hl, List.getElem?_replicate, if_pos hi2]
theorem Reads.run {t : TS} {N : List Str} {sp : SpD} {ms : List Bool} (h : Reads K E t N sp) {vs : List V} {H : Hp} {Q : VK} (hs : spD K ms sp vs H Q E) : t { nx := fun _ H' => Q .non H', rt := Q } (L2.start N vs) H := by
  obtain ⟨g, hg, h⟩ := h
  obtain ⟨τ, W, A, ss, Qd, R, b, r, ar, q, w, ek⟩ := hs
  have env := env_start (N := N) r ar
  refine (hg τ).go W A H _ { nx := fun _ => Qd (.d .none), rt := Qd } R H _ _ [] [] b ⟨W, A, WLe.refl W H, fun _ z => z, b, Fr.refl H, by rw [List.append_nil, List.append_nil]; exact env, env.len, fun i p t e k _ => ?_⟩ ⟨fun H' σ ρ sr z => ?_, fun v H' s f i r z => w v H' s f i r z, fun H' σ ρ sr z => False.elim z, fun H' σ ρ sr z => False.elim z⟩ ek (h ss Qd R q)
  · have := List.mem_of_getElem? e
    rcases List.mem_append.mp this with z | z
    · have := ar _ z
      cases t <;> first | exact this.elim | exact k.elim
    · rw [(List.mem_replicate.mp z).2] at k
      exact k.elim
  · obtain ⟨W', A', c⟩ := sr
    exact w .non H' (.d .none) c.fr (c.wl.inv _ c.bs.inv) Rp.non z
theorem VlsR.len_sp {ms : List Bool} {sp : SpD} {n : Nat} (hl : ∀ ss Qd R, sp ss Qd R → ss.length = n) : ∀ vs H Q E, spD K ms sp vs H Q E → vs.length = n := fun vs H Q E ⟨τ, W, A, ss, Qd, R, b, r, ar, q, w, ek⟩ => by
  rw [r.length]
  exact hl ss Qd R q
end
section
variable {P : Program} {w : World} {K : PySem.W.Frag} {mg : Str → Option Value} {base : Heap}
theorem okD {x : Str} {st : Stmt} {f : Addr} {fd : FuncData} {N ps : List Str} {k : Nat} {ms : List Bool} {sp : SpD} (F : Fun K x x st f fd) (S : FnScope N ps (defScope st)) (hl : ∀ ss Qd R, sp ss Qd R → ss.length = ps.length)
    (body : ∀ (cdv : Value) (A : Around) (outer : List Env) (s : Shared) (H : Hp) (E : XK), Room k (A.deeper (envOfC x (defScope st) s.heap.objs.size f cdv)) → ∃ t, PSs (cxOf CX0 P w K mg base N x (defScope st) f cdv A outer s H E).nox (defBody st) t ∧ Reads K E t N sp) :
    FnOk P w K mg base CX0 (k + 1) f fd ps (spD K ms sp) :=
  F.ok S (VlsR.len_sp hl) fun cdv A outer s H vs Q E hr h => by
    obtain ⟨t, h1, h2⟩ := body cdv A outer s H E hr
    exact ⟨t, h1, h2.run h⟩
theorem okX {x : Str} {st : Stmt} {f : Addr} {fd : FuncData} {N ps : List Str} {k : Nat} {ms : List Bool} {sp : SpD} (F : Fun K x x st f fd) (S : FnScope N ps (defScope st)) (hl : ∀ ss Qd R, sp ss Qd R → ss.length = ps.length)
    (body : ∀ (cdv : Value) (A : Around) (outer : List Env) (s : Shared) (H : Hp) (E : XK), Room k (A.deeper (envOfC x (defScope st) s.heap.objs.size f cdv)) → ∃ t, PSs (cxOf (L2.CX P w) P w K mg base N x (defScope st) f cdv A outer s H E) (defBody st) t ∧ Reads K E t N sp) :
    FnOk P w K mg base (L2.CX P w) (k + 1) f fd ps (spD K ms sp) :=
  F.okX S (VlsR.len_sp hl) fun cdv A outer s H vs Q E hr h => by
    obtain ⟨t, h1, h2⟩ := body cdv A outer s H E hr
    exact ⟨t, h1, h2.run h⟩
/-- a def without raises keeps its promise where it is called as one with them -/
theorem spD_imp {ms : List Bool} {sp sp' : SpD} (h : ∀ ss Qd R, sp' ss Qd R → sp ss Qd R) : ∀ vs H Q E, spD K ms sp' vs H Q E → spD K ms sp vs H Q E := fun vs H Q E ⟨τ, W, A, ss, Qd, R, b, r, ar, q, w, ek⟩ => ⟨τ, W, A, ss, Qd, R, b, r, ar, h ss Qd R q, w, ek⟩
end
/-! ### raise -/
def tRaise (C : Addr) (E : XK) : TS := fun _ _ H => E (.ref C) none H
def dRaise (C : Addr) : TDS := fun _ R _ => R (C, [])
theorem ps_raiseD {X : Cx} {E : XK} {C : Addr} {e : Expr} {pos : Pos} (hc : X.calm = true) (tk : Takes X (fun cls d _ H => E cls d H)) (he : PMk X e (fun _ H Q => Q (.ref C) none H)) : PS X (.Raise (some e) none pos) (tRaise C E) := ps_raise hc tk he
instance {K : PySem.W.Frag} {E : XK} {C : Addr} : RefS K τ E (tRaise C E) (dRaise C) := ⟨fun W A0 H0 D dd R H σ ρ gσ gρ b sr er ek h => by
  obtain ⟨W', A, c⟩ := sr
  exact ek (C, []) none H c.fr (c.wl.inv _ c.bs.inv) (.inl ⟨rfl, rfl⟩) h⟩
/-! ### a test by truth -/
def tTru (K : PySem.W.Frag) (t : TE) : TT := fun σ H Q => t σ H fun x H' => ∃ k, TruV K x H' k ∧ Q k H'
theorem pt_tru {X : Cx} {a : Expr} {ta : TE} (ha : PE X a ta) (he : ∀ whole, isTrue a X.env whole = (do let v ← whole; standAt a.pos; holding [v] (truthy v))) : PT X a (tTru X.K ta) := pt_truth ha he
def truD : Sl → Option Bool
  | .d .none => some false
  | .d (.bool b) => some b
  | .d (.int i) => some (i != 0)
  | .d (.list xs) => some !xs.isEmpty
  | .d (.tuple xs) => some !xs.isEmpty
  | .ml xs => some !xs.isEmpty
  | .bl xs => some !xs.isEmpty
  | _ => none
def dTru (f : TD) : TDT := fun ρ Qd R => f ρ (fun s => match truD s with
  | some b => Qd b
  | none => False) R
theorem RpAll.empty {K : PySem.W.Frag} {A : Addr → Prop} {H : Hp} {vs : List V} {ds : List PyData} (h : RpAll K A H vs ds) : vs.isEmpty = ds.isEmpty := by
  cases h <;> rfl
instance {K : PySem.W.Frag} {E : XK} {t : TE} {f : TD} [ht : RefE K τ E t f] : RefT K τ E (tTru K t) (dTru f) := ⟨fun W A H σ ρ Qd R Q a h w => by
  refine ht.go W A H σ ρ _ R _ a h fun v H1 s f1 i1 r1 q => ?_
  split at q
  · rename_i b eb
    refine ⟨b, ?_, w b H1 f1 i1 q⟩
    have sq : ∀ xs : List PyData, s.seq = some xs → b = (!xs.isEmpty) → TruV K v H1 b := fun xs e1 e2 => by
      obtain ⟨p, vs, rfl, sq, r⟩ := r1.seq a.bs e1
      exact .inl ⟨vs, sqLA_sq sq, by rw [e2, r.empty]⟩
    cases s with
    | d x =>
      cases x with
      | none =>
        obtain rfl := r1.flat (u := .non) rfl
        exact (Option.some.inj eb).symm
      | bool c =>
        obtain rfl := r1.flat (u := .bl c) rfl
        exact (Option.some.inj eb).symm
      | int c =>
        obtain rfl := r1.flat (u := .int c) rfl
        exact (Option.some.inj eb).symm
      | list xs => exact sq xs rfl (Option.some.inj eb).symm
      | tuple xs =>
        obtain ⟨p, vs, rfl, s2, r⟩ := Rp.tup_ r1
        exact .inr (.inl ⟨vs, s2, by rw [← Option.some.inj eb, r.empty]⟩)
      | str x => cases eb
      | dict x => cases eb
    | ml xs => exact sq xs rfl (Option.some.inj eb).symm
    | bl xs => exact sq xs rfl (Option.some.inj eb).symm
    | _ => cases eb
  · exact q.elim⟩
end Dl

namespace Dl
open PySem PySem.Spec PyProof.Rows L2
section
variable {K : PySem.W.Frag} {E : XK}
/-! ### operators of several kinds -/
def rStrC : R2 := fun x y H Q => ∃ i j, x = .str i ∧ y = .str j ∧ i.length + j.length ≤ sizeLine ∧ Q (.str (i ++ j)) H
def rAddX (K : PySem.W.Frag) : R2 := fun x y H Q => rI0 (fun i j => .int (i + j)) x y H Q ∨ rCatA K x y H Q ∨ rCat x y H Q ∨ rStrC x y H Q
theorem op_addX {X : Cx} : OpR X (binaryOp .Add) (rAddX X.K) := op_add.or (op_catA.or (op_cat.or op_add_str))
def fAddX : Sl → Sl → (Sl → Prop) → Prop := fun s u Qd => match s, u with
  | .d (.int i), .d (.int j) => Qd (.d (.int (i + j)))
  | .d (.tuple xs), .d (.tuple ys) => xs.length + ys.length ≤ sizeLine ∧ Qd (.d (.tuple (xs ++ ys)))
  | .d (.str a), .d (.str b) => a.length + b.length ≤ sizeLine ∧ Qd (.d (.str (a ++ b)))
  | s, u => fCatL s u Qd
instance : Ref2 K (rAddX K) fAddX := ⟨fun W A H0 H x y s u Qd Q b f i rx ry h w => by
  unfold fAddX at h
  split at h
  · exact .inl ((inferInstance : Ref2 K (rI0 fun i j => .int (i + j)) _).go W A H0 H x y _ _ Qd Q b f i rx ry h w)
  · exact .inr (.inl ((inferInstance : Ref2 K (rCatA K) _).go W A H0 H x y _ _ Qd Q b f i rx ry h w))
  · rename_i a c
    exact .inr (.inr (.inr ⟨a, c, rx.flat (u := .str a) rfl, ry.flat (u := .str c) rfl, h.1, w.here i _ h.2⟩))
  · exact .inr (.inr (.inl ((inferInstance : Ref2 K rCat _).go W A H0 H x y _ _ Qd Q b f i rx ry h w)))⟩
def rMulX (K : PySem.W.Frag) : R2 := fun x y H Q => rI CMul (fun i j => .int (i * j)) x y H Q ∨ rRep x y H Q
theorem op_mulX {X : Cx} : OpR X (binaryOp .Mult) (rMulX X.K) := op_mul.or op_rep
def fMulX : Sl → Sl → (Sl → Prop) → Prop := fun s u Qd => match s, u with
  | .d (.int i), .d (.int j) => CMul i j ∧ Qd (.d (.int (i * j)))
  | s, u => fRep s u Qd
instance : Ref2 K (rMulX K) fMulX := ⟨fun W A H0 H x y s u Qd Q b f i rx ry h w => by
  unfold fMulX at h
  split at h
  · exact .inl ((inferInstance : Ref2 K (rI CMul fun i j => .int (i * j)) _).go W A H0 H x y _ _ Qd Q b f i rx ry h w)
  · exact .inr ((inferInstance : Ref2 K rRep _).go W A H0 H x y _ _ Qd Q b f i rx ry h w)⟩
def fIx : Sl → Sl → (Sl → Prop) → Prop := fun s u Qd => match s with
  | .d (.tuple xs) => fIxT (.d (.tuple xs)) u Qd
  | s => fIxL s u Qd
instance : Ref2 K (rIx K) fIx := ⟨fun W A H0 H x y s u Qd Q b f i rx ry h w => by
  unfold fIx at h
  split at h
  · exact .inr (.inl ((inferInstance : Ref2 K (rIxT K) _).go W A H0 H x y _ _ Qd Q b f i rx ry h w))
  · exact .inl ((inferInstance : Ref2 K (rIxL K) _).go W A H0 H x y _ _ Qd Q b f i rx ry h w)⟩
def rSlX (K : PySem.W.Frag) : V → Option Int → Option Int → Hp → VK → Prop := fun x lo hi H Q => rSlA K x lo hi H Q ∨ rSlL K x lo hi H Q
theorem sl_any {X : Cx} : L2.SlR X (rSlX X.K) := sl_tupA.or sl_list
def fSlX : Sl → Option Int → Option Int → (Sl → Prop) → Prop := fun s lo hi Qd => match s with
  | .d (.tuple xs) => Qd (.d (.tuple (cutD xs lo hi)))
  | s => fSlL s lo hi Qd
instance : RefSl K (rSlX K) fSlX := ⟨fun W A H0 H x s lo hi Qd Q b f i rx h w => by
  unfold fSlX at h
  split at h
  · exact .inl ((inferInstance : RefSl K (rSlA K) _).go W A H0 H x _ lo hi Qd Q b f i rx h w)
  · exact .inr ((inferInstance : RefSl K (rSlL K) _).go W A H0 H x _ lo hi Qd Q b f i rx h w)⟩
/-! ### the names of a comprehension -/
class MemO (i : Nat) (own : List (Str × Nat)) : Prop where
  h : i ∈ own.map (·.2)
instance {x : Str} {i : Nat} {own : List (Str × Nat)} : MemO i ((x, i) :: own) := ⟨List.mem_cons_self⟩
instance (priority := low) {p : Str × Nat} {i : Nat} {own : List (Str × Nat)} [h : MemO i own] : MemO i (p :: own) := ⟨List.mem_cons_of_mem _ h.h⟩
instance {own : List (Str × Nat)} : Inc [] (own.map (·.2)) := ⟨fun _ h => by cases h⟩
instance {i : Nat} {own : List (Str × Nat)} [h : MemO i own] : Inc [i] (own.map (·.2)) := ⟨fun j hj => by rw [List.mem_singleton.mp hj]; exact h.h⟩
instance {a b : List Nat} {own : List (Str × Nat)} [ha : Inc a (own.map (·.2))] [hb : Inc b (own.map (·.2))] : Inc (a ++ b) (own.map (·.2)) := ⟨fun j hj => (List.mem_append.mp hj).elim (ha.h j) (hb.h j)⟩
/-! ### comprehensions and loops by what a turn tells -/
/-- one turn of a comprehension, to N -/
def lcStep (fg : FG) (ft : TDT) (fe : TD) (ρ : List Sl) (R : Er → Prop) (d : PyData) (acc : List PyData) (N : List PyData → Prop) : Prop := fg d ρ fun ρ' => ft ρ' (fun b => match b with
    | true => fe ρ' (fun s => acc.length < sizeLine ∧ match s.dat with
      | some y => N (acc ++ [y])
      | none => False) R
    | false => N acc) R
theorem lcD_cons {fg : FG} {ft : TDT} {fe : TD} {ρ : List Sl} {R : Er → Prop} {Qd : List PyData → Prop} {d : PyData} {r acc : List PyData} (h : lcStep fg ft fe ρ R d acc (lcD fg ft fe ρ R Qd r)) : lcD fg ft fe ρ R Qd (d :: r) acc := h
theorem line_1000 {n : Nat} (h : n < 100000) : n < sizeLine := by rw [sizeLine_eq]; omega
/-- what each turn tells, one of S -/
theorem lcD_all {fg : FG} {ft : TDT} {fe : TD} {ρ : List Sl} {R : Er → Prop} {Qd : List PyData → Prop} (S : PyData → PyData → Prop)
    (step : ∀ d acc N, acc.length < sizeLine → (∀ y, S d y → N (acc ++ [y])) → lcStep fg ft fe ρ R d acc N) : ∀ (ds acc : List PyData), acc.length + ds.length ≤ 100000 → (∀ ys, Paired S ds ys → Qd (acc ++ ys)) → lcD fg ft fe ρ R Qd ds acc
  | [], acc, _, h => by
    have := h [] .nil
    rw [List.append_nil] at this
    exact this
  | d :: r, acc, hl, h => by
    rw [List.length_cons] at hl
    refine lcD_cons (step d acc _ (line_1000 (by omega)) fun y sy => ?_)
    refine lcD_all S step r (acc ++ [y]) (by rw [List.length_append, List.length_singleton]; omega) fun ys hy => ?_
    have := h (y :: ys) (.cons sy hy)
    rw [List.append_assoc]
    exact this
theorem lcD_map {fg : FG} {ft : TDT} {fe : TD} {ρ : List Sl} {R : Er → Prop} {Qd : List PyData → Prop} (g : PyData → PyData) : ∀ (ds acc : List PyData),
    (∀ d ∈ ds, ∀ acc N, acc.length < sizeLine → N (acc ++ [g d]) → lcStep fg ft fe ρ R d acc N) → acc.length + ds.length ≤ 100000 → Qd (acc ++ ds.map g) → lcD fg ft fe ρ R Qd ds acc
  | [], acc, _, _, h => by
    rw [List.map_nil, List.append_nil] at h
    exact h
  | d :: r, acc, step, hl, h => by
    rw [List.length_cons] at hl
    refine lcD_cons (step d List.mem_cons_self acc _ (line_1000 (by omega)) ?_)
    refine lcD_map g r (acc ++ [g d]) (fun e he => step e (List.mem_cons_of_mem _ he)) (by rw [List.length_append, List.length_singleton]; omega) ?_
    rw [List.append_assoc]
    exact h
theorem lcD_filter {fg : FG} {ft : TDT} {fe : TD} {ρ : List Sl} {R : Er → Prop} {Qd : List PyData → Prop} (p : PyData → Bool) (g : PyData → PyData) : ∀ (ds acc : List PyData),
    (∀ d ∈ ds, ∀ acc N, acc.length < sizeLine → (p d = true → N (acc ++ [g d])) → (p d = false → N acc) → lcStep fg ft fe ρ R d acc N) → acc.length + ds.length ≤ 100000 → Qd (acc ++ (ds.filter p).map g) → lcD fg ft fe ρ R Qd ds acc
  | [], acc, _, _, h => by
    rw [List.filter_nil, List.map_nil, List.append_nil] at h
    exact h
  | d :: r, acc, step, hl, h => by
    rw [List.length_cons] at hl
    refine lcD_cons (step d List.mem_cons_self acc _ (line_1000 (by omega)) (fun e => ?_) fun e => ?_)
    · refine lcD_filter p g r (acc ++ [g d]) (fun e he => step e (List.mem_cons_of_mem _ he)) (by rw [List.length_append, List.length_singleton]; omega) ?_
      rw [List.filter_cons_of_pos e, List.map_cons] at h
      rw [List.append_assoc]
      exact h
    · refine lcD_filter p g r acc (fun e he => step e (List.mem_cons_of_mem _ he)) (by omega) ?_
      rw [List.filter_cons_of_neg (by rw [e]; exact Bool.false_ne_true)] at h
      exact h
/-- a for by an invariant -/
theorem forD_inv {fg : FG} {gb : TDS} {dd : DEnds} {R : Er → Prop} (ds : List PyData) (I : Nat → List Sl → Prop)
    (step : ∀ (i : Nat) (d : PyData) (ρ : List Sl) (N : List Sl → Prop), ds[i]? = some d → I i ρ → (∀ ρ', I (i + 1) ρ' → N ρ') → fg d ρ fun ρ' => gb { dd with nx := N, ct := N, bk := dd.nx } R ρ')
    (fin : ∀ ρ, I ds.length ρ → dd.nx ρ) : ∀ (n i : Nat), ds.length - i = n → i ≤ ds.length → ∀ ρ, I i ρ → forD fg gb dd R (ds.drop i) ρ
  | 0, i, h, hi, ρ, hI => by
    have e : i = ds.length := by omega
    subst e
    rw [List.drop_length]
    exact fin ρ hI
  | n + 1, i, h, hi, ρ, hI => by
    have hlt : i < ds.length := by omega
    rw [List.drop_eq_getElem_cons hlt]
    exact step i ds[i] ρ _ (List.getElem?_eq_getElem hlt) hI fun ρ' h' => forD_inv ds I step fin n (i + 1) (by omega) (by omega) ρ' h'
theorem forD_by {fg : FG} {gb : TDS} {dd : DEnds} {R : Er → Prop} {ds : List PyData} (I : Nat → List Sl → Prop) {ρ : List Sl} (h0 : I 0 ρ)
    (step : ∀ (i : Nat) (d : PyData) (ρ : List Sl) (N : List Sl → Prop), ds[i]? = some d → I i ρ → (∀ ρ', I (i + 1) ρ' → N ρ') → fg d ρ fun ρ' => gb { dd with nx := N, ct := N, bk := dd.nx } R ρ')
    (fin : ∀ ρ, I ds.length ρ → dd.nx ρ) : forD fg gb dd R ds ρ := forD_inv ds I step fin ds.length 0 rfl (Nat.zero_le _) ρ h0
end
end Dl

namespace Dl
open PySem PySem.Spec PyProof.Rows L2
section
open AutoSeq1 (wpAny_loadPart')
/-! ### enumerate over a tuple -/
abbrev oTupIt (l : Addr) : Obj := { cls := .type "tuple_iterator", data := .fields #[.ref l, .int 0 0] }
abbrev oEnum (j : Addr) : Obj := { cls := .type "enumerate", data := .fields #[.none, .bool false, .ref j, rawInt 0, .none, .none] }
theorem meets_enum_tup (l : Addr) (its : Array Value) (n : Nat) (dc : Option Addr) (sl : Array (Option Value)) :
    Meets (Builtin.«enumerate.__new__» ⟨[.type "enumerate", .ref l], []⟩) (fun _ R s => s.heap.get? l = some { cls := .type "tuple", dict := dc, data := .seq its n, slots := sl } ∧
      R (.ok (.ret (.ref (s.heap.push (oTupIt l)).objs.size))) { s with heap := (s.heap.push (oTupIt l)).push (oEnum s.heap.objs.size) }) :=
  .of_wp fun prog w A R s h => by
    obtain ⟨hp, g, d, tk, os⟩ := s
    obtain ⟨hl, h⟩ := h
    have hsub := sub_enumerate
    have hT : Heap.IsTuple (Shared.heap ⟨hp, g, d, tk, os⟩) l its := ⟨_, hl, rfl, n, rfl⟩
    wp_walk using wpAny_loadPart' hl
    refine wpAny_stack_any fun st => wpAny_pure ?_
    split
    · rename_i c _ _ _ _ _
      cases (c == Value.type "enumerate") <;> (wp_walk using wpAny_loadPart' hl, wpAny_pyIter_tuple hT; exact ⟨_, rfl, h⟩)
    · wp_walk using wpAny_loadPart' hl, wpAny_pyIter_tuple hT
      exact ⟨_, rfl, h⟩
end
theorem call_enum_tup {prog : Program} {w : World} {A : Around} {E : Value → Shared → Prop} {s : Shared} {l : Addr} {its : Array Value} {Q : Value → Shared → Prop} (hT : s.heap.IsTuple l its)
    (h : ∀ h', IsEnum h' (s.heap.objs.size + 1) s.heap.objs.size 0 .none → h'.IsTupleIter s.heap.objs.size l 0 → h'.objs.size = s.heap.objs.size + 2 → (∀ b o, s.heap.get? b = some o → h'.get? b = some o) → Q (.ref (s.heap.objs.size + 1)) { s with heap := h' }) :
    wpAny (model prog w) A (call (.type "enumerate") [.ref l]) Q E s := by
  obtain ⟨⟨c, dc, dt, sl⟩, hl, hc, n, hd⟩ := hT
  replace hc : c = .type "tuple" := hc
  replace hd : dt = .seq its n := hd
  subst hc hd
  refine callType_new F.called_enumerate (by decide) (F.typeCall_enumerate_1 _) (F.newCall_enumerate_1 _) (fun obj => F.args_object_init_2 obj _) F.entry_enumerate_new (meets_enum_tup l its n dc sl) ⟨hl, ?_⟩
  have hz : (s.heap.push (oTupIt l)).objs.size = s.heap.objs.size + 1 := Heap.size_push ..
  show _ ∧ _
  rw [hz]
  have he : IsEnum ((s.heap.push (oTupIt l)).push (oEnum s.heap.objs.size)) (s.heap.objs.size + 1) s.heap.objs.size 0 .none := by
    have z := Heap.get?_push_size (s.heap.push (oTupIt l)) (o := oEnum s.heap.objs.size) rfl
    rw [hz] at z
    exact z
  exact ⟨⟨_, he, rfl⟩, h _ he ⟨_, Heap.get?_push_of_some _ (Heap.get?_push_size _ rfl), rfl, rfl⟩ (by rw [Heap.size_push, hz]) fun b o x => Heap.get?_push_of_some _ (Heap.get?_push_of_some _ x)⟩
/-- the tuple at a as it stands, its items in new pairs with their numbers -/
def ItT (K : PySem.W.Frag) (a : Addr) : It :=
  ⟨fun i H => ∃ (xs : List V) (x : V), SqT K H a xs ∧ xs[i]? = some x,
    fun i H v G => ∃ T x, v = .ref T ∧ H T = none ∧ G = upd H T (.tup [.int (i : Nat), x]) ∧ ∀ xs, SqT K H a xs → xs[i]? = some x,
    fun i H => ∃ xs : List V, SqT K H a xs ∧ xs.length ≤ i⟩
theorem turn_enumT {P : Program} {w : World} {K : PySem.W.Frag} {elts : List Expr} {kk : Nat} {tp : Pos} (a e it : Addr) (hae : e ≠ a) (hai : a ≠ it) :
    Turn P w K (.Tuple elts kk tp) (ItT K a) [e, it] e (fun i h => (∃ old, IsEnum h e it ((i : Nat) : Int) old) ∧ h.IsTupleIter it a i ∧ e ≠ it) where
  mem := by simp
  obj := fun i h st b hb => by
    obtain ⟨⟨old, he⟩, ⟨o, ho, hc, hd⟩, _⟩ := st
    rcases List.mem_cons.mp hb with z | z
    · rw [z]
      exact ⟨_, he, fun v q => nomatch q⟩
    · rw [List.mem_singleton.mp z]
      exact ⟨o, ho, fun v q => by rw [hd] at q; cases q⟩
  keep := fun i h h' st k => let ⟨⟨old, he⟩, hi, ne⟩ := st; ⟨⟨old, k e (by simp) _ he⟩, hi.at fun o q => k it (by simp) o q, ne⟩
  item := by
    intro X hP hw hK hc i pins s σ H E I hf st hg
    subst hP hw hK
    obtain ⟨⟨old, he⟩, hit, ne⟩ := st
    obtain ⟨xs, x, hq, hx⟩ := hg
    obtain ⟨its, rv, p, hz⟩ := I.tuple hq
    obtain ⟨u, hu, ru⟩ := rv.get hx
    have hT : s.heap.IsTuple a its.toArray := p
    have hel : e < s.heap.objs.size := Heap.lt_size he
    have hil : it < s.heap.objs.size := by
      obtain ⟨_, q, _⟩ := hit
      exact Heap.lt_size q
    have hi : i < its.toArray.size := by
      rw [List.size_toArray]
      exact (List.getElem?_eq_some_iff.mp hu).1
    have nf : e ∉ [it, a] := fun z => by
      rcases List.mem_cons.mp z with q | q
      · exact ne q
      · exact hae (List.mem_singleton.mp q)
    refine wpAny_pyNext_enum_itemD (Draws.tuple (A := X.A.in1) (show X.A.in1.handled = none from I.ok.hd hc) it a hai its.toArray) he ⟨hit, hT⟩ hi ne nf fun y h' tk hP ho hst' hTn hsz hk => ?_
    have ey : y = u := by
      have h1 : its[i]? = some y := by simpa using hP
      rw [hu] at h1
      exact (Option.some.inj h1).symm
    subst ey
    refine ⟨_, rfl, wpAny_letOwnedTupleGo_enum (s := { s with heap := h', toks := tk + 1 }) ho fun h2 he' sb => ?_⟩
    have hT2 : h2.get? s.heap.objs.size = some { cls := .type "tuple", data := .seq #[.int i tk, y] } := (sb.2 _ (Nat.ne_of_gt hel)).trans hTn
    have new : ObjOk X.prog X.w (upd H s.heap.objs.size (.tup [.int (i : Nat), x])) h2 s.heap.objs.size (.tup [.int (i : Nat), x]) :=
      ⟨by show 2 ≤ sizeLine; decide, [.int i tk, y], .cons ⟨_, rfl⟩ (.cons ru .nil), ⟨_, hT2, rfl, _, rfl⟩⟩
    have J : Inv X pins σ (upd H s.heap.objs.size (.tup [.int (i : Nat), x])) { s with heap := h2, toks := tk + 1 } :=
      I.turnedNew (ch := [e, it]) (fun b ob hb q => (sb.2 b (fun z => hb (by simp [z]))).trans (hk b ob (fun z => hb (by simp [z])) (fun z => hb (by simp [z])) q)) hf (Nat.le_refl _) new
    refine ⟨.ref s.heap.objs.size, _, J, rfl, ⟨_, x, rfl, I.hok.fresh (Nat.le_refl _), rfl, fun ys hy => by rw [I.tuple_inj hy hq]; exact hx⟩, ⟨⟨y, ?_⟩, hst'.1.at fun o q => (sb.2 it (Ne.symm ne)).trans q, ne⟩, fun b hb => ?_⟩
    · have z : ((i + 1 : Nat) : Int) = (i : Int) + 1 := by omega
      rw [z]
      exact he'
    · have hb' : b < s.heap.objs.size := by
        rcases List.mem_cons.mp hb with z | z
        · rw [z]
          exact hel
        · rw [List.mem_singleton.mp z]
          exact hil
      rw [upd_ne (Nat.ne_of_lt hb')]
      exact (hf b hb).1
  done := by
    intro X hP hw hK hc i pins s σ H E I hf st hg
    subst hP hw hK
    obtain ⟨⟨old, he⟩, hit, ne⟩ := st
    obtain ⟨xs, hq, hx⟩ := hg
    obtain ⟨its, rv, p, hz⟩ := I.tuple hq
    obtain ⟨g0, g1, g2, g3, g4, g5⟩ := hf it (by simp)
    have hT : s.heap.IsTuple a its.toArray := p
    have hl := rv.length
    have T : s.TypeIs (.ref e) "enumerate" := ⟨_, he, rfl⟩
    unfold pyNext
    refine wpAny_bind (wpAny_attempt (wpAny_callSpecial?_slot (name := Str.ofString "__next__") T F.slot_enumerate_next (wpAny_call_entry F.slot_enumerate_next T F.entry_enumerate_next ?_ (F.args_enumerate_next_1 _))))
    show wpAny _ _ (PySem.field (.ref e) 2 >>= _) _ _ _
    refine wpAny_bind (wpAny_field he rfl (x := .ref it) rfl ?_)
    refine wpAny_bind (wpAny_nextOf_tuple_end (I.ok.hd hc) hit hT (by simp; omega) fun h' x eb hx' => ?_)
    obtain ⟨o, ho, hcl⟩ := hx'
    refine wpAny_bind (wpAny_isInstance (T := "StopIteration") (b := true) ⟨o, ho, hcl⟩ isSubtype_stop ?_)
    exact wpAny_pure ⟨rfl, I.turned (t' := s.toks) (fun b o hb q => eb b o hb q) g0 g1 g3 g4 g5⟩
  self := fun A i s Q E st h => let ⟨⟨_, he⟩, _⟩ := st; wpAny_pyIter_enum he h
def iEnumT (K : PySem.W.Frag) (ta : TA) : TI := fun σ H R => ta σ H fun vs G => ∃ a xs, vs = [.ref a] ∧ SqT K G a xs ∧ R (ItT K a) G
theorem pi_enumT {X : Cx} {e : Expr} {ta : TA} {p pos tp : Pos} {elts : List Expr} {kk : Nat} (ge : Gl X "enumerate") (me : X.mg "enumerate" = none) (ha : PA X [e] ta) (hs : starEach [e] X.env = [(false, eval e X.env)] := by rfl) :
    PI X (.Tuple elts kk tp) (.Call (.Name "enumerate" p) [e] [] pos) (iEnumT X.K ta) := by
  refine ⟨fun pins s σ H R I h => ?_⟩
  refine PyProof.Rows.Call_ (ld_blt I ge me boot_enumerate (PyProof.Rows.callWith_type1 (thn (ha.run pos pins s σ H _ I h) fun us t ⟨vs, G, J, rr, hx⟩ => ?_) hs rfl))
  obtain ⟨a, xs, ex, hq, q⟩ := hx
  subst ex
  cases rr with
  | cons r r2 =>
    cases r2
    cases r
    obtain ⟨its, rv, pl, hz⟩ := J.tuple hq
    have hT : t.heap.IsTuple a its.toArray := pl
    have hlt : a < t.heap.objs.size := by
      obtain ⟨_, z, _⟩ := hT
      exact Heap.lt_size z
    refine call_enum_tup hT fun h' he hit hsz hk => wpAny_pyIter_enum he ?_
    have J2 : Inv X pins σ G { t with heap := h' } := J.kept (t' := t.toks) hk
    refine ⟨t.heap.objs.size + 1, [t.heap.objs.size + 1, t.heap.objs.size], _, _, G, rfl, J2, turn_enumT a (t.heap.objs.size + 1) t.heap.objs.size (Nat.ne_of_gt (Nat.lt_succ_of_lt hlt)) (Nat.ne_of_lt hlt), ⟨⟨.none, he⟩, hit, Nat.succ_ne_self _⟩, fun b hb => ?_, q⟩
    have hle : t.heap.objs.size ≤ b := by
      rcases List.mem_cons.mp hb with z | z
      · rw [z]
        exact Nat.le_add_right _ _
      · rw [List.mem_singleton.mp z]
        exact Nat.le_refl _
    exact J.fpOk hle (J.hok.fresh hle)
section
open HT
/-! ### t[::-1] of a tuple -/
theorem rev_adjust (n : Nat) : Builtin.Slice.sliceAdjust none none (-1) (n : Int) = ((n : Int) - 1, -1) := by
  unfold Builtin.Slice.sliceAdjust
  rfl
theorem rev_places (n : Nat) : Builtin.Slice.slicePlaces ((n : Int) - 1) (-1) (-1) = n := by
  unfold Builtin.Slice.slicePlaces
  simp
  omega
theorem rev_pick (xs : List Value) : ((List.range xs.length).filterMap fun (k : Nat) => xs.toArray[(((xs.length : Int) - 1) + (k : Int) * (-1)).toNat]?) = xs.reverse := by
  have e : ∀ m, m ≤ xs.length → ((List.range m).filterMap fun (k : Nat) => xs.toArray[(((xs.length : Int) - 1) + (k : Int) * (-1)).toNat]?) = xs.reverse.take m := by
    intro m
    induction m with
    | zero =>
      intro _
      rfl
    | succ m ih =>
      intro h
      rw [List.range_succ, List.filterMap_append, ih (by omega), List.take_add_one]
      congr 1
      have hi : (((xs.length : Int) - 1) + (m : Int) * (-1)).toNat = xs.length - 1 - m := by omega
      have hr : xs.reverse[m]? = some xs[xs.length - 1 - m] := by
        rw [List.getElem?_reverse (by omega), List.getElem?_eq_getElem (by omega)]
      have ha : xs.toArray[xs.length - 1 - m]? = some xs[xs.length - 1 - m] := by
        rw [List.getElem?_toArray, List.getElem?_eq_getElem (by omega)]
      rw [hr]
      show List.filterMap _ [m] = [xs[xs.length - 1 - m]]
      rw [List.filterMap_cons_some (b := xs[xs.length - 1 - m]) (by rw [hi]; exact ha)]
      rfl
  rw [e _ (Nat.le_refl _), List.take_of_length_le (by rw [List.length_reverse]; exact Nat.le_refl _)]
section
variable {prog : Program} {w : World} {A : Around} {E : Value → Shared → Prop} {s : Shared}
theorem tuple_back {u sl : Addr} {its : List Value} {tk : Tok} {Q : Value → Shared → Prop} (hT : IsTup s.heap u its.toArray) (hs : s.heap.IsSliceOf sl .none .none (.int (-1) tk)) (hz : its.length ≤ sizeLine)
    (h : Q (.ref s.heap.objs.size) { s with heap := s.heap.push { cls := .type "tuple", data := .seq its.reverse.toArray } }) : wpAny (model prog w) A (getItem (.ref u) (.ref sl)) Q E s := by
  have fits : sizeOk (.seq its.reverse.toArray) := by
    show its.reverse.toArray.size ≤ sizeLine
    rw [List.size_toArray, List.length_reverse]
    exact hz
  obtain ⟨os, ho, hc, hd⟩ := id hs
  have ty : s.TypeIs (.ref sl) "slice" := ⟨os, ho, hc⟩
  unfold getItem
  try with_reducible refine wpAny_holding ?_
  first | refine wpAny_bind (wpAny_pure ?_) | skip
  refine wpAny_bind (wpAny_sequenceKey hT.typeIs (by decide) (wpAny_bind (wpAny_callSpecial?_slot (name := Str.ofString "__getitem__") hT.typeIs PyProof.Rows.slot_tuple_getitem (wpAny_call_entry PyProof.Rows.slot_tuple_getitem hT.typeIs entry_tuple_getitem ?_ (args_tuple_getitem _ _)))))
  show wpAny _ _ (Builtin.Tuple.tupleItemsOf (.ref u) >>= _) _ _ s
  refine wpAny_bind (tupleItemsOf_ hT (wpAny_bind (wpAny_typeOf ty ?_)))
  rw [if_pos (by decide)]
  refine wpAny_bind (m := Builtin.Slice.sliceApplied _ _) ?_
  unfold Builtin.Slice.sliceApplied Builtin.Slice.sliceFields
  refine wpAny_bind (wpAny_bind (wpAny_field ho hd (x := .none) rfl (wpAny_bind (wpAny_field ho hd (x := .none) rfl (wpAny_bind (wpAny_field ho hd (x := .int (-1) tk) rfl (wpAny_pure ?_)))))))
  refine wpAny_bind (slicePart_int ?_)
  show wpAny _ _ (if ((-1 : Int) == 0) = true then _ else _) _ _ s
  rw [if_neg (by decide)]
  refine wpAny_bind (slicePart_none (wpAny_bind (slicePart_none (wpAny_bind (wpAny_pure ?_)))))
  show wpAny _ _ (match Builtin.Slice.sliceAdjust none none (-1) (its.toArray.size : Int) with | (lo, hi) => pure (lo, (-1 : Int), Builtin.Slice.slicePlaces lo hi (-1))) _ _ s
  rw [rev_adjust]
  show wpAny _ _ (pure (((its.toArray.size : Int) - 1), (-1 : Int), Builtin.Slice.slicePlaces ((its.toArray.size : Int) - 1) (-1) (-1))) _ _ s
  rw [rev_places]
  refine wpAny_pure ?_
  show wpAny _ _ (if ((((its.toArray.size : Int) - 1) == 0 && (-1 : Int) == 1 && its.toArray.size == its.toArray.size) = true) then _ else _) _ _ s
  rw [if_neg (by simp), List.size_toArray, rev_pick]
  first
    | exact wpAny_bind (m := Builtin.Tuple.tupleExact _) (wpAny_newObj_type (wpAny_pure ⟨_, rfl, wpAny_pure h⟩) fits)
    | exact wpAny_bind (m := Builtin.Tuple.tupleExact _) (wpAny_newObj_type (wpAny_bind (wpAny_pure (wpAny_pure ⟨_, rfl, wpAny_pure h⟩))) fits)
    | exact wpAny_bind (wpAny_bind (m := Builtin.Tuple.tupleExact _) (wpAny_newObj_type (wpAny_pure (wpAny_pure ⟨_, rfl, wpAny_pure h⟩)) fits))
    | exact wpAny_bind (wpAny_bind (m := Builtin.Tuple.tupleExact _) (wpAny_newObj_type (wpAny_pure ⟨_, rfl, wpAny_pure h⟩) fits))
end
def tBackT (K : PySem.W.Frag) (te : TE) : TE := fun σ H Q => te σ H fun x G => ∃ a xs, x = .ref a ∧ SqT K G a xs ∧ ∀ p, G p = none → Q (.ref p) (upd G p (.tup xs.reverse))
theorem pe_backT {X : Cx} {e : Expr} {te : TE} {k : Nat} {u1 u2 u3 u4 : Pos} (he : PE X e te) : PE X (.Subscript e (.Slice none none (some (.UnaryOp .USub (.Constant (.int 1) k u1) u2)) u3) u4) (tBackT X.K te) := by
  refine ⟨fun pins s σ H Q I h => ?_⟩
  refine Subscript_ (thn (he.run pins s σ H _ I h) fun v t1 ⟨x, G1, J1, r1, g1⟩ => ?_)
  obtain ⟨a, xs, ex, hx, q⟩ := g1
  subst ex
  cases r1
  have step : PO X (some (.UnaryOp .USub (.Constant (.int 1) k u1) u2)) (tPart (tUn (rU fun i => .int (-i)) (tC (.int 1)))) := po_some (pe_un un_neg pe_int)
  refine wpAny_Slice (thn (po_none.run pins t1 σ G1 (fun o G => o = none ∧ G = G1) J1 ⟨rfl, rfl⟩) fun vl t2 ⟨l, G2, J2, pl, el, e2⟩ => ?_)
  subst el e2
  refine thn (po_none.run pins t2 σ G2 (fun o G => o = none ∧ G = G2) J2 ⟨rfl, rfl⟩) fun vu t3 ⟨u, G3, J3, pu, eu, e3⟩ => ?_
  subst eu e3
  refine thn (step.run pins t3 σ G3 (fun o G => o = some (-1) ∧ G = G3) J3 ⟨1, rfl, -1, rfl, rfl, rfl⟩) fun vs t4 ⟨o, G4, J4, ps, eo, e4⟩ => ?_
  subst eo e4
  have J5 : Inv X pins σ G4 { t4 with heap := t4.heap.push { cls := .type "slice", data := .fields #[vl, vu, vs] } } := J4.kept (t' := t4.toks) fun b ob z => Heap.get?_push_of_some _ z
  obtain ⟨its, r, hT, hz⟩ := J5.tuple hx
  have hlen := r.length
  show wpAny (model X.prog X.w) X.A (subscriptTail e (.Slice none none (some (.UnaryOp .USub (.Constant (.int 1) k u1) u2)) u3) (.ref a) (.ref t4.heap.objs.size)) (EP X pins σ Q) X.xe _
  refine tail_any (ops := [.ref a, .ref t4.heap.objs.size]) hT.typeIs (PyProof.Rows.slot_tuple_getitem.lookup) ?_ (by with_unfolding_all rfl)
  cases pl
  cases pu
  cases ps
  refine tuple_back hT (Heap.IsSliceOf.new _ _ _ _) (by omega) ?_
  refine ⟨.ref _, _, J5.laid (t' := t4.toks) (o := .tup xs.reverse) (fun b ob z => Heap.get?_push_of_some _ z) (Nat.le_refl _) ?_, rfl, q _ (J5.hok.fresh (Nat.le_refl _))⟩
  exact ⟨by rw [List.length_reverse]; exact hz, _, r.reverse, ⟨_, Heap.get?_push_size _ rfl, rfl, _, rfl⟩⟩
end
/-! ### how long a thing's text is -/
structure Sh (d : PyData) (n m : Nat) : Prop where
  s : d.showable = true
  l : d.shown.length ≤ n
  k : d.depth ≤ m
theorem Sh.mono {d : PyData} {n m n' m' : Nat} (h : Sh d n m) (a : n ≤ n') (b : m ≤ m') : Sh d n' m' := ⟨h.s, Nat.le_trans h.l a, Nat.le_trans h.k b⟩
theorem piled_le {c : Nat} : ∀ ts : List Str, (∀ t ∈ ts, t.length ≤ c) → piled ts ≤ ts.length * (c + 2)
  | [], _ => by
    show piled [] ≤ 0 * _
    simp [piled]
  | t :: r, h => by
    have h1 := h t List.mem_cons_self
    have h2 := piled_le r fun u hu => h u (List.mem_cons_of_mem _ hu)
    rw [piled_cons, List.length_cons, Nat.add_mul, Nat.one_mul]
    omega
theorem tuple_le {c : Nat} (ts : List Str) (h : ∀ t ∈ ts, t.length ≤ c) : (tupleText ts).length ≤ 4 + ts.length * (c + 2) := by
  unfold tupleText
  rw [strLen_append, strLen_append]
  have e1 : ((("(" : String) : Str)).length = 1 := rfl
  have e3 : (((if ts.length == 1 then ",)" else ")" : String) : Str)).length ≤ 2 := by split <;> decide
  have e4 := piled_le ts h
  rw [e1]
  by_cases hn : ts = []
  · subst hn
    have : (Str.join ", " []).length = 0 := rfl
    omega
  · have := join_length_add ts hn
    omega
theorem from_le {c : Nat} : ∀ (ts : List Str) (k : Nat) (acc : Str), (∀ t ∈ ts, t.length ≤ c) → (textFrom k acc ts).length ≤ acc.length + ts.length * (c + 2)
  | [], _, acc, _ => by
    show acc.length ≤ _
    omega
  | t :: r, k, acc, h => by
    have h1 := h t List.mem_cons_self
    have h2 := from_le r (k + 1) (acc ++ (if k > 0 then ", " else "" : String) ++ t) fun u hu => h u (List.mem_cons_of_mem _ hu)
    have e : (acc ++ (if k > 0 then ", " else "" : String) ++ t).length ≤ acc.length + 2 + t.length := by
      rw [strLen_append, strLen_append]
      have : (((if k > 0 then ", " else "" : String) : Str)).length ≤ 2 := by split <;> decide
      omega
    show (textFrom (k + 1) _ r).length ≤ _
    rw [List.length_cons, Nat.add_mul, Nat.one_mul]
    omega
theorem list_le {c : Nat} (ts : List Str) (h : ∀ t ∈ ts, t.length ≤ c) : (listText ts).length ≤ 4 + ts.length * (c + 2) := by
  unfold listText
  rw [strLen_append]
  have e1 : ((("[" : String) : Str)).length = 1 := rfl
  have e2 : ((("]" : String) : Str)).length = 1 := rfl
  have := from_le ts 0 "[" h
  rw [e2]
  omega
theorem shown_mem : ∀ {ds : List PyData} {t : Str}, t ∈ PyData.shownAll ds → ∃ d ∈ ds, t = d.shown
  | [], _, h => by
    rw [PyData.shownAll] at h
    cases h
  | d :: r, t, h => by
    rw [PyData.shownAll] at h
    rcases List.mem_cons.mp h with e | e
    · exact ⟨d, List.mem_cons_self, e⟩
    · obtain ⟨x, hx, e⟩ := shown_mem e
      exact ⟨x, List.mem_cons_of_mem _ hx, e⟩
theorem shown_len : ∀ ds : List PyData, (PyData.shownAll ds).length = ds.length
  | [] => by
    rw [PyData.shownAll]
    rfl
  | d :: r => by rw [PyData.shownAll, List.length_cons, List.length_cons, shown_len r]
theorem show_all : ∀ {ds : List PyData} {n m : Nat}, (∀ d ∈ ds, Sh d n m) → PyData.showableAll ds = true ∧ PyData.depthAll ds ≤ m
  | [], n, m, _ => by
    rw [PyData.showableAll, PyData.depthAll]
    exact ⟨rfl, Nat.zero_le _⟩
  | d :: r, n, m, h => by
    have h1 := h d List.mem_cons_self
    obtain ⟨h2, h3⟩ := show_all (n := n) (m := m) fun u hu => h u (List.mem_cons_of_mem _ hu)
    rw [PyData.showableAll, PyData.depthAll, h1.s, h2]
    have := h1.k
    exact ⟨rfl, by omega⟩
theorem Sh.tuple {ds : List PyData} {n m k : Nat} (h : ∀ d ∈ ds, Sh d n m) (hk : ds.length ≤ k) : Sh (.tuple ds) (4 + k * (n + 2)) (m + 1) := by
  obtain ⟨h1, h2⟩ := show_all h
  refine ⟨by rw [PyData.showable]; exact h1, ?_, by rw [PyData.depth]; omega⟩
  rw [PyData.shown]
  refine Nat.le_trans (tuple_le (c := n) _ fun t ht => ?_) ?_
  · obtain ⟨d, hd, e⟩ := shown_mem ht
    rw [e]
    exact (h d hd).l
  · rw [shown_len]
    have := Nat.mul_le_mul_right (n + 2) hk
    omega
theorem Sh.list {ds : List PyData} {n m k : Nat} (h : ∀ d ∈ ds, Sh d n m) (hk : ds.length ≤ k) : Sh (.list ds) (4 + k * (n + 2)) (m + 1) := by
  obtain ⟨h1, h2⟩ := show_all h
  refine ⟨by rw [PyData.showable]; exact h1, ?_, by rw [PyData.depth]; omega⟩
  rw [PyData.shown]
  refine Nat.le_trans (list_le (c := n) _ fun t ht => ?_) ?_
  · obtain ⟨d, hd, e⟩ := shown_mem ht
    rw [e]
    exact (h d hd).l
  · rw [shown_len]
    have := Nat.mul_le_mul_right (n + 2) hk
    omega
theorem Sh.int {i : Int} (h : i.natAbs < 10 ^ 30) : Sh (.int i) 40 0 := by
  refine ⟨?_, ?_, by rw [PyData.depth]; exact Nat.le_refl _⟩
  · rw [PyData.showable]
    refine decide_eq_true ?_
    by_cases h0 : i.natAbs = 0
    · rw [h0]
      decide
    · exact (Nat.log2_lt h0).mpr (Nat.lt_of_lt_of_le h (by decide +kernel))
  · rw [PyData.shown]
    show (Str.ofString (toString i)).length ≤ 40
    rw [PySem.ofString_length]
    have := int_text_length_le10 (k := 30) (by decide) h
    omega
theorem Sh.bool (b : Bool) : Sh (.bool b) 40 0 := by
  refine ⟨by rw [PyData.showable], ?_, by rw [PyData.depth]; exact Nat.le_refl _⟩
  rw [PyData.shown]
  cases b <;> decide
theorem Sh.none : Sh .none 40 0 := by
  refine ⟨by rw [PyData.showable], ?_, by rw [PyData.depth]; exact Nat.le_refl _⟩
  rw [PyData.shown]
  decide
theorem sh_text {x : Str} (h : (reprText x).length ≤ 40) : Sh (.str x) 40 0 := ⟨by rw [PyData.showable], by rw [PyData.shown]; exact h, by rw [PyData.depth]; exact Nat.le_refl _⟩
/-! ### repr of data -/
mutual
def noLst : PyData → Bool
  | .list _ => false
  | .tuple xs => noLstAll xs
  | .dict kvs => noLstKV kvs
  | _ => true
def noLstAll : List PyData → Bool
  | [] => true
  | x :: r => noLst x && noLstAll r
def noLstKV : List (PyData × PyData) → Bool
  | [] => true
  | p :: r => noLst p.1 && noLst p.2 && noLstKV r
end
/-- no list beside a dict -/
def okR (d : PyData) : Bool := !d.hasDict || noLst d
theorem keys_read {h : Heap} {P : Program} {w : World} : ∀ {es : List DictEntry} {kvs : List (Key × Value)}, Pairs (mixKind P w) es kvs → ReadsAll h (es.map (·.key)) (kvs.map fun p => keyD p.1) []
  | _, _, .nil => .nil
  | e :: _, p :: _, .cons h1 h2 t => by
    have ih := keys_read (h := h) t
    obtain ⟨k, v⟩ := p
    have h1' : keyIs k e.key = true := h1
    rcases keyIs_shape h1' with ⟨i, t, rfl, e2⟩ | ⟨x, t, rfl, e2⟩
    · refine ReadsAll.cons (as := []) (bs := []) ?_ ih
      show PySem.Reads h e.key (.int i) []
      rw [e2]
      exact .int i t
    · refine ReadsAll.cons (as := []) (bs := []) ?_ ih
      show PySem.Reads h e.key (.str x) []
      rw [e2]
      exact .str x t
theorem vals_of {P : Program} {w : World} : ∀ {es : List DictEntry} {kvs : List (Key × Value)}, Pairs (mixKind P w) es kvs → es.map (·.val) = kvs.map (·.2)
  | _, _, .nil => rfl
  | _, _, .cons h1 h2 t => by
    rw [List.map_cons, List.map_cons, h2, vals_of t]
theorem kv_split : ∀ {kvs : List (Key × V)} {vs : List (Key × Value)}, KV kvs vs → (kvs.map fun p => keyD p.1) = (vs.map fun p => keyD p.1) ∧ Vals (kvs.map (·.2)) (vs.map (·.2))
  | _, _, .nil => ⟨rfl, .nil⟩
  | _, _, .cons h t => by
    obtain ⟨a, b⟩ := kv_split t
    obtain ⟨h1, h2⟩ := h
    exact ⟨by rw [List.map_cons, List.map_cons, a, h1], .cons h2 b⟩
theorem zip_fst {α β : Type} : ∀ {xs : List α} {ys : List β}, xs.length = ys.length → (xs.zip ys).map (·.1) = xs ∧ (xs.zip ys).map (·.2) = ys
  | [], [], _ => ⟨rfl, rfl⟩
  | x :: xs, y :: ys, h => by
    obtain ⟨a, b⟩ := zip_fst (xs := xs) (ys := ys) (by simpa using h)
    exact ⟨by rw [List.zip_cons_cons, List.map_cons, a], by rw [List.zip_cons_cons, List.map_cons, b]⟩
theorem noLst_kv : ∀ {xs ys : List PyData}, xs.length = ys.length → noLstKV (xs.zip ys) = true → noLstAll ys = true
  | [], [], _, _ => by rw [noLstAll]
  | x :: xs, y :: ys, h, e => by
    rw [List.zip_cons_cons, noLstKV, Bool.and_eq_true, Bool.and_eq_true] at e
    rw [noLstAll, e.1.2, noLst_kv (by simpa using h) e.2]
    rfl
section
variable {X : Cx} {pins : List (Addr × Obj)} {σ : L2.St} {H : Hp} {s : Shared} {A : Addr → Prop}
mutual
theorem Rp.reads (I : Inv X pins σ H s) : ∀ {v : V} {d : PyData} {u : Value}, Rp X.K A H v d → RelV v u → ∃ as, PySem.Reads s.heap u d as ∧ (noLst d = true → sysModules ∉ as)
  | _, _, _, .non, r => by
    cases r
    exact ⟨_, .none, fun _ h => nomatch h⟩
  | _, _, _, .bl b, r => by
    cases r
    exact ⟨_, .bool b, fun _ h => nomatch h⟩
  | _, _, _, .int i, r => by
    obtain ⟨t, rfl⟩ := r
    exact ⟨_, .int i t, fun _ h => nomatch h⟩
  | _, _, _, .str x, r => by
    obtain ⟨t, rfl⟩ := r
    exact ⟨_, .str x t, fun _ h => nomatch h⟩
  | _, _, _, .lst q ra, r => by
    cases r
    obtain ⟨its, rv, ⟨o, n, ho, hc, _, hd⟩, _⟩ := I.list (sqLA_sq q)
    obtain ⟨as, hr, _⟩ := RpAll.reads I ra rv
    exact ⟨_, .list ho hc hd hr, fun z => by simp [noLst] at z⟩
  | _, _, _, .tup q ra, r => by
    cases r
    obtain ⟨its, rv, ⟨o, ho, hc, n, hd⟩, _⟩ := I.tuple (sqTA_sq q)
    obtain ⟨as, hr, hn⟩ := RpAll.reads I ra rv
    exact ⟨_, .tuple ho hc hd hr, fun z => hn (by simpa [noLst] using z)⟩
  | _, _, _, .dct (a := a) (kvs := kvs) (ds := ds) e na ra, r => by
    cases r
    obtain ⟨_, hs, vs, kv, o, es, ep, ho, hx, hd, _, hp, _⟩ := I.hok a _ e
    obtain ⟨k1, k2⟩ := kv_split kv
    have hl : (kvs.map fun p => keyD p.1).length = ds.length := by
      rw [← ra.length, List.length_map, List.length_map]
    obtain ⟨z1, z2⟩ := zip_fst hl
    obtain ⟨bs, hr, hn⟩ := RpAll.reads I ra k2
    have := PySem.Reads.dict (h := s.heap) (a := a) (kvs := (kvs.map fun p => keyD p.1).zip ds) ho hx.1 hd (by rw [z1, k1]; exact keys_read hp) (by rw [z2, vals_of hp]; exact hr)
    refine ⟨_, this, fun z hm => ?_⟩
    rcases List.mem_append.mp hm with hm | hm
    · exact (beq_eq_false_iff_ne.mp hs) (List.mem_singleton.mp hm).symm
    · exact hn (noLst_kv hl (by simpa [noLst] using z)) hm
theorem RpAll.reads (I : Inv X pins σ H s) : ∀ {vs : List V} {ds : List PyData} {us : List Value}, RpAll X.K A H vs ds → Vals vs us → ∃ as, PySem.ReadsAll s.heap us ds as ∧ (noLstAll ds = true → sysModules ∉ as)
  | _, _, _, .nil, r => by
    cases r
    exact ⟨_, .nil, fun _ h => nomatch h⟩
  | _, _, _, .cons h t, r => by
    cases r with
    | cons r1 r2 =>
      obtain ⟨as, q1, n1⟩ := Rp.reads I h r1
      obtain ⟨bs, q2, n2⟩ := RpAll.reads I t r2
      refine ⟨_, .cons q1 q2, fun z hm => ?_⟩
      rw [noLstAll, Bool.and_eq_true] at z
      rcases List.mem_append.mp hm with hm | hm
      · exact n1 z.1 hm
      · exact n2 z.2 hm
end
end
def rReprG (K : PySem.W.Frag) : List V → Hp → VK → Prop := fun xs H Q => ∃ x d A, xs = [x] ∧ Rp K A H x d ∧ Sh d 10000000 50 ∧ okR d = true ∧ Q (.str d.shown) H
theorem call_reprG {X : Cx} (hg : X.A.guards = some []) (hu : X.A.units + 64 < cLine) : CallR X (.builtin "repr") (rReprG X.K) := by
  intro pins s σ H xs us Q I r h
  obtain ⟨x, d, A, rfl, hd, sh, ok, q⟩ := h
  have fits : d.shown.length ≤ sizeLine := Nat.le_trans sh.l (by decide)
  have hk := sh.k
  cases r with
  | cons r1 r2 =>
    cases r2
    have go : ∀ {a : Addr}, x = .ref a → wpAny (model X.prog X.w) X.A (call (.builtin "repr") [.ref a]) (EP X pins σ Q) X.xe s := fun {a} ex => by
      subst ex
      obtain ⟨as, rd, hn⟩ := Rp.reads (u := .ref a) I hd rfl
      refine repr_of_reads' rd sh.s (fun hD => hn ?_) hg (by omega) (fun _ _ e => e) (fun h' u tk kept => ⟨.str d.shown, H, I.kept (t' := tk) kept, ⟨u, rfl⟩, q⟩) fits
      unfold okR at ok
      rw [hD] at ok
      simpa using ok
    cases hd with
    | bl b =>
      cases r1
      refine PySem.P.repr_of_bool ⟨.str _, H, I.tok _, ⟨_, rfl⟩, ?_⟩
      rw [PyData.shown] at q
      cases b <;> exact q
    | non =>
      cases r1
      refine PySem.P.repr_of_none ⟨.str _, H, I.tok _, ⟨_, rfl⟩, ?_⟩
      rw [PyData.shown] at q
      exact q
    | int i =>
      obtain ⟨t, rfl⟩ := r1
      have hs := sh.s
      rw [PyData.showable] at hs
      refine PySem.P.repr_of_int (of_decide_eq_true hs) ⟨.str _, H, I.tok _, ⟨_, rfl⟩, ?_⟩
      rw [PyData.shown] at q
      exact q
    | str x =>
      obtain ⟨t, rfl⟩ := r1
      rw [PyData.shown] at q fits
      exact PySem.P.repr_of_str ⟨.str _, H, I.tok _, ⟨_, rfl⟩, q⟩ fits
    | lst _ _ =>
      cases r1
      exact go rfl
    | tup _ _ =>
      cases r1
      exact go rfl
    | dct _ _ _ =>
      cases r1
      exact go rfl
def fRepr : List Sl → (Sl → Prop) → Prop := fun ss Qd => match ss with
  | [s] => (match s.rd with
    | some d => Sh d 10000000 50 ∧ okR d = true ∧ Qd (.d (.str d.shown))
    | none => False)
  | _ => False
instance {K : PySem.W.Frag} : RefC K (rReprG K) fRepr := ⟨fun W A H0 H xs ss Qd Q b f i rx h w => by
  unfold fRepr at h
  split at h
  · obtain ⟨v, rfl, r⟩ := vlsr1 rx
    split at h
    · rename_i d ed
      obtain ⟨A', r'⟩ := r.rd b ed
      exact ⟨v, d, A', rfl, r', h.1, h.2.1, w.here i _ h.2.2⟩
    · exact h.elim
  · exact h.elim⟩
/-! ### enumerate of a tuple, a tuple turned about -/
section
variable {K : PySem.W.Frag} {E : XK}
def iEnT (fa : TDA) : TDI := fun ρ Qd R => fa ρ (fun ss => match ss with
  | [.d (.tuple xs)] => Qd (enumD xs)
  | _ => False) R
instance {t : TA} {f : TDA} [ht : RefA K τ E t f] : RefI K τ E (iEnumT K t) (iEnT f) := ⟨fun W A H σ ρ Qd R P a h k => by
  refine ht.go W A H σ ρ _ R _ a h fun vs H1 ss f1 i1 r1 q => ?_
  split at q
  · rename_i xs
    obtain ⟨v, rfl, r⟩ := vlsr1 r1
    have rp : Rp K A H1 v (.tuple xs) := r
    obtain ⟨p, us, rfl, sq, ra⟩ := rp.tup_
    refine ⟨p, _, rfl, sq, k (ItT K p) H1 [some (.ref p)] [.d (.tuple xs)] (enumD xs) f1 i1 (gh1 rp) ⟨fun W A H i b g hi => ?_, fun W A H i b g hi => ?_, fun W A H i x H' d b g ed y => ?_⟩ q⟩
    · rw [enumD_len] at hi
      obtain ⟨a, us, e, s2, r2⟩ := g.one.tup_
      cases e
      obtain ⟨u, eu, _⟩ := r2.get (List.getElem?_eq_getElem hi)
      exact ⟨us, u, s2, eu⟩
    · rw [enumD_len] at hi
      obtain ⟨a, us, e, s2, r2⟩ := g.one.tup_
      cases e
      exact ⟨us, s2, by rw [r2.length]; exact hi⟩
    · obtain ⟨a, us, e, s2, r2⟩ := g.one.tup_
      cases e
      obtain ⟨T, u, rfl, nT, rfl, hx⟩ := y
      obtain ⟨x', ex', rfl⟩ := enumD_get ed
      obtain ⟨d', e1, e2⟩ := r2.getV (hx us s2)
      rw [ex'] at e1
      cases e1
      exact rp_pair b nT (.int _) e2
  · exact q.elim⟩
def dBack (f : TD) : TD := fun ρ Qd R => f ρ (fun s => match s with
  | .d (.tuple xs) => Qd (.d (.tuple xs.reverse))
  | _ => False) R
instance {t : TE} {f : TD} [ht : RefE K τ E t f] : RefE K τ E (tBackT K t) (dBack f) := ⟨fun W A H σ ρ Qd R Q a h w => by
  refine ht.go W A H σ ρ _ R _ a h fun v H1 s f1 i1 r1 q => ?_
  split at q
  · rename_i xs
    have rp : Rp K A H1 v (.tuple xs) := r1
    obtain ⟨p, us, rfl, sq, ra⟩ := rp.tup_
    exact ⟨p, us, rfl, sq, Want.tup (a.bs.fr f1 i1) (w.back f1) ra.reverse q⟩
  · exact q.elim⟩
end
end Dl

namespace Dl
open PySem PySem.Spec PyProof.Rows L2 LamX
/-! ### the state that draws are taken from -/
def Keep (z : Addr) (H H' : Hp) : Prop := ∀ b o, H b = some o → b ≠ z → H' b = some o
theorem Keep.self {z : Addr} {H : Hp} {o : HO} : Keep z H (upd H z o) := fun b u h n => by rw [upd_ne n]; exact h
def spTake : Sp := fun vs H Q _ => ∃ (z : Addr) (m : Int), vs = [.ref z, .int m] ∧ StOk H z ∧ 0 < m ∧ m < 1073741824 ∧
  ∀ H' n, Keep z H H' → StOk H' z → 0 ≤ n → n < m → Q (.int n) H'
def sdTake : SpD := fun ss Qd _ => ∃ m : Int, ss = [.st, .d (.int m)] ∧ 0 < m ∧ m < 1073741824 ∧ ∀ n : Int, 0 ≤ n → n < m → Qd (.d (.int n))
theorem take_imp {K : PySem.W.Frag} {ms : List Bool} : ∀ vs H Q E, spD K ms sdTake vs H Q E → spTake vs H Q E := fun vs H Q E ⟨τ, W, A, ss, Qd, R, b, r, ar, q, w, ek⟩ => by
  obtain ⟨m, rfl, h1, h2, q⟩ := q
  obtain ⟨v, u, rfl, r1, r2⟩ := vlsr2 r
  obtain rfl := r2.flat (u := .int m) rfl
  obtain ⟨z, rfl, st⟩ := r1
  refine ⟨z, m, rfl, st.ok H b.inv, h1, h2, fun H' n kp st' n0 n1 => ?_⟩
  obtain ⟨x, y, e, hx, hy, hy2⟩ := st'
  refine w (.int n) H' (.d (.int n)) ⟨fun c o ec _ nc => kp c o ec fun z => nc (z ▸ st.b), fun c hc => ?_⟩ ?_ (Rp.int n) (q n n0 n1)
  · by_cases h : c = z
    · subst h
      exact ⟨_, e, nt_lst⟩
    · obtain ⟨o, e1, t1⟩ := hc
      exact ⟨o, kp c o e1 h, t1⟩
  · refine W.stay _ H' (fun c o ec => ?_) (st.set H x y b.inv hx hy hy2)
    by_cases h : c = z
    · subst h
      rw [upd_same] at ec
      cases ec
      exact e
    · rw [upd_ne h] at ec
      exact kp c o ec h
/-- a new state -/
def spState (K : PySem.W.Frag) : Sp := fun vs H Q _ => ∃ (a : Addr) (ns : List Int) (i : Nat), vs = [.ref a, .int (i : Int)] ∧ SqL K H a (ns.map V.int) ∧ ∀ H' z, Same H H' → H z = none → StOk H' z → Q (.ref z) H'
def dNew (i : Nat) (fa : TDA) : TDS := fun dd R ρ => fa ρ (fun ss => (∃ ns, ∃ k : Nat, ss = [.scr ns, .d (.int (k : Int))]) ∧ dd.nx (ρ.set i .st)) R
def Wld.more {τ : List (Addr × Str)} (W : Wld τ) (z : Addr) (n : ¬ W.B z) : Wld τ where
  B := fun a => W.B a ∨ a = z
  I := fun H => W.I H ∧ StOk H z
  tab := fun H h => W.tab H h.1
  tbI := fun H H' h e t => ⟨W.tbI H H' h.1 e t, by
    obtain ⟨x, y, e1, r⟩ := h.2
    exact ⟨x, y, e _ _ e1 nt_lst, r⟩⟩
  stay := fun H H' s h => ⟨W.stay H H' s h.1, by
    obtain ⟨x, y, e1, r⟩ := h.2
    exact ⟨x, y, s _ _ e1, r⟩⟩
  own := fun H p o o' h e m m' np => ⟨W.own H p o o' h.1 e m m' fun q => np (.inl q), by
    obtain ⟨x, y, e1, r⟩ := h.2
    exact ⟨x, y, (upd_ne fun q => np (.inr q.symm)).trans e1, r⟩⟩
section
variable {K : PySem.W.Frag} {E : XK}
instance {i : Nat} {t : TA} {fa : TDA} [ha : RefA K τ E t fa] : RefS K τ E (tAsg (tCall (spState K) [] E0 t) (gName i)) (dNew i fa) := ⟨fun W A0 H0 D dd R H σ ρ gσ gρ b sr er ek h => by
  obtain ⟨W', A, c⟩ := sr
  refine ha.go W' A H σ ρ _ R _ (c.at_ ek) h fun vs H1 ss f1 i1 r1 q => ?_
  obtain ⟨⟨ns, k, rfl⟩, q⟩ := q
  obtain ⟨v, u, rfl, ra, rb⟩ := vlsr2 r1
  obtain rfl := rb.flat (u := .int (k : Int)) rfl
  obtain ⟨a, rfl, sc⟩ := ra
  refine ⟨a, ns, k, rfl, sc H1 i1, fun H2 z s2 nz st => ?_⟩
  have c1 := c.step f1 i1
  have c2 := c1.step (Fr.of s2) (W'.stay _ _ s2 i1)
  have nzO : ¬ Ob H1 z := nob nz
  have nB : ¬ W'.B z := c1.bs.nB nzO
  have nA : ¬ A z := c1.bs.nA nzO
  obtain ⟨x, y, ez, hx, hy, hy2⟩ := st
  have gA : Goes A (fun b => A b ∨ b = z) H1 H1 := fun b o eb _ nb => ⟨eb, fun q => q.elim nb (ne_of_none eb nz)⟩
  -- each slot in the greater world
  have up : ∀ {v : Option V} {s : Sl}, SlR K W' A H1 v s → SlR K (W'.more z nB) (fun b => A b ∨ b = z) H2 v s := fun {v s} q => by
    have f2 : Fr W'.B H1 H2 := Fr.of s2
    have gg : Goes A (fun b => A b ∨ b = z) H1 H2 := fun b o eb t nb => ⟨s2 b o eb, (gA b o eb t nb).2⟩
    cases s with
    | un => exact q
    | d x =>
      obtain ⟨u, e1, r1⟩ := q
      exact ⟨u, e1, r1.go gg⟩
    | ml ys =>
      obtain ⟨q', us, e1, e2, e3, e4, e5⟩ := q
      exact ⟨q', us, e1, s2 _ _ e2, fun w => w.elim e3 (ne_of_none e2 nz), .inl e4, e5.go gg⟩
    | bl ys =>
      obtain ⟨q', us, e1, e2, e3⟩ := q
      exact ⟨q', us, e1, ⟨s2 _ _ e2.1, fun w => w.elim e2.2 (ne_of_none e2.1 nz)⟩, e3.go gg⟩
    | st =>
      obtain ⟨z0, e1, sw⟩ := q
      have ne : z ≠ z0 := fun w => by
        obtain ⟨x, y, e, _⟩ := sw.ok H1 i1
        rw [← w, nz] at e
        cases e
      refine ⟨z0, e1, .inl sw.b, fun H h => sw.ok H h.1, fun H x y h h1 h2 h3 => ⟨sw.set H x y h.1 h1 h2 h3, ?_⟩⟩
      obtain ⟨x', y', e', r'⟩ := h.2
      exact ⟨x', y', (upd_ne ne).trans e', r'⟩
    | scr ms =>
      obtain ⟨a', e1, sc'⟩ := q
      exact ⟨a', e1, fun H h => sc' H h.1⟩
    | raw u => exact q
    | mo o =>
      obtain ⟨q', us, e1, e2, e3, e4, e5⟩ := q
      exact ⟨q', us, e1, s2 _ _ e2, fun w => w.elim e3 (ne_of_none e2 nz), .inl e4, e5.go gg⟩
    | bo o =>
      obtain ⟨q', us, e1, e2, e3, e4⟩ := q
      exact ⟨q', us, e1, s2 _ _ e2, fun w => w.elim e3 (ne_of_none e2 nz), e4.go gg⟩
  have env' : EnvR K (W'.more z nB) (fun b => A b ∨ b = z) H2 (σ ++ gσ) (ρ ++ gρ) := ⟨c1.env.len, fun j s e => by
    obtain ⟨v, e1, r⟩ := c1.env.at_ j s e
    exact ⟨v, e1, up r⟩, c1.env.dis⟩
  have n0 : ¬ Ob H0 z := fun q => nzO (c1.fr.2 z q)
  have cF : Cor K W A0 H0 (W'.more z nB) (fun b => A b ∨ b = z) H2 σ ρ gσ gρ := by
    refine ⟨⟨fun b h => .inl (c.wl.up b h), fun b h => ?_, fun H h => c.wl.inv H h.1⟩, fun b h => .inl (c.a0 b h), ⟨fun b h => h.imp (c.bs.ba b) id, fun b h => ?_, ⟨c2.bs.inv, x, y, ez, hx, hy, hy2⟩⟩, c2.fr, env', c.lg, c.new⟩
    · rcases h with h | rfl
      · exact c.wl.dn b h
      · exact .inr n0
    · rcases h with h | rfl
      · exact c2.bs.dom b h
      · exact ⟨_, ez, nt_lst⟩
  refine er.nx H2 (σ.set i (some (.ref z))) (ρ.set i .st) ⟨_, _, cF.set (s := .st) trivial ⟨z, rfl, .inr rfl, fun H h => h.2, fun H x y h h1 h2 h3 => ⟨?_, x, y, upd_same, h1, h2, h3⟩⟩⟩ q
  obtain ⟨x', y', e', _⟩ := h.2
  exact W'.own H z _ _ h.1 e' (.lst _) (.lst _) nB⟩
/-! ### what is said of a call: told, or the refusal's word -/
def TSaid (C : Nat → Addr) (ms : List Nat) (wd : Nat → Str) : (XK → Hp → VK → Prop) → Hp → VK → Prop := fun tl H Q =>
  tl (fun cls d H' => ∃ m, m ∈ ms ∧ cls = .ref (C m) ∧ d = none ∧ ∀ G t, Same H' G → H' t = none → G t = some (.tup [.str (wd m)]) → Q (.ref t) G) H fun v G => ([V.str "told", v] : List V).length ≤ sizeLine ∧ ∀ p, G p = none → Q (.ref p) (upd G p (.tup [.str "told", v]))
def dSaid (C : Nat → Addr) (ms : List Nat) (wd : Nat → Str) (f : TD) : TD := fun ρ Qd _ => f ρ (fun s => match s.dat with
  | some x => Qd (.d (.tuple [.str "told", x]))
  | none => False) fun er => ∃ m, m ∈ ms ∧ er = (C m, []) ∧ Qd (.d (.tuple [.str (wd m)]))
theorem fr_ext {B : Addr → Prop} {H H1 : Hp} (e : ExtN H H1) : Fr B H H1 := ⟨fun b o h t _ => e b o h t, fun b ⟨o, h, t⟩ => ⟨o, e b o h t, t⟩⟩
instance {C : Nat → Addr} {ms : List Nat} {wd : Nat → Str} {t : XK → TE} {f : TD} [ht : ∀ E', RefE K τ E' (t E') f] : RefE K τ E (tLam τ (TSaid C ms wd) t) (dSaid C ms wd f) := ⟨fun W A H σ ρ Qd R Q a h w => by
  refine ⟨W.tab H a.bs.inv, fun H1 e1 t1 => ?_⟩
  have f1 : Fr W.B H H1 := fr_ext e1
  have i1 := W.tbI H H1 a.bs.inv e1 t1
  have a1 := a.fr f1 i1
  have w1 := w.back f1
  refine (ht _).go W A H1 σ ρ _ _ _ ⟨a1.bs, a1.env, fun er x H' f' i' z r => ?_⟩ h fun v H' s f' i' r q => ?_
  · obtain ⟨m, hm, rfl, q⟩ := r
    have hx : x = none := by
      rcases z with z | z
      · exact z.2
      · exact absurd rfl z.1
    refine ⟨m, hm, rfl, hx, fun G t sm nt et => ?_⟩
    have b' := a1.bs.fr f' i'
    exact w1 (.ref t) G (.d (.tuple [.str (wd m)])) (f'.trans (Fr.of sm)) (W.stay _ _ sm i') (Rp.tup (.inl ⟨.inl et, b'.nA (nob nt)⟩) (.cons (.str _) .nil)) q
  · obtain ⟨x, ex, q⟩ := dat_iff (P := fun x => Qd (.d (.tuple [.str "told", x]))) q
    exact ⟨by show 2 ≤ sizeLine; decide, Want.tup (a1.bs.fr f' i') (w1.back f') (.cons (.str _) (.cons (r.dat a1.bs ex) .nil)) q⟩⟩
end
/-! ### a law, by its body -/
theorem tabs_updL {T : List (Addr × Str)} {G : Hp} {l : Addr} {o o' : HO} (h : Tabs T G) (e : G l = some o) (mb : Mb o) : Tabs T (upd G l o') := fun p hp => by
  obtain ⟨ps, h1, h2, h3⟩ := h p hp
  refine ⟨ps, (upd_ne (ne_of h1 e fun q => by cases mb <;> cases q)).trans h1, h2, fun pos cv hc => ?_⟩
  obtain ⟨c, e1, e2⟩ := h3 pos cv hc
  exact ⟨c, e1, (upd_ne (ne_of e2 e fun q => by
    unfold CodeO at q
    cases mb <;> cases q)).trans e2⟩
/-- the world of a law: the script, the tables -/
theorem law_world {K : PySem.W.Frag} {τ : List (Addr × Str)} {H : Hp} {a : Addr} {ns : List Int} (hS : SqL K H a (ns.map V.int)) (hT : Tabs τ H) : ∃ (W : Wld τ) (A : Addr → Prop), Bs W A H ∧ ∀ H, W.I H → SqL K H a (ns.map V.int) := by
  rcases hS with hS | hS
  · have hO : Ob H a := by
      rcases hS with h | ⟨o, h⟩
      · exact ⟨_, h, nt_lst⟩
      · exact ⟨_, h, nt_frz⟩
    refine ⟨{ B := fun b => b = a, I := fun G => Tabs τ G ∧ Rd G a (.lst (ns.map V.int)), tab := fun G h => h.1, tbI := fun G G' h e t => ⟨t, ?_⟩, stay := fun G G' s h => ⟨h.1.ext s, ?_⟩, own := fun G p o o' h e m m' np => ⟨tabs_updL h.1 e m, ?_⟩ }, fun b => b = a, ⟨fun _ h => h, fun b h => h ▸ hO, ⟨hT, hS⟩⟩, fun G h => .inl h.2⟩
    · rcases h.2 with z | ⟨o, z⟩
      · exact .inl (e _ _ z nt_lst)
      · exact .inr ⟨o, e _ _ z nt_frz⟩
    · rcases h.2 with z | ⟨o, z⟩
      · exact .inl (s _ _ z)
      · exact .inr ⟨o, s _ _ z⟩
    · rcases h.2 with z | ⟨o, z⟩
      · exact .inl ((upd_ne fun q => np q.symm).trans z)
      · exact .inr ⟨o, (upd_ne fun q => np q.symm).trans z⟩
  · exact ⟨{ B := fun _ => False, I := fun G => Tabs τ G, tab := fun G h => h, tbI := fun G G' h e t => t, stay := fun G G' s h => h.ext s, own := fun G p o o' h e m m' np => tabs_updL h e m }, fun _ => False, ⟨fun _ h => h, fun b h => h.elim, hT⟩, fun G _ => .inr hS⟩
/-- what is left to be shown of a law's body -/
def ReadsL (K : PySem.W.Frag) (τ : List (Addr × Str)) (E : XK) (t : TS) (N : List Str) : Prop := ∃ g, RefS K τ E t g ∧ ∀ ns : List Int, g { nx := fun _ => False, rt := fun s => s = .d (.bool true) } (fun _ => False) (startD N [.scr ns])
theorem ReadsL.run {K : PySem.W.Frag} {τ : List (Addr × Str)} {E : XK} {t : TS} {N : List Str} (h : ReadsL K τ E t N) {H : Hp} {a : Addr} {ns : List Int} {nx : L2.St → Hp → Prop} {Q : VK} (hS : SqL K H a (ns.map V.int)) (hT : Tabs τ H) (hQ : ∀ G, Q (.bl true) G) : t { nx := nx, rt := Q } (L2.start N [.ref a]) H := by
  obtain ⟨g, hg, h⟩ := h
  obtain ⟨W, A, b, sc⟩ := law_world hS hT
  have r : VlsR K W A H H [.ref a] [.scr ns] := .cons ⟨a, rfl, sc⟩ .nil
  have ar : ∀ s ∈ ([.scr ns] : List Sl), s.arg := fun s hs => by
    rw [List.mem_singleton.mp hs]
    trivial
  have env := env_start (N := N) r ar
  refine hg.go W A H _ { nx := fun _ => False, rt := fun s => s = .d (.bool true) } (fun _ => False) H _ _ [] [] b ⟨W, A, WLe.refl W H, fun _ z => z, b, Fr.refl H, by rw [List.append_nil, List.append_nil]; exact env, env.len, fun i p t e k _ => ?_⟩ ⟨fun H' σ ρ sr z => False.elim z, fun v H' s f i r z => ?_, fun H' σ ρ sr z => False.elim z, fun H' σ ρ sr z => False.elim z⟩ (fun er x H' f i z r => r.elim) (h ns)
  · have := List.mem_of_getElem? e
    rcases List.mem_append.mp this with z | z
    · have := ar _ z
      cases t <;> first | exact this.elim | exact k.elim
    · rw [(List.mem_replicate.mp z).2] at k
      exact k.elim
  · have z' : s = .d (.bool true) := z
    subst z'
    obtain rfl := r.flat (u := .bl true) rfl
    exact hQ H'
/-- a freeze ahead of a block -/
theorem pss_fz {X : Cx} {ss : List Stmt} {t : TS} (i : Nat) (h : PSs X ss t) : PSs X ss (tFz i t) := h
end Dl

namespace Dl
open PySem PySem.Spec PyProof.Rows L2
/-! ### the rules with their written part by name -/
section
variable {X : Cx} {K : PySem.W.Frag}
theorem op_addK (h : X.K = K) : OpR X (binaryOp .Add) (rAddX K) := h ▸ op_addX
theorem op_mulK (h : X.K = K) : OpR X (binaryOp .Mult) (rMulX K) := h ▸ op_mulX
theorem op_eqK (h : X.K = K) (hu : X.A.units + 64 < cLine) : OpR X (compareOp .Eq) (rEqD K) := h ▸ op_eqD hu
theorem op_neK (h : X.K = K) (hu : X.A.units + 64 < cLine) : OpR X (compareOp .NotEq) (rNeD K) := h ▸ op_neD hu
theorem op_inK (h : X.K = K) : OpR X (compareOp .In) (rIn K false) := h ▸ op_in_seq
theorem op_notInK (h : X.K = K) : OpR X (compareOp .NotIn) (rIn K true) := h ▸ op_notIn_seq
theorem ix_seqK (h : X.K = K) : IxR X (rIx K) := h ▸ ix_seq
theorem sl_anyK (h : X.K = K) : L2.SlR X (rSlX K) := h ▸ sl_any
theorem call_isiQ (h : X.K = K) : CallR X (.builtin "isinstance") (rIsi K) := h ▸ call_isi
theorem cr_allK (hc : X.calm = true) (h : X.K = K) : CallR X (.builtin "all") (rAll K) := h ▸ cr_all hc
theorem cr_anyK (hc : X.calm = true) (h : X.K = K) : CallR X (.builtin "any") (rAny K) := h ▸ cr_any hc
theorem cr_sumK (hc : X.calm = true) (h : X.K = K) : CallR X (.builtin "sum") (rSum K) := h ▸ cr_sum hc
theorem cr_maxK (hc : X.calm = true) (h : X.K = K) : CallR X (.builtin "max") (rMax K) := h ▸ cr_max hc
theorem cr_minK (hc : X.calm = true) (h : X.K = K) : CallR X (.builtin "min") (rMin K) := h ▸ cr_min hc
theorem cr_sortedK (h : X.K = K) : CallR X (.builtin "sorted") (rSorted K) := h ▸ cr_sorted
def rLenK (K : PySem.W.Frag) : List V → Hp → VK → Prop := fun xs H Q => ∃ p ys, xs = [.ref p] ∧ (SqL K H p ys ∨ SqT K H p ys) ∧ Q (.int ys.length) H
theorem call_lenK (h : X.K = K) : CallR X (.builtin "len") (rLenK K) := h ▸ call_len_seq
def rListK (K : PySem.W.Frag) : List V → Hp → VK → Prop := fun xs H Q => ∃ p ys, xs = [.ref p] ∧ (SqL K H p ys ∨ SqT K H p ys) ∧ ∀ l, H l = none → Q (.ref l) (upd H l (.lst ys))
theorem call_listK (h : X.K = K) : CallR X (.type "list") (rListK K) := h ▸ call_list_of
def rTupleK (K : PySem.W.Frag) : List V → Hp → VK → Prop := fun xs H Q => ∃ p ys, xs = [.ref p] ∧ ((SqL K H p ys ∧ ∀ l, H l = none → Q (.ref l) (upd H l (.tup ys))) ∨ (SqT K H p ys ∧ Q (.ref p) H))
theorem call_tupleK (h : X.K = K) : CallR X (.type "tuple") (rTupleK K) := h ▸ call_tuple_of
theorem call_reprQ (h : X.K = K) (hg : X.A.guards = some []) (hu : X.A.units + 64 < cLine) : CallR X (.builtin "repr") (rReprG K) := h ▸ call_reprG hg hu
theorem pt_truK {a : Expr} {ta : TE} (h : X.K = K) (ha : PE X a ta) (he : ∀ whole, isTrue a X.env whole = (do let v ← whole; standAt a.pos; holding [v] (truthy v))) : PT X a (tTru K ta) := h ▸ pt_tru ha he
theorem pi_listK {tg e : Expr} {te : TE} (h : X.K = K) (he : PE X e te) : PI X tg e (iList K te) := h ▸ pi_list he
theorem pi_tupK {tg e : Expr} {te : TE} (h : X.K = K) (he : PE X e te) : PI X tg e (iTup K te) := h ▸ pi_tup he
theorem pi_enumK {e : Expr} {ta : TA} {p pos tp : Pos} {elts : List Expr} {kk : Nat} (h : X.K = K) (ge : Gl X "enumerate") (me : X.mg "enumerate" = none) (ha : PA X [e] ta) (hs : starEach [e] X.env = [(false, eval e X.env)] := by rfl) :
    PI X (.Tuple elts kk tp) (.Call (.Name "enumerate" p) [e] [] pos) (iEnumT K ta) := h ▸ pi_enumT ge me ha hs
theorem pi_enumLK {e : Expr} {ta : TA} {p pos tp : Pos} {elts : List Expr} {kk : Nat} (h : X.K = K) (ge : Gl X "enumerate") (me : X.mg "enumerate" = none) (ha : PA X [e] ta) (hs : starEach [e] X.env = [(false, eval e X.env)] := by rfl) :
    PI X (.Tuple elts kk tp) (.Call (.Name "enumerate" p) [e] [] pos) (iEnum K ta) := h ▸ pi_enum ge me ha hs
theorem pi_zipK {e e2 : Expr} {ta : TA} {p pos tpos : Pos} {elts : List Expr} {kk : Nat} (h : X.K = K) (hg : Gl X "zip") (hm : X.mg "zip" = none) (ha : PA X [e, e2] ta)
    (hs : starEach [e, e2] X.env = (false, eval e X.env) :: starEach [e2] X.env := by rfl) (hpl : (backTo pos (starEach [e2] X.env)).any (·.1) = false := by rfl) :
    PI X (.Tuple elts kk tpos) (.Call (.Name "zip" p) [e, e2] [] pos) (RZ.iZipA K ta) := h ▸ RZ.pi_zipA hg hm ha hs hpl
theorem pe_backK {e : Expr} {te : TE} {k : Nat} {u1 u2 u3 u4 : Pos} (h : X.K = K) (he : PE X e te) : PE X (.Subscript e (.Slice none none (some (.UnaryOp .USub (.Constant (.int 1) k u1) u2)) u3) u4) (tBackT K te) := h ▸ pe_backT he
end
instance {K : PySem.W.Frag} : RefC K (rLenK K) fLen := ⟨fun W A H0 H xs ss Qd Q b f i rx h w => (inferInstance : RefC K (fun xs H Q => ∃ p ys, xs = [.ref p] ∧ (SqL K H p ys ∨ SqT K H p ys) ∧ Q (.int ys.length) H) fLen).go W A H0 H xs ss Qd Q b f i rx h w⟩
instance {K : PySem.W.Frag} : RefC K (rListK K) fList := ⟨fun W A H0 H xs ss Qd Q b f i rx h w => (inferInstance : RefC K (fun xs H Q => ∃ p ys, xs = [.ref p] ∧ (SqL K H p ys ∨ SqT K H p ys) ∧ ∀ l, H l = none → Q (.ref l) (upd H l (.lst ys))) fList).go W A H0 H xs ss Qd Q b f i rx h w⟩
instance {K : PySem.W.Frag} : RefC K (rTupleK K) fTuple := ⟨fun W A H0 H xs ss Qd Q b f i rx h w => (inferInstance : RefC K (fun xs H Q => ∃ p ys, xs = [.ref p] ∧ ((SqL K H p ys ∧ ∀ l, H l = none → Q (.ref l) (upd H l (.tup ys))) ∨ (SqT K H p ys ∧ Q (.ref p) H))) fTuple).go W A H0 H xs ss Qd Q b f i rx h w⟩
/-- a method, the written part by name -/
theorem pe_bmK {X : Cx} {K : PySem.W.Frag} {T id : String} {name : Str} {r : V → List V → Hp → VK → Prop} {o e : Expr} {es : List Expr} {to : TE} {t : TA} {apos cpos : Pos} (h : X.K = K) (pa : PlainAttrs T) (slot : Slot T name id) (hty : typeOf (.builtin id) = pure (.type "method_descriptor")) (hm : MtR X id r) (ho : PE X o to) (ha : PA X (e :: es) t)
    (hbase : attributeBase o name X.env (eval o X.env) = eval o X.env := by rfl)
    (hf : ((backTo cpos (starEach (e :: es) X.env)).all (fun x => !x.1) && (backToKw cpos (keywordEach [] X.env)).all (fun x => x.1.isSome) && decide ((e :: es).length + ([] : List Keyword).length + (if ([] : List Keyword).isEmpty then 0 else 1) < 30)) = true := by rfl)
    (hl : (apos.endLine == cpos.line) = true := by rfl) (hs : starEach (e :: es) X.env = (false, eval e X.env) :: starEach es X.env := by rfl) (hp : (backTo cpos (starEach es X.env)).any (·.1) = false := by rfl) : PE X (.Call (.Attribute o name apos) (e :: es) [] cpos) (tBM K T r to t) := by
  subst h
  exact pe_bm pa slot hty hm ho ha hbase hf hl hs hp
end Dl

namespace Dl
open PySem PySem.Spec PyProof.Rows L2
theorem pg_tupK {X : Cx} {K : PySem.W.Frag} {ts : List Expr} {t : TGs} {i n : Nat} {pos : Pos} (h : X.K = K) (hc : X.calm = true) (hs : PGs X ts t) (en : (assignEach ts X.env).length = n := by rfl) (es : (assignEach ts X.env).findIdx? (·.1) = none := by rfl) : PG X (.Tuple ts i pos) (gTup K n t) := h ▸ pg_tup hc hs en es
/-! ### shapes of data -/
/-- data that can be compared, of at most so many depths -/
structure Lay (d : PyData) (n : Nat) : Prop where
  c : d.canLay0 = true
  k : d.depth ≤ n
theorem Lay.mono {d : PyData} {n m : Nat} (h : Lay d n) (l : n ≤ m) : Lay d m := ⟨h.c, Nat.le_trans h.k l⟩
theorem Lay.sh {d : PyData} {n : Nat} (h : Lay d n) (l : n ≤ 64) : SeqAt.shaped d = true := by
  unfold SeqAt.shaped
  rw [h.c, Bool.true_and]
  exact decide_eq_true (Nat.le_trans h.k l)
theorem lay_int (i : Int) (n : Nat) : Lay (.int i) n := ⟨by simp [PyData.canLay0], by simp [PyData.depth]⟩
theorem lay_bool (i : Bool) (n : Nat) : Lay (.bool i) n := ⟨by simp [PyData.canLay0], by simp [PyData.depth]⟩
theorem lay_none (n : Nat) : Lay .none n := ⟨by simp [PyData.canLay0], by simp [PyData.depth]⟩
theorem lay_str {x : Str} (h : PyData.strOk x = true) (n : Nat) : Lay (.str x) n := ⟨by simp [PyData.canLay0, h], by simp [PyData.depth]⟩
theorem lay_all : ∀ {xs : List PyData} {n : Nat}, (∀ x ∈ xs, Lay x n) → PyData.canLayAll0 xs = true ∧ PyData.depthAll xs ≤ n
  | [], n, _ => by simp [PyData.canLayAll0, PyData.depthAll]
  | x :: r, n, h => by
    obtain ⟨a, b⟩ := lay_all (xs := r) (n := n) fun y hy => h y (List.mem_cons_of_mem _ hy)
    have hx := h x List.mem_cons_self
    refine ⟨by rw [PyData.canLayAll0, hx.c, a]; rfl, ?_⟩
    rw [PyData.depthAll]
    have := hx.k
    omega
theorem lay_tup {xs : List PyData} {n : Nat} (h : ∀ x ∈ xs, Lay x n) : Lay (.tuple xs) (n + 1) := by
  obtain ⟨a, b⟩ := lay_all h
  exact ⟨by rw [PyData.canLay0, a], by rw [PyData.depth]; omega⟩
theorem lay_lst {xs : List PyData} {n : Nat} (h : ∀ x ∈ xs, Lay x n) : Lay (.list xs) (n + 1) := by
  obtain ⟨a, b⟩ := lay_all h
  exact ⟨by rw [PyData.canLay0, a], by rw [PyData.depth]; omega⟩
theorem eqv_int (i j : Int) : PyData.eqv (.int i) (.int j) = decide (i = j) := by
  simp only [PyData.eqv]
  rfl
theorem eqv_bool (i j : Bool) : PyData.eqv (.bool i) (.bool j) = decide (i = j) := by
  simp only [PyData.eqv]
  cases i <;> cases j <;> rfl
theorem eqv_str (i j : Str) : PyData.eqv (.str i) (.str j) = (i == j) := by simp only [PyData.eqv]
theorem sh_int (i : Int) : SeqAt.shaped (.int i) = true := (lay_int i 0).sh (by decide)
theorem sh_bool (i : Bool) : SeqAt.shaped (.bool i) = true := (lay_bool i 0).sh (by decide)
theorem sh_none : SeqAt.shaped .none = true := (lay_none 0).sh (by decide)
theorem sh_str {x : Str} (h : PyData.strOk x = true) : SeqAt.shaped (.str x) = true := (lay_str h 0).sh (by decide)
/-! ### nets among data -/
def wholeD : PyData → Bool
  | .int _ => true
  | _ => false
def withinD (lo hi : Int) : PyData → Bool
  | .int i => decide (lo ≤ i) && decide (i ≤ hi)
  | _ => false
theorem withinD_true {lo hi : Int} {x : PyData} (h : withinD lo hi x = true) : ∃ i, x = .int i ∧ lo ≤ i ∧ i ≤ hi := by
  cases x with
  | int i =>
    have h : (decide (lo ≤ i) && decide (i ≤ hi)) = true := h
    rw [Bool.and_eq_true, decide_eq_true_eq, decide_eq_true_eq] at h
    exact ⟨i, rfl, h.1, h.2⟩
  | _ => cases h
theorem withinD_of {lo hi i : Int} (a : lo ≤ i) (b : i ≤ hi) : withinD lo hi (.int i) = true := by
  show (decide (lo ≤ i) && decide (i ≤ hi)) = true
  rw [decide_eq_true a, decide_eq_true b]
  rfl
theorem withinD_not {lo hi i : Int} (h : i < lo ∨ hi < i) : withinD lo hi (.int i) = false := by
  show (decide (lo ≤ i) && decide (i ≤ hi)) = false
  rcases h with h | h
  · rw [decide_eq_false (by omega)]
    rfl
  · rw [decide_eq_false (show ¬ (i ≤ hi) by omega), Bool.and_false]
def tupD (n : Int) : PyData → Bool
  | .tuple xs => decide ((xs.length : Int) = n)
  | _ => false
def isT : PyData → Bool
  | .tuple _ => true
  | _ => false
def neI : PyData → PyData → Bool
  | .int i, .int j => !decide (i = j)
  | _, _ => false
def roadD (p : Int) : PyData → Bool
  | .tuple [a, b, c, t] => withinD 0 (p - 1) a && (withinD 0 (p - 1) b && (neI a b && (withinD 1 99 c && withinD 0 99 t)))
  | _ => false
def netD : PyData → Bool
  | .tuple [.int p, .tuple rs] => withinD 1 10 (.int p) && (decide (rs.length ≤ 30) && rs.all (roadD p))
  | _ => false
/-- a road, a net -/
structure Road where
  one : Int
  other : Int
  cost : Int
  time : Int
  deriving DecidableEq
def Road.dt (q : Road) : PyData := .tuple [.int q.one, .int q.other, .int q.cost, .int q.time]
structure RoadOk (p : Int) (q : Road) : Prop where
  o1 : 0 ≤ q.one
  o2 : q.one ≤ p - 1
  t1 : 0 ≤ q.other
  t2 : q.other ≤ p - 1
  ne : q.one ≠ q.other
  c1 : 1 ≤ q.cost
  c2 : q.cost ≤ 99
  m1 : 0 ≤ q.time
  m2 : q.time ≤ 99
structure NetOk (p : Int) (rs : List Road) : Prop where
  p1 : 1 ≤ p
  p2 : p ≤ 10
  len : rs.length ≤ 30
  all : ∀ q ∈ rs, RoadOk p q
def netT (p : Int) (rs : List Road) : PyData := .tuple [.int p, .tuple (rs.map Road.dt)]
theorem roadD_ok {p : Int} {q : Road} (h : RoadOk p q) : roadD p q.dt = true := by
  show (withinD 0 (p - 1) (.int q.one) && (withinD 0 (p - 1) (.int q.other) && (!decide (q.one = q.other) && (withinD 1 99 (.int q.cost) && withinD 0 99 (.int q.time))))) = true
  rw [withinD_of h.o1 h.o2, withinD_of h.t1 h.t2, withinD_of h.c1 h.c2, withinD_of h.m1 h.m2, decide_eq_false h.ne]
  rfl
theorem netD_ok {p : Int} {rs : List Road} (h : NetOk p rs) : netD (netT p rs) = true := by
  show (withinD 1 10 (.int p) && (decide ((rs.map Road.dt).length ≤ 30) && (rs.map Road.dt).all (roadD p))) = true
  rw [withinD_of h.p1 h.p2, decide_eq_true (by rw [List.length_map]; exact h.len), List.all_eq_true.mpr fun x hx => ?_]
  · rfl
  · obtain ⟨q, hq, rfl⟩ := List.mem_map.mp hx
    exact roadD_ok (h.all q hq)
theorem lay_road (q : Road) : Lay q.dt 1 := lay_tup fun x hx => by
  simp only [List.mem_cons, List.not_mem_nil, or_false] at hx
  rcases hx with rfl | rfl | rfl | rfl <;> exact lay_int _ 0
theorem lay_net (p : Int) (rs : List Road) : Lay (netT p rs) 3 := lay_tup fun x hx => by
  simp only [List.mem_cons, List.not_mem_nil, or_false] at hx
  rcases hx with rfl | rfl
  · exact lay_int _ 2
  · refine lay_tup fun x hx => ?_
    obtain ⟨q, _, rfl⟩ := List.mem_map.mp hx
    exact lay_road q
/-! ### how long the text of a net is -/
theorem Sh.small {i : Int} (h : i.natAbs ≤ 1000) : Sh (.int i) 40 0 := Sh.int (Nat.lt_of_le_of_lt h (by decide +kernel))
theorem Sh.road {p : Int} {q : Road} (h : RoadOk p q) (hp : p ≤ 10) : Sh q.dt 172 1 := by
  refine (Sh.tuple (n := 40) (m := 0) (k := 4) (fun d hd => ?_) (Nat.le_refl _)).mono (by decide) (Nat.le_refl _)
  have o1 := h.o1
  have o2 := h.o2
  have t1 := h.t1
  have t2 := h.t2
  have c1 := h.c1
  have c2 := h.c2
  have m1 := h.m1
  have m2 := h.m2
  simp only [List.mem_cons, List.not_mem_nil, or_false] at hd
  rcases hd with rfl | rfl | rfl | rfl <;> exact Sh.small (by omega)
theorem Sh.net {p : Int} {rs : List Road} (h : NetOk p rs) : Sh (netT p rs) 11000 3 := by
  have s1 : Sh (.tuple (rs.map Road.dt)) (4 + 30 * (172 + 2)) 2 := Sh.tuple (n := 172) (m := 1) (k := 30) (fun d hd => by
    obtain ⟨q, hq, rfl⟩ := List.mem_map.mp hd
    exact Sh.road (h.all q hq) h.p2) (by rw [List.length_map]; exact h.len)
  have s2 : Sh (.int p) 40 0 := Sh.small (by have := h.p1; have := h.p2; omega)
  refine (Sh.tuple (n := 4 + 30 * (172 + 2)) (m := 2) (k := 2) (fun d hd => ?_) (Nat.le_refl _)).mono (by decide) (Nat.le_refl _)
  simp only [List.mem_cons, List.not_mem_nil, or_false] at hd
  rcases hd with rfl | rfl
  · exact s2.mono (by decide) (by decide)
  · exact s1
/-- no dict in it -/
theorem noDict_all : ∀ {xs : List PyData}, (∀ x ∈ xs, x.hasDict = false) → PyData.hasDictAll xs = false
  | [], _ => by rw [PyData.hasDictAll]
  | x :: r, h => by
    rw [PyData.hasDictAll, h x List.mem_cons_self, noDict_all fun y hy => h y (List.mem_cons_of_mem _ hy)]
    rfl
mutual
theorem noDict_lay : ∀ {d : PyData}, d.canLay0 = true → d.hasDict = false
  | .none, _ => by simp [PyData.hasDict]
  | .bool _, _ => by simp [PyData.hasDict]
  | .int _, _ => by simp [PyData.hasDict]
  | .str _, _ => by simp [PyData.hasDict]
  | .list xs, h => by
    rw [PyData.hasDict]
    exact noDict_lays (by simpa [PyData.canLay0] using h)
  | .tuple xs, h => by
    rw [PyData.hasDict]
    exact noDict_lays (by simpa [PyData.canLay0] using h)
  | .dict _, h => by simp [PyData.canLay0] at h
theorem noDict_lays : ∀ {xs : List PyData}, PyData.canLayAll0 xs = true → PyData.hasDictAll xs = false
  | [], _ => by rw [PyData.hasDictAll]
  | x :: r, h => by
    rw [PyData.canLayAll0, Bool.and_eq_true] at h
    rw [PyData.hasDictAll, noDict_lay h.1, noDict_lays h.2]
    rfl
end
theorem okR_lay {d : PyData} {n : Nat} (h : Lay d n) : okR d = true := by
  unfold okR
  rw [noDict_lay h.c]
  rfl
end Dl

namespace Dl
open PySem PySem.Spec PyProof.Rows L2
section
variable {K : PySem.W.Frag} {E : XK}
/-! ### written dicts -/
theorem Want.dct {τ : List (Addr × Str)} {W : Wld τ} {A : Addr → Prop} {H : Hp} {Qd : Sl → Prop} {Q : VK} {kvs : List (Key × V)} {ds : List PyData} (b : Bs W A H) (h : Want K W A H Qd Q) (r : RpAll K A H (kvs.map (·.2)) ds) (q : Qd (.d (.dict ((kvs.map fun (z : Key × V) => keyD z.1).zip ds)))) : ∀ p, H p = none → Q (.ref p) (upd H p (.dK kvs)) := fun p n =>
  h _ _ (.d (.dict ((kvs.map fun (z : Key × V) => keyD z.1).zip ds))) (Fr.new n) (W.stay _ _ (same_new n) b.inv) (Rp.dct upd_same (b.nA (nob n)) (r.go (goes_fr b.ba (Fr.new n)))) q
def dDict0 : TD := fun _ Qd _ => Qd (.d (.dict []))
instance : RefE K τ E tDNewK dDict0 := ⟨fun W A H σ ρ Qd R Q a h w => Want.dct (kvs := []) (ds := []) a.bs w .nil h⟩
def dDict1 (k n : Int) : TD := fun _ Qd _ => Qd (.d (.dict [(.int k, .int n)]))
instance {k n : Int} : RefE K τ E (tDisp [(tC (.int k), tC (.int n))]) (dDict1 k n) := ⟨fun W A H σ ρ Qd R Q a h w => by
  intro p np
  refine ⟨upd_same, [(Sum.inl k, .int n)], rfl, by show 1 ≤ 15; decide, ?_⟩
  rw [upd_upd]
  exact Want.dct (kvs := [(Sum.inl k, .int n)]) (ds := [.int n]) a.bs w (.cons (.int n) .nil) h p np⟩
end
/-! ### what is drawn from a list -/
/-- the one of a number -/
theorem pick {α : Type} {xs : List α} {n : Int} (h0 : 0 ≤ n) (h1 : n < (xs.length : Int)) : ∃ v, v ∈ xs ∧ L2.atI xs n = some v := by
  obtain ⟨m, rfl⟩ := Int.eq_ofNat_of_zero_le h0
  have hm : m < xs.length := by omega
  exact ⟨xs[m], List.getElem_mem hm, L2.atI_nat (List.getElem?_eq_getElem hm)⟩
/-- an item, where the list is known and the number drawn -/
theorem fIx_pick {xs : List PyData} {n : Int} {Qd : Sl → Prop} (h0 : 0 ≤ n) (h1 : n < (xs.length : Int)) (h : ∀ d ∈ xs, Qd (.d d)) : fIx (.ml xs) (.d (.int n)) Qd := by
  obtain ⟨v, hv, e⟩ := pick h0 h1
  show (match L2.atI xs n with | some d => Qd (.d d) | none => False)
  rw [e]
  exact h v hv
theorem fIx_at {xs : List PyData} {n : Nat} {d : PyData} {Qd : Sl → Prop} (e : xs[n]? = some d) (h : Qd (.d d)) : fIx (.d (.tuple xs)) (.d (.int (n : Int))) Qd := by
  show (match L2.atI xs (n : Int) with | some d => Qd (.d d) | none => False)
  rw [L2.atI_nat e]
  exact h
theorem fIxL_at {xs : List PyData} {n : Nat} {d : PyData} {Qd : Sl → Prop} {s : Sl} (hs : s.seq = some xs) (e : xs[n]? = some d) (h : Qd (.d d)) : fIxL s (.d (.int (n : Int))) Qd := by
  unfold fIxL
  rw [hs]
  show (match L2.atI xs (n : Int) with | some d => Qd (.d d) | none => False)
  rw [L2.atI_nat e]
  exact h
/-! ### slices -/
theorem sIx_nat {n d m : Nat} (h : m ≤ n) : HT.sIx n d (some (m : Int)) = m := by
  rw [HT.sIx_nat, Nat.min_eq_left h]
theorem cutD_take {xs : List PyData} {m : Nat} (h : m ≤ xs.length) : cutD xs none (some (m : Int)) = xs.take m := by
  unfold cutD
  rw [sIx_nat h]
  show (xs.drop 0).take (m - 0) = _
  rw [List.drop_zero, Nat.sub_zero]
theorem cutD_drop {xs : List PyData} {m : Nat} (h : m ≤ xs.length) : cutD xs (some (m : Int)) none = xs.drop m := by
  unfold cutD
  rw [sIx_nat h]
  show (xs.drop m).take (xs.length - m) = _
  rw [List.take_of_length_le (by rw [List.length_drop]; omega)]
end Dl

namespace Dl
open PySem PySem.Spec PyProof.Rows L2
theorem rangeD_get {lo : Int} {n i : Nat} {d : PyData} (h : (rangeD lo n)[i]? = some d) : i < n ∧ d = .int (lo + (i : Int)) := by
  unfold rangeD at h
  rw [List.getElem?_map] at h
  have hi : i < n := by
    rcases Nat.lt_or_ge i n with z | z
    · exact z
    · rw [List.getElem?_eq_none (by rw [List.length_range]; exact z)] at h
      cases h
  rw [List.getElem?_range hi] at h
  cases h
  exact ⟨hi, rfl⟩
theorem rangeD_len (lo : Int) (n : Nat) : (rangeD lo n).length = n := by rw [rangeD, List.length_map, List.length_range]
/-- a number among drawn ones -/
theorem fIx_num {xs : List PyData} {n lo hi : Int} {Qd : Sl → Prop} (h0 : 0 ≤ n) (h1 : n < (xs.length : Int)) (hx : ∀ d ∈ xs, ∃ i : Int, d = .int i ∧ lo ≤ i ∧ i ≤ hi) (h : ∀ i : Int, lo ≤ i → i ≤ hi → Qd (.d (.int i))) : fIx (.ml xs) (.d (.int n)) Qd := fIx_pick h0 h1 fun d hd => by
  obtain ⟨i, rfl, a, b⟩ := hx d hd
  exact h i a b
theorem other_ok {a b p : Int} (a0 : 0 ≤ a) (a1 : a < p) (b0 : 0 ≤ b) (b1 : b < p - 1) : 0 ≤ (a + 1 + b) % p ∧ (a + 1 + b) % p ≤ p - 1 ∧ a ≠ (a + 1 + b) % p := by
  by_cases h : a + 1 + b < p
  · rw [Int.emod_eq_of_lt (by omega) h]
    omega
  · have e : a + 1 + b = (a + 1 + b - p) + p := by omega
    rw [e, Int.add_emod_right, Int.emod_eq_of_lt (by omega) (by omega)]
    omega
/-! ### what the operators tell of known things -/
section
variable {Qd : Sl → Prop} {i j : Int} {a b : Bool} {x y : Str} {xs ys : List PyData} {g : Int → Int → V} {C : Int → Int → Prop} {d e : PyData} {s u : Sl} {neg : Bool} {lo hi : Option Int}
theorem fI0_c : fI0 g (.d (.int i)) (.d (.int j)) Qd = Qd (vS (g i j)) := propext Iff.rfl
theorem fI_c : fI C g (.d (.int i)) (.d (.int j)) Qd = (C i j ∧ Qd (vS (g i j))) := propext Iff.rfl
theorem fU_c {g : Int → V} : fU g (.d (.int i)) Qd = Qd (vS (g i)) := propext Iff.rfl
theorem fAddX_i : fAddX (.d (.int i)) (.d (.int j)) Qd = Qd (.d (.int (i + j))) := propext Iff.rfl
theorem fAddX_t : fAddX (.d (.tuple xs)) (.d (.tuple ys)) Qd = (xs.length + ys.length ≤ sizeLine ∧ Qd (.d (.tuple (xs ++ ys)))) := propext Iff.rfl
theorem fAddX_s : fAddX (.d (.str x)) (.d (.str y)) Qd = (x.length + y.length ≤ sizeLine ∧ Qd (.d (.str (x ++ y)))) := propext Iff.rfl
theorem fAddX_mm : fAddX (.ml xs) (.ml ys) Qd = (xs.length + ys.length ≤ sizeLine ∧ Qd (.ml (xs ++ ys))) := propext Iff.rfl
theorem fAddX_bm : fAddX (.bl xs) (.ml ys) Qd = (xs.length + ys.length ≤ sizeLine ∧ Qd (.ml (xs ++ ys))) := propext Iff.rfl
theorem fAddX_mb : fAddX (.ml xs) (.bl ys) Qd = (xs.length + ys.length ≤ sizeLine ∧ Qd (.ml (xs ++ ys))) := propext Iff.rfl
theorem fAddX_bb : fAddX (.bl xs) (.bl ys) Qd = (xs.length + ys.length ≤ sizeLine ∧ Qd (.ml (xs ++ ys))) := propext Iff.rfl
theorem fAddX_lm : fAddX (.d (.list xs)) (.ml ys) Qd = (xs.length + ys.length ≤ sizeLine ∧ Qd (.ml (xs ++ ys))) := propext Iff.rfl
theorem fAddX_ll : fAddX (.d (.list xs)) (.d (.list ys)) Qd = (xs.length + ys.length ≤ sizeLine ∧ Qd (.ml (xs ++ ys))) := propext Iff.rfl
theorem fMulX_i : fMulX (.d (.int i)) (.d (.int j)) Qd = (CMul i j ∧ Qd (.d (.int (i * j)))) := propext Iff.rfl
theorem fMulX_m : fMulX (.ml xs) (.d (.int j)) Qd = (-(2 ^ 63) ≤ j ∧ j < 2 ^ 63 ∧ xs.length * j.toNat ≤ sizeLine ∧ Qd (.ml (List.replicate j.toNat xs).flatten)) := propext Iff.rfl
theorem fSlX_t : fSlX (.d (.tuple xs)) lo hi Qd = Qd (.d (.tuple (cutD xs lo hi))) := propext Iff.rfl
theorem fSlX_m : fSlX (.ml xs) lo hi Qd = Qd (.ml (cutD xs lo hi)) := propext Iff.rfl
theorem fSlX_b : fSlX (.bl xs) lo hi Qd = Qd (.ml (cutD xs lo hi)) := propext Iff.rfl
theorem fSlX_l : fSlX (.d (.list xs)) lo hi Qd = Qd (.ml (cutD xs lo hi)) := propext Iff.rfl
theorem fIs_n : fIs neg (.d .none) (.d .none) Qd = Qd (.d (.bool !neg)) := by cases neg <;> rfl
theorem fIs_i : fIs neg (.d (.int i)) (.d .none) Qd = Qd (.d (.bool neg)) := by cases neg <;> rfl
theorem fIs_b : fIs neg (.d (.bool a)) (.d .none) Qd = Qd (.d (.bool neg)) := by cases neg <;> rfl
theorem fIs_s : fIs neg (.d (.str x)) (.d .none) Qd = Qd (.d (.bool neg)) := by cases neg <;> rfl
theorem fIs_l : fIs neg (.d (.list xs)) (.d .none) Qd = Qd (.d (.bool neg)) := by cases neg <;> rfl
theorem fIs_t : fIs neg (.d (.tuple xs)) (.d .none) Qd = Qd (.d (.bool neg)) := by cases neg <;> rfl
theorem fIs_m : fIs neg (.ml xs) (.d .none) Qd = Qd (.d (.bool neg)) := by cases neg <;> rfl
theorem fIs_bl : fIs neg (.bl xs) (.d .none) Qd = Qd (.d (.bool neg)) := by cases neg <;> rfl
theorem fLen_t : fLen [.d (.tuple xs)] Qd = Qd (.d (.int xs.length)) := propext Iff.rfl
theorem fLen_l : fLen [.d (.list xs)] Qd = Qd (.d (.int xs.length)) := propext Iff.rfl
theorem fLen_m : fLen [.ml xs] Qd = Qd (.d (.int xs.length)) := propext Iff.rfl
theorem fLen_b : fLen [.bl xs] Qd = Qd (.d (.int xs.length)) := propext Iff.rfl
theorem fLen_scr {ns : List Int} : fLen [.scr ns] Qd = Qd (.d (.int ns.length)) := by
  show Qd (.d (.int ((ns.map PyData.int).length : Nat))) = _
  rw [List.length_map]
theorem fIsi_c {T : String} : fIsi [.d d, .raw (.ty T)] Qd = (okTy T ∧ Qd (.d (.bool (isiD (tyD d) T)))) := propext Iff.rfl
theorem fEqD_c : fEqD neg (.d d) (.d e) Qd = (SeqAt.shaped d = true ∧ SeqAt.shaped e = true ∧ Qd (.d (.bool (if neg then !PyData.eqv d e else PyData.eqv d e)))) := propext Iff.rfl
theorem fEqD_mm : fEqD neg (.ml xs) (.ml ys) Qd = (SeqAt.shaped (.list xs) = true ∧ SeqAt.shaped (.list ys) = true ∧ Qd (.d (.bool (if neg then !PyData.eqv (.list xs) (.list ys) else PyData.eqv (.list xs) (.list ys))))) := propext Iff.rfl
theorem fEqD_bm : fEqD neg (.bl xs) (.ml ys) Qd = (SeqAt.shaped (.list xs) = true ∧ SeqAt.shaped (.list ys) = true ∧ Qd (.d (.bool (if neg then !PyData.eqv (.list xs) (.list ys) else PyData.eqv (.list xs) (.list ys))))) := propext Iff.rfl
theorem fEqD_bb : fEqD neg (.bl xs) (.bl ys) Qd = (SeqAt.shaped (.list xs) = true ∧ SeqAt.shaped (.list ys) = true ∧ Qd (.d (.bool (if neg then !PyData.eqv (.list xs) (.list ys) else PyData.eqv (.list xs) (.list ys))))) := propext Iff.rfl
theorem fEqD_dm : fEqD neg (.d d) (.ml ys) Qd = (SeqAt.shaped d = true ∧ SeqAt.shaped (.list ys) = true ∧ Qd (.d (.bool (if neg then !PyData.eqv d (.list ys) else PyData.eqv d (.list ys))))) := propext Iff.rfl
theorem fEq_ss : fEq neg (.d (.str x)) (.d (.str y)) Qd = (True ∧ Qd (.d (.bool (if neg then !decide (V.str x = V.str y) else decide (V.str x = V.str y))))) := by
  show (scal (.str x) (.str y) = true ∧ _) = _
  rw [show scal (.str x) (.str y) = true from rfl]
  simp
theorem fInt_i : fInt [.d (.int i)] Qd = Qd (.d (.int i)) := propext Iff.rfl
theorem fInt_b : fInt [.d (.bool a)] Qd = Qd (.d (.int (if a then 1 else 0))) := propext Iff.rfl
theorem fTuple_m : fTuple [.ml xs] Qd = Qd (.d (.tuple xs)) := propext Iff.rfl
theorem fTuple_b : fTuple [.bl xs] Qd = Qd (.d (.tuple xs)) := propext Iff.rfl
theorem fTuple_t : fTuple [.d (.tuple xs)] Qd = Qd (.d (.tuple xs)) := propext Iff.rfl
theorem fTuple_l : fTuple [.d (.list xs)] Qd = Qd (.d (.tuple xs)) := propext Iff.rfl
theorem fList_m : fList [.ml xs] Qd = Qd (.ml xs) := propext Iff.rfl
theorem fList_b : fList [.bl xs] Qd = Qd (.ml xs) := propext Iff.rfl
theorem fList_t : fList [.d (.tuple xs)] Qd = Qd (.ml xs) := propext Iff.rfl
theorem fList_l : fList [.d (.list xs)] Qd = Qd (.ml xs) := propext Iff.rfl
theorem f2I_c {g : Int → Int → Int} : f2I g [.d (.int i), .d (.int j)] Qd = Qd (.d (.int (g i j))) := propext Iff.rfl
theorem fRepr_c : fRepr [.d d] Qd = (Sh d 10000000 50 ∧ okR d = true ∧ Qd (.d (.str d.shown))) := propext Iff.rfl
theorem fRepr_b : fRepr [.bl xs] Qd = (Sh (.list xs) 10000000 50 ∧ okR (.list xs) = true ∧ Qd (.d (.str (PyData.list xs).shown))) := propext Iff.rfl
theorem fRepr_m : fRepr [.ml xs] Qd = (Sh (.list xs) 10000000 50 ∧ okR (.list xs) = true ∧ Qd (.d (.str (PyData.list xs).shown))) := propext Iff.rfl
theorem fStr_c : fStr [.d (.int i)] Qd = (i.natAbs.log2 < 1920 ∧ Qd (.d (.str (toString i)))) := propext Iff.rfl
theorem fAll_m {bs : List Bool} : fBools gAll [.ml (bs.map PyData.bool)] Qd = Qd (.d (.bool (bs.all id))) := by
  show (match (oAll dbool (bs.map PyData.bool)) with | some ns => gAll ns Qd | none => False) = _
  rw [bools_of]
  rfl
theorem fAny_m {bs : List Bool} : fBools gAny [.ml (bs.map PyData.bool)] Qd = Qd (.d (.bool (bs.any id))) := by
  show (match (oAll dbool (bs.map PyData.bool)) with | some ns => gAny ns Qd | none => False) = _
  rw [bools_of]
  rfl
theorem fSum_m {ns : List Int} : fInts gSum [.ml (ns.map PyData.int)] Qd = Qd (.d (.int ns.sum)) := by
  show (match (oAll dint (ns.map PyData.int)) with | some ns => gSum ns Qd | none => False) = _
  rw [ints_of]
  rfl
end
end Dl

namespace Dl
open PySem PySem.Spec PyProof.Rows L2
theorem pe_no {X : Cx} {e : Expr} : PE X e (fun _ _ _ => False) := ⟨fun _ _ _ _ _ _ h => h.elim⟩
/-- xs.count(x) of flat things -/
def rCountV (K : PySem.W.Frag) : V → List V → Hp → VK → Prop := fun x xs H Q => ∃ (a : Addr) (ys : List V) (y : V), x = V.ref a ∧ xs = [y] ∧ SqL K H a ys ∧ flatV y = true ∧ ys.all flatV = true ∧ Q (.int ((ys.countP fun u => eqV u y) : Nat)) H
theorem count_eqU {x : V} : ∀ {xs : List V} {us : List Value}, Vals xs us → xs.all flatV = true → us.countP (eqU x) = xs.countP fun y => eqV y x
  | _, _, .nil, _ => rfl
  | y :: r, _, .cons h t, f => by
    rw [List.all_cons, Bool.and_eq_true] at f
    rw [List.countP_cons, List.countP_cons, count_eqU t f.2, eqU_of h f.1]
theorem mt_countV {X : Cx} : MtR X "list.count" (rCountV X.K) := by
  intro pins s σ H x xs v us Q I rx rxs h
  obtain ⟨a, ys, y, rfl, rfl, sq, fy, fys, q⟩ := h
  cases rx
  cases rxs with
  | cons ry rt =>
    rename_i uy ut
    cases rt
    obtain ⟨its, rv, ⟨⟨cls, dd, data, sl⟩, n, ho, hc, hn, hd⟩, _⟩ := I.list sq
    simp only at hc hd
    subst hc hd
    refine call_meets PySem.F.slot_list_count ⟨_, ho, rfl⟩ PySem.F.entry_list_count (PySem.F.args_list_count_2 _ _) (SeqAt.list_countAt a its.toArray n dd sl uy (eqU y)) ⟨ho, fun u hu => mem_eqAt ry fy rv fys u (by simpa using hu), ?_⟩
    refine ⟨.int _, H, I.tok _, ⟨s.toks, ?_⟩, q⟩
    show Value.int ((its.toArray.toList.countP (eqU y) : Nat) : Int) s.toks = _
    rw [show its.toArray.toList = its from rfl, count_eqU rv fys]
/-! ### an error that is handled, and defs that are handed it -/
def ErrOf (D : Addr) (o : Obj) : Prop := Zc (.ref D) none o ∧ ∃ vs, o.data = .fields vs
theorem call_isP {X : Cx} {p : Addr × Obj} {D : Addr} (C : ExcC X.K D) (hp : p ∈ X.pn) (hz : ErrOf D p.2) : CallR X (.builtin "isinstance") (rIsE X.K D p.1) := by
  intro pins s σ H xs us Q I r h
  obtain ⟨c, cv, b, rfl, hc, e, q⟩ := h
  cases r with
  | cons rx rr =>
    cases rr with
    | cons rt rn =>
      cases rn
      cases rx
      have ec := hc _ rt
      subst ec
      obtain ⟨got, _⟩ := I.pin p (List.mem_append.mpr (.inl hp))
      obtain ⟨pa, oe⟩ := p
      obtain ⟨⟨h1, h2⟩, vs, hv⟩ := hz
      have J : PySem.W.InstAt s.heap pa oe D none := by
        obtain ⟨oc, od, oda, osl⟩ := oe
        dsimp only at h1 h2 hv
        subst h1 h2 hv
        exact ⟨got, rfl, rfl, trivial⟩
      exact PySem.W.kia_one (PySem.W.handS_kitx_exc C.hg C.hk C.hs C.hd C.ha C.hn C.ht C.hm) I.kIn J e (fun z => nomatch z) fun tk => ⟨.bl b, H, I.kept (t' := tk) fun _ _ z => z, rfl, q⟩
/-- what a def promises that is called with the error of class D while it is handled -/
structure FnE (P : Program) (w : World) (K : PySem.W.Frag) (mg : Str → Option Value) (base : Heap) (k : Nat) (f : Addr) (fd : FuncData) (ps : List Str) (D : Addr) (sp : Addr → List V → Hp → VK → Prop) : Prop where
  len : ∀ a vs H Q, sp a vs H Q → vs.length = ps.length
  run : ∀ (A : Around) (outer : List Env) (s : Shared) (H : Hp) (args : Args) (us : List Value) (vs : List V) (Q : VK) (p : Addr × Obj), L2H.RoomH k A → L2H.PinOk outer H s p → ErrOf D p.2 → Env0 P w K mg base A outer s H → BindsTo s fd args (ps.zip us) → Vals vs us → sp p.1 vs H Q →
    codeAny (model P w) A (.call (.ref f) args) (CR CX0 outer P w H s Q E0) s
theorem fnE_of {P : Program} {w : World} {K : PySem.W.Frag} {mg : Str → Option Value} {base : Heap} {x : Str} {st : Stmt} {f D : Addr} {fd : FuncData} {N ps : List Str} {k : Nat} {sp : Addr → List V → Hp → VK → Prop} (F : Fun K x x st f fd) (S : FnScope N ps (defScope st)) (len : ∀ a vs H Q, sp a vs H Q → vs.length = ps.length)
    (body : ∀ (cdv : Value) (A : Around) (outer : List Env) (s : Shared) (H : Hp) (vs : List V) (Q : VK) (p : Addr × Obj), L2H.RoomH k (A.deeper (envOfC x (defScope st) s.heap.objs.size f cdv)) → ErrOf D p.2 → sp p.1 vs H Q →
      ∃ t, PSs (L2H.cxH CX0 P w K mg base N x (defScope st) f cdv A outer s H E0 p).nox (defBody st) t ∧ t { nx := fun _ G => Q .non G, rt := Q } (L2.start N vs) H) : FnE P w K mg base (k + 1) f fd ps D sp := by
  obtain ⟨oc, od, kV, doc, pm, an, cdv, ct, osl, rfl, lk, hcd⟩ := F.ex
  refine ⟨len, fun A outer s H args us vs Q p hr pin err e0 bnd rv hsp => ?_⟩
  have inK : K.In s.heap := e0.mod.kin.keeps fun b o e => (e0.bs b o e).1
  refine codeAny_call_function hr.depth (inK _ _ lk) rfl S.co S.gen rfl (PySem.W.codeRec_of inK hcd) (bnd _ _ _ _ ?_)
  refine wpAny_newFunctionEnv_cells S.kind (fun y hy => ?_) fun env he s1 inC => ?_
  · rcases S.par y.1 (List.of_mem_zip (show (y.1, y.2) ∈ ps.zip us from hy)).1 with z | z
    · exact .inl z
    · exact .inr ⟨z, PySem.W.cellsFrom_some _ _ _ (.inl z)⟩
  · subst he
    refine ⟨(e0.mod.nolimit.keeps fun b o e => (e0.bs b o e).1).keeps inC.toInCall.keep, codeAny_func ?_⟩
    obtain ⟨t, ht, hq⟩ := body cdv A outer s H vs Q p (hr.deeper _) err hsp
    have J : L2.Inv (L2H.cxH CX0 P w K mg base N x (defScope st) f cdv A outer s H E0 p) [] (L2.start N vs) H s1 := L2H.inv_startH S pin e0 (len _ _ _ _ hsp) rv inC
    refine wpAny_mono (ht.nox.run [] s1 (L2.start N vs) H _ J hq) (fun fl s' hs => ?_) fun e s' hs => hs
    cases fl with
    | ret u =>
      obtain ⟨v, σ', H', J', rv', q⟩ := hs
      exact ⟨v, H', J'.os, J'.bare, J'.base, J'.hok, rv', q⟩
    | next =>
      obtain ⟨σ', H', J', q⟩ := hs
      exact ⟨.non, H', J'.os, J'.bare, J'.base, J'.hok, rfl, q⟩
    | brk =>
      obtain ⟨_, _, _, q⟩ := hs
      exact q.elim
    | cont =>
      obtain ⟨_, _, _, q⟩ := hs
      exact q.elim
theorem pe_callE {X : Cx} {k : Nat} {f D : Addr} {fd : FuncData} {ps : List Str} {sp : Addr → List V → Hp → VK → Prop} {x : Str} {u1 u2 : Pos} {e : Expr} {es : List Expr} {t : TA} {p : Addr × Obj} (F : FnE X.prog X.w X.K X.mg X.base k f fd ps D sp) (hr : L2H.RoomH k X.A) (hp : p ∈ X.pn) (hz : ErrOf D p.2) (hg : Gl X x) (hm : X.mg x = some (.ref f))
    (hk : PySem.W.keepIn X.K (.ref f) = true) (hb : L2.Binds X.K fd ps []) (ha : PA X (e :: es) t) (hdb : (x == ("__debug__" : Str)) = false := by decide) (he : starEach (e :: es) X.env = (false, eval e X.env) :: starEach es X.env := by rfl) (hpl : (backTo u2 (starEach es X.env)).any (·.1) = false := by rfl) :
    PE X (.Call (.Name x u1) (e :: es) [] u2) (fun σ H Q => t σ H fun vs G => sp p.1 vs G Q) := by
  refine ⟨fun pins s σ H Q I h => wpAny_Call_Name_kw (ld_glob I hg hm ?_ hdb)⟩
  refine PySem.W.callWith_K (h₀ := X.base) I.ok.mod.kin hk (thn (ha.run u2 pins s σ H _ I h) fun us t1 ⟨vs, G, J, rv, q⟩ => ⟨J.kIn, ?_⟩) he hpl
  have hl : us.length = ps.length := by
    rw [← rv.length]
    exact F.len _ _ _ _ q
  have bnd := hb t1 us J.kIn (by rw [List.append_nil]; exact hl)
  rw [List.append_nil] at bnd
  have pp := J.pin p (List.mem_append_left _ hp)
  have pin : L2H.PinOk X.stack G t1 p := ⟨pp.1, pp.2.1, fun hm => (List.mem_cons.mp (J.stkSub p.1 hm)).elim pp.2.2.1 pp.2.2.2.1, pp.2.2.2.2⟩
  refine wpAny_call (codeAny_mono (F.run X.A X.stack t1 G ⟨us, []⟩ us vs Q p hr pin hz J.env0 bnd rv q) fun r s' hq => ?_)
  cases r with
  | error e => exact (show False from hq).elim
  | ok fl =>
    cases fl with
    | ret u => exact J.after hq
    | next => exact (show False from hq).elim
    | brk => exact (show False from hq).elim
    | cont => exact (show False from hq).elim
theorem pass00 {X : Cx} {P : Program} {w : World} : Passes (L2.CX P w) X E0 := fun _ _ _ _ _ _ _ h => by
  obtain ⟨a, B, H', cls, d, _, _, _, _, _, _, _, h⟩ := h
  exact h.elim
end Dl

namespace Dl
open PySem PySem.Spec PyProof.Rows L2
/-! ### a reading step by step: nothing is opened ahead of its value -/
def setK (i : Nat) (ρ : List Sl) (nx : List Sl → Prop) : Sl → Prop := fun s => match s with
  | .un => False
  | .bl _ => False
  | .bo _ => False
  | s => nx (ρ.set i s)
def retK (rt : Sl → Prop) : Sl → Prop := fun s => match s with
  | .bl _ => False
  | .st => False
  | .scr _ => False
  | .bo _ => False
  | s => rt s
def tstK (Qd : Bool → Prop) : Sl → Prop := fun s => match s with
  | .d (.bool b) => Qd b
  | _ => False
def truK (Qd : Bool → Prop) : Sl → Prop := fun s => match truD s with
  | some b => Qd b
  | none => False
def iteS (g h : TDS) (dd : DEnds) (R : Er → Prop) (ρ : List Sl) : Bool → Prop := fun b => match b with
  | true => g dd R ρ
  | false => h dd R ρ
def iteE (fa fb : TD) (ρ : List Sl) (Qd : Sl → Prop) (R : Er → Prop) : Bool → Prop := fun b => match b with
  | true => fa ρ Qd R
  | false => fb ρ Qd R
def andK (e : TDT) (ρ : List Sl) (Qd : Bool → Prop) (R : Er → Prop) : Bool → Prop := fun b => match b with
  | true => e ρ Qd R
  | false => Qd false
def orK (e : TDT) (ρ : List Sl) (Qd : Bool → Prop) (R : Er → Prop) : Bool → Prop := fun b => match b with
  | true => Qd true
  | false => e ρ Qd R
def andV (fb : TD) (ρ : List Sl) (Qd : Sl → Prop) (R : Er → Prop) : Bool → Prop := fun b => match b with
  | true => fb ρ Qd R
  | false => Qd (.d (.bool false))
def orV (fb : TD) (ρ : List Sl) (Qd : Sl → Prop) (R : Er → Prop) : Bool → Prop := fun b => match b with
  | true => Qd (.d (.bool true))
  | false => fb ρ Qd R
def asgK (fg : FG) (ρ : List Sl) (nx : List Sl → Prop) : Sl → Prop := fun s => match s.dat with
  | some x => fg x ρ nx
  | none => False
def chK (g : Sl → Sl → (Sl → Prop) → Prop) (fc : TD) (ρ : List Sl) (Qd : Sl → Prop) (R : Er → Prop) (u : Sl) : Sl → Prop := fun z => match z with
  | .d (.bool b) => (match b with
    | true => fc ρ (fun y => g u y Qd) R
    | false => Qd (.d (.bool false)))
  | _ => False
def tpK (Qd : List PyData → Prop) : Sl → Prop := fun s => match s.dat with
  | some (.tuple xs) => Qd xs
  | _ => False
def lsK (Qd : List PyData → Prop) : Sl → Prop := fun s => match s.dat with
  | some (.list xs) => Qd xs
  | _ => False
def sqK (Qd : List PyData → Prop) : Sl → Prop := fun s => match s.seq with
  | some xs => Qd xs
  | none => False
section
variable {dd : DEnds} {R : Er → Prop} {ρ : List Sl} {Qd : Sl → Prop} {Qb : Bool → Prop} {Ql : List PyData → Prop} {Qs : List Sl → Prop} {i j : Nat} {fe fa fb fc : TD} {g h : TDS} {c e : TDT} {x : PyData} {xs ys : List PyData} {v : V} {f f' : Sl → Sl → (Sl → Prop) → Prop} {nx : List Sl → Prop} {rt : Sl → Prop} {b : Bool} {fg : FG} {n : Int} {y : Str} {fi : TDI} {fA : TDA} {u : Sl}
theorem dNext_c : dNext dd R ρ = dd.nx ρ := propext Iff.rfl
theorem dBreak_c : dBreak dd R ρ = dd.bk ρ := propext Iff.rfl
theorem dCont_c : dCont dd R ρ = dd.ct ρ := propext Iff.rfl
theorem dSeq_c : dSeq g h dd R ρ = g { dd with nx := h dd R } R ρ := propext Iff.rfl
theorem dDrop_c : dDrop fe dd R ρ = fe ρ (fun _ => dd.nx ρ) R := propext Iff.rfl
theorem dRet_c : dRet fe dd R ρ = fe ρ (retK dd.rt) R := propext Iff.rfl
theorem retK_d : retK rt (.d x) = rt (.d x) := propext Iff.rfl
theorem retK_m : retK rt (.ml xs) = rt (.ml xs) := propext Iff.rfl
theorem retK_r : retK rt (.raw v) = rt (.raw v) := propext Iff.rfl
theorem dRetN_c : dRetN dd R ρ = dd.rt (.d .none) := propext Iff.rfl
theorem dIfS_c : dIfS c g h dd R ρ = c ρ (iteS g h dd R ρ) R := propext Iff.rfl
theorem iteS_t : iteS g h dd R ρ true = g dd R ρ := propext Iff.rfl
theorem iteS_f : iteS g h dd R ρ false = h dd R ρ := propext Iff.rfl
theorem dSet_c : dSet i fe dd R ρ = fe ρ (setK i ρ dd.nx) R := propext Iff.rfl
theorem setK_d : setK i ρ nx (.d x) = nx (ρ.set i (.d x)) := propext Iff.rfl
theorem setK_m : setK i ρ nx (.ml xs) = nx (ρ.set i (.ml xs)) := propext Iff.rfl
theorem setK_s : setK i ρ nx .st = nx (ρ.set i .st) := propext Iff.rfl
theorem setK_r : setK i ρ nx (.raw v) = nx (ρ.set i (.raw v)) := propext Iff.rfl
theorem dAsg_c : dAsg fe fg dd R ρ = fe ρ (asgK fg ρ dd.nx) R := propext Iff.rfl
theorem asgK_d : asgK fg ρ nx (.d x) = fg x ρ nx := propext Iff.rfl
theorem asgK_m : asgK fg ρ nx (.ml xs) = fg (.list xs) ρ nx := propext Iff.rfl
theorem dFz_c : dFz i g dd R ρ = g dd R (ρ.set i ((ρ[i]?).getD .un).fz) := propext Iff.rfl
theorem dNever_c : dNever dd R ρ = False := propext Iff.rfl
theorem dRaise_c {C : Addr} : dRaise C dd R ρ = R (C, []) := propext Iff.rfl
theorem dC_c : dC v ρ Qd R = Qd (vS v) := propext Iff.rfl
theorem dOp_c : dOp f fa fb ρ Qd R = fa ρ (fun s => fb ρ (fun u => f s u Qd) R) R := propext Iff.rfl
theorem dUn_c {f1 : Sl → (Sl → Prop) → Prop} : dUn f1 fa ρ Qd R = fa ρ (fun s => f1 s Qd) R := propext Iff.rfl
theorem dTst_c : dTst fe ρ Qb R = fe ρ (tstK Qb) R := propext Iff.rfl
theorem tstK_c : tstK Qb (.d (.bool b)) = Qb b := propext Iff.rfl
theorem dTru_c : dTru fe ρ Qb R = fe ρ (truK Qb) R := propext Iff.rfl
theorem truK_n : truK Qb (.d .none) = Qb false := propext Iff.rfl
theorem truK_b : truK Qb (.d (.bool b)) = Qb b := propext Iff.rfl
theorem truK_i : truK Qb (.d (.int n)) = Qb (n != 0) := propext Iff.rfl
theorem truK_t : truK Qb (.d (.tuple xs)) = Qb (!xs.isEmpty) := propext Iff.rfl
theorem truK_l : truK Qb (.d (.list xs)) = Qb (!xs.isEmpty) := propext Iff.rfl
theorem truK_m : truK Qb (.ml xs) = Qb (!xs.isEmpty) := propext Iff.rfl
theorem truK_bl : truK Qb (.bl xs) = Qb (!xs.isEmpty) := propext Iff.rfl
theorem dNot_c : dNot c ρ Qb R = c ρ (fun b => Qb (!b)) R := propext Iff.rfl
theorem dAnd_c : dAnd c e ρ Qb R = c ρ (andK e ρ Qb R) R := propext Iff.rfl
theorem andK_t : andK e ρ Qb R true = e ρ Qb R := propext Iff.rfl
theorem andK_f : andK e ρ Qb R false = Qb false := propext Iff.rfl
theorem dOr_c : dOr c e ρ Qb R = c ρ (orK e ρ Qb R) R := propext Iff.rfl
theorem orK_t : orK e ρ Qb R true = Qb true := propext Iff.rfl
theorem orK_f : orK e ρ Qb R false = e ρ Qb R := propext Iff.rfl
theorem dAndV_c : dAndV fa fb ρ Qd R = fa ρ (tstK (andV fb ρ Qd R)) R := propext Iff.rfl
theorem andV_t : andV fb ρ Qd R true = fb ρ Qd R := propext Iff.rfl
theorem andV_f : andV fb ρ Qd R false = Qd (.d (.bool false)) := propext Iff.rfl
theorem dOrV_c : dOrV fa fb ρ Qd R = fa ρ (tstK (orV fb ρ Qd R)) R := propext Iff.rfl
theorem orV_t : orV fb ρ Qd R true = Qd (.d (.bool true)) := propext Iff.rfl
theorem orV_f : orV fb ρ Qd R false = fb ρ Qd R := propext Iff.rfl
theorem dNotV_c : dNotV fa ρ Qd R = fa ρ (tstK fun b => Qd (.d (.bool !b))) R := propext Iff.rfl
theorem dIf_c : dIf c fa fb ρ Qd R = c ρ (iteE fa fb ρ Qd R) R := propext Iff.rfl
theorem iteE_t : iteE fa fb ρ Qd R true = fa ρ Qd R := propext Iff.rfl
theorem iteE_f : iteE fa fb ρ Qd R false = fb ρ Qd R := propext Iff.rfl
theorem dChain_c : dChain f f' fa fb fc ρ Qd R = fa ρ (fun s => fb ρ (fun u => f s u (chK f' fc ρ Qd R u)) R) R := propext Iff.rfl
theorem chK_t : chK f' fc ρ Qd R u (.d (.bool true)) = fc ρ (fun y => f' u y Qd) R := propext Iff.rfl
theorem chK_f : chK f' fc ρ Qd R u (.d (.bool false)) = Qd (.d (.bool false)) := propext Iff.rfl
theorem dNil_c : dNil ρ Qs R = Qs [] := propext Iff.rfl
theorem dCons_c {fr : TDA} : dCons fa fr ρ Qs R = fa ρ (fun s => fr ρ (fun ss => Qs (s :: ss)) R) R := propext Iff.rfl
theorem dCB_c {r : List Sl → (Sl → Prop) → Prop} : dCB r fA ρ Qd R = fA ρ (fun ss => r ss Qd) R := propext Iff.rfl
theorem dCall_c {ms : List Bool} {sp : SpD} : dCall ms sp fA ρ Qd R = fA ρ (fun ss => sp (cvs ms ss) Qd R) R := propext Iff.rfl
theorem dCall0_c {ms : List Bool} {sp : SpD} : dCall0 ms sp fA ρ Qd R = fA ρ (fun ss => sp (cvs ms ss) Qd fun _ => False) R := propext Iff.rfl
def tupK (Qd : Sl → Prop) (ss : List Sl) : Prop := ss.length ≤ sizeLine ∧ match dats ss with
  | some ds => Qd (.d (.tuple ds))
  | none => False
def lstK (Qd : Sl → Prop) (ss : List Sl) : Prop := ss.length ≤ sizeLine ∧ match dats ss with
  | some ds => Qd (.ml ds)
  | none => False
theorem dTup_c : dTup fA ρ Qd R = fA ρ (tupK Qd) R := propext Iff.rfl
theorem dLst_c : dLst fA ρ Qd R = fA ρ (lstK Qd) R := propext Iff.rfl
theorem dFor_c : dFor fi fg g dd R ρ = fi ρ (fun ds => forD fg g dd R ds ρ) R := propext Iff.rfl
theorem dLc_c {vs : List Nat} : dLc fi fg c fe vs ρ Qd R = fi ρ (fun ds => lcD fg c fe (wipeD ρ vs) R (fun ys => Qd (.ml ys)) ds []) R := propext Iff.rfl
theorem iTp_c : iTp fe ρ Ql R = fe ρ (tpK Ql) R := propext Iff.rfl
theorem tpK_c : tpK Ql (.d (.tuple xs)) = Ql xs := propext Iff.rfl
theorem iLst_c : iLst fe ρ Ql R = fe ρ (lsK Ql) R := propext Iff.rfl
theorem lsK_d : lsK Ql (.d (.list xs)) = Ql xs := propext Iff.rfl
theorem lsK_m : lsK Ql (.ml xs) = Ql xs := propext Iff.rfl
theorem iSeq_c : iSeq fe ρ Ql R = fe ρ (sqK Ql) R := propext Iff.rfl
theorem sqK_d : sqK Ql (.d (.list xs)) = Ql xs := propext Iff.rfl
theorem sqK_m : sqK Ql (.ml xs) = Ql xs := propext Iff.rfl
theorem sqK_b : sqK Ql (.bl xs) = Ql xs := propext Iff.rfl
theorem dSl_c {r : Sl → Option Int → Option Int → (Sl → Prop) → Prop} {fl fh : TDO} : dSl r fe fl fh ρ Qd R = fe ρ (fun s => fl ρ (fun l => fh ρ (fun h => r s l h Qd) R) R) R := propext Iff.rfl
theorem dNo_c {Qo : Option Int → Prop} : dNo ρ Qo R = Qo none := propext Iff.rfl
def ptK (Qo : Option Int → Prop) : Sl → Prop := fun s => match s with
  | .d (.int i) => Qo (some i)
  | _ => False
theorem dPt_c {Qo : Option Int → Prop} : dPt fe ρ Qo R = fe ρ (ptK Qo) R := propext Iff.rfl
theorem ptK_c {Qo : Option Int → Prop} : ptK Qo (.d (.int n)) = Qo (some n) := propext Iff.rfl
theorem dYes_c : dYes ρ Qb R = Qb true := propext Iff.rfl
theorem dBack_c : dBack fe ρ Qd R = fe ρ (fun s => match s with
  | .d (.tuple xs) => Qd (.d (.tuple xs.reverse))
  | _ => False) R := propext Iff.rfl
theorem dDict0_c : dDict0 ρ Qd R = Qd (.d (.dict [])) := propext Iff.rfl
theorem dDict1_c {k n : Int} : dDict1 k n ρ Qd R = Qd (.d (.dict [(.int k, .int n)])) := propext Iff.rfl
theorem gdName_c {Qρ : List Sl → Prop} : gdName i x ρ Qρ = Qρ (ρ.set i (.d x)) := propext Iff.rfl
theorem gdTup_c {m : Nat} {fs : FGs} {Qρ : List Sl → Prop} : gdTup m fs (.tuple xs) ρ Qρ = (xs.length = m ∧ fs xs ρ Qρ) := propext Iff.rfl
theorem gdCons_c {fs : FGs} {Qρ : List Sl → Prop} : gdCons fg fs (x :: xs) ρ Qρ = fg x ρ (fun ρ' => fs xs ρ' Qρ) := propext Iff.rfl
theorem gdNil_c {Qρ : List Sl → Prop} : gdNil [] ρ Qρ = Qρ ρ := propext Iff.rfl
def apK (xs : List PyData) (i : Nat) (ρ : List Sl) (nx : List Sl → Prop) : Sl → Prop := fun s => xs.length < sizeLine ∧ match s.dat with
    | some y => nx (ρ.set i (.ml (xs ++ [y])))
    | none => False
def appK (i : Nat) (fe : TD) (ρ : List Sl) (nx : List Sl → Prop) (R : Er → Prop) : Sl → Prop := fun s => match s with
  | .ml xs => fe ρ (apK xs i ρ nx) R
  | _ => False
theorem dApp_c : dApp i fe dd R ρ = appK i fe ρ dd.nx R ((ρ[i]?).getD .un) := propext Iff.rfl
theorem appK_c : appK i fe ρ nx R (.ml xs) = fe ρ (apK xs i ρ nx) R := propext Iff.rfl
theorem apK_d : apK xs i ρ nx (.d x) = (xs.length < sizeLine ∧ nx (ρ.set i (.ml (xs ++ [x])))) := propext Iff.rfl
theorem apK_m : apK xs i ρ nx (.ml ys) = (xs.length < sizeLine ∧ nx (ρ.set i (.ml (xs ++ [.list ys])))) := propext Iff.rfl
def varK (Qd : Sl → Prop) : Sl → Prop := fun s => match s with
  | .un => False
  | .d x => Qd (.d x)
  | .ml xs => Qd (.bl xs)
  | .bl xs => Qd (.bl xs)
  | .st => Qd .st
  | .scr ns => Qd (.scr ns)
  | .raw v => Qd (.raw v)
  | .mo o => Qd (.bo o)
  | .bo o => Qd (.bo o)
theorem dVar_c : dVar i ρ Qd R = varK Qd ((ρ[i]?).getD .un) := propext Iff.rfl
theorem varK_d : varK Qd (.d x) = Qd (.d x) := propext Iff.rfl
theorem varK_m : varK Qd (.ml xs) = Qd (.bl xs) := propext Iff.rfl
theorem varK_b : varK Qd (.bl xs) = Qd (.bl xs) := propext Iff.rfl
theorem varK_s : varK Qd .st = Qd .st := propext Iff.rfl
theorem varK_sc {ns : List Int} : varK Qd (.scr ns) = Qd (.scr ns) := propext Iff.rfl
theorem varK_r : varK Qd (.raw v) = Qd (.raw v) := propext Iff.rfl
theorem varK_mo {o : OD} : varK Qd (.mo o) = Qd (.bo o) := propext Iff.rfl
theorem varK_bo {o : OD} : varK Qd (.bo o) = Qd (.bo o) := propext Iff.rfl
theorem setK_mo {o : OD} : setK i ρ nx (.mo o) = nx (ρ.set i (.mo o)) := propext Iff.rfl
theorem retK_mo {o : OD} : retK rt (.mo o) = rt (.mo o) := propext Iff.rfl
theorem dNew_c : dNew i fA dd R ρ = fA ρ (fun ss => (∃ ns, ∃ k : Nat, ss = [.scr ns, .d (.int (k : Int))]) ∧ dd.nx (ρ.set i .st)) R := propext Iff.rfl
def toldK (Qd : Sl → Prop) : Sl → Prop := fun s => match s.dat with
  | some x => Qd (.d (.tuple [.str "told", x]))
  | none => False
def wordK (C : Nat → Addr) (ms : List Nat) (wd : Nat → Str) (Qd : Sl → Prop) : Er → Prop := fun er => ∃ m, m ∈ ms ∧ er = (C m, []) ∧ Qd (.d (.tuple [.str (wd m)]))
theorem dSaid_c {C : Nat → Addr} {ms : List Nat} {wd : Nat → Str} : dSaid C ms wd fe ρ Qd R = fe ρ (toldK Qd) (wordK C ms wd Qd) := propext Iff.rfl
theorem toldK_d : toldK Qd (.d x) = Qd (.d (.tuple [.str "told", x])) := propext Iff.rfl
theorem toldK_m : toldK Qd (.ml xs) = Qd (.d (.tuple [.str "told", .list xs])) := propext Iff.rfl
def rgK (Ql : List PyData → Prop) : List Sl → Prop := fun ss => match ss with
  | [.d (.int j)] => -(2 ^ 62) ≤ j ∧ j < 2 ^ 62 ∧ Ql (rangeD 0 j.toNat)
  | _ => False
def rgK2 (Ql : List PyData → Prop) : List Sl → Prop := fun ss => match ss with
  | [.d (.int i), .d (.int j)] => (-(2 ^ 62) ≤ i ∧ i < 2 ^ 62 ∧ -(2 ^ 62) ≤ j ∧ j < 2 ^ 62) ∧ Ql (rangeD i (j - i).toNat)
  | _ => False
theorem iRg1_c : iRg1 fA ρ Ql R = fA ρ (rgK Ql) R := propext Iff.rfl
theorem rgK_c : rgK Ql [.d (.int n)] = (-(2 ^ 62) ≤ n ∧ n < 2 ^ 62 ∧ Ql (rangeD 0 n.toNat)) := propext Iff.rfl
theorem iRg2_c : iRg2 fA ρ Ql R = fA ρ (rgK2 Ql) R := propext Iff.rfl
theorem rgK2_c {m : Int} : rgK2 Ql [.d (.int m), .d (.int n)] = ((-(2 ^ 62) ≤ m ∧ m < 2 ^ 62 ∧ -(2 ^ 62) ≤ n ∧ n < 2 ^ 62) ∧ Ql (rangeD m (n - m).toNat)) := propext Iff.rfl
def enK (Ql : List PyData → Prop) : List Sl → Prop := fun ss => match ss with
  | [.d (.tuple xs)] => Ql (enumD xs)
  | _ => False
theorem iEnT_c : iEnT fA ρ Ql R = fA ρ (enK Ql) R := propext Iff.rfl
theorem enK_c : enK Ql [.d (.tuple xs)] = Ql (enumD xs) := propext Iff.rfl
def zpK (Ql : List PyData → Prop) : List Sl → Prop := fun ss => match ss with
  | [s, u] => (match s.dat, u.dat with
    | some (.list xs), some (.list ys) => Ql (zipD xs ys)
    | some (.tuple xs), some (.tuple ys) => Ql (zipD xs ys)
    | _, _ => False)
  | _ => False
theorem iZp_c : iZp fA ρ Ql R = fA ρ (zpK Ql) R := propext Iff.rfl
theorem zpK_tt : zpK Ql [.d (.tuple xs), .d (.tuple ys)] = Ql (zipD xs ys) := propext Iff.rfl
theorem zpK_mm : zpK Ql [.ml xs, .ml ys] = Ql (zipD xs ys) := propext Iff.rfl
theorem zpK_ll : zpK Ql [.d (.list xs), .d (.list ys)] = Ql (zipD xs ys) := propext Iff.rfl
theorem zpK_lm : zpK Ql [.d (.list xs), .ml ys] = Ql (zipD xs ys) := propext Iff.rfl
theorem zpK_ml : zpK Ql [.ml xs, .d (.list ys)] = Ql (zipD xs ys) := propext Iff.rfl
def parK (i j : Nat) (ρ : List Sl) (nx : List Sl → Prop) : List Sl → Prop := fun ss => match ss with
  | [s, .ml ys] => (match s.flat with
    | some x => nx ((ρ.set i (vS x)).set j (.ml ys))
    | none => False)
  | [s, .d y] => (match s.dat with
    | some x => nx ((ρ.set i (.d x)).set j (.d y))
    | none => False)
  | _ => False
theorem dPar_c : dPar i j fA dd R ρ = fA ρ (parK i j ρ dd.nx) R := propext Iff.rfl
theorem parK_im : parK i j ρ nx [.d (.int n), .ml ys] = nx ((ρ.set i (.d (.int n))).set j (.ml ys)) := propext Iff.rfl
theorem parK_nm : parK i j ρ nx [.d .none, .ml ys] = nx ((ρ.set i (.d .none)).set j (.ml ys)) := propext Iff.rfl
theorem parK_sm : parK i j ρ nx [.d (.str y), .ml ys] = nx ((ρ.set i (.d (.str y))).set j (.ml ys)) := propext Iff.rfl
theorem parK_dd {x' : PyData} : parK i j ρ nx [.d x, .d x'] = nx ((ρ.set i (.d x)).set j (.d x')) := propext Iff.rfl
theorem parK_md : parK i j ρ nx [.ml xs, .d x] = nx ((ρ.set i (.d (.list xs))).set j (.d x)) := propext Iff.rfl
/-- all of them data, by one -/
theorem dats_nil : dats [] = some [] := rfl
theorem dats_d {ss : List Sl} {ds : List PyData} (h : dats ss = some ds) : dats (.d x :: ss) = some (x :: ds) := by
  unfold dats
  rw [h]
  rfl
theorem dats_m {ss : List Sl} {ds : List PyData} (h : dats ss = some ds) : dats (.ml xs :: ss) = some (.list xs :: ds) := by
  unfold dats
  rw [h]
  rfl
end
end Dl

namespace Dl
open PySem PySem.Spec PyProof.Rows L2
section
variable {K : PySem.W.Frag} {τ : List (Addr × Str)} {E : XK}
/-! ### tuple(range(..)), list(range(..)) -/
abbrev TRg := L2.St → Hp → (Int → Int → Hp → Prop) → Prop
abbrev TDR := List Sl → (Int → Int → Prop) → (Er → Prop) → Prop
class RefRg (K : PySem.W.Frag) (τ : List (Addr × Str)) (E : XK) (t : TRg) (f : outParam TDR) : Prop where
  go : ∀ (W : Wld τ) (A : Addr → Prop) (H : Hp) (σ : L2.St) (ρ : List Sl) (Qd : Int → Int → Prop) (R : Er → Prop) (Q : Int → Int → Hp → Prop), At K W A E H σ ρ R → f ρ Qd R → (∀ a b H', Fr W.B H H' → W.I H' → Qd a b → Q a b H') → t σ H Q
def rg1K (Qd : Int → Int → Prop) : Sl → Prop := fun s => match s with
  | .d (.int n) => Qd 0 n
  | _ => False
def rg2K (Qd : Int → Int → Prop) : Sl → Sl → Prop := fun s u => match s, u with
  | .d (.int m), .d (.int n) => Qd m n
  | _, _ => False
def dRg1 (f : TD) : TDR := fun ρ Qd R => f ρ (rg1K Qd) R
def dRg2 (f g : TD) : TDR := fun ρ Qd R => f ρ (fun s => g ρ (rg2K Qd s) R) R
instance {t : TE} {f : TD} [ht : RefE K τ E t f] : RefRg K τ E (tRg1 t) (dRg1 f) := ⟨fun W A H σ ρ Qd R Q a h w => by
  refine ht.go W A H σ ρ _ R _ a h fun v H1 s f1 i1 r1 q => ?_
  unfold rg1K at q
  split at q
  · rename_i n
    exact ⟨n, r1.flat (u := .int n) rfl, w _ _ H1 f1 i1 q⟩
  · exact q.elim⟩
instance {t u : TE} {f g : TD} [ht : RefE K τ E t f] [hu : RefE K τ E u g] : RefRg K τ E (tRg2 t u) (dRg2 f g) := ⟨fun W A H σ ρ Qd R Q a h w => by
  refine ht.go W A H σ ρ _ R _ a h fun v H1 s f1 i1 r1 q1 => ?_
  refine hu.go W A H1 σ ρ _ R _ (a.fr f1 i1) q1 fun v2 H2 s2 f2 i2 r2 q => ?_
  unfold rg2K at q
  split at q
  · rename_i m n
    exact ⟨m, n, r1.flat (u := .int m) rfl, r2.flat (u := .int n) rfl, w _ _ H2 (f1.trans f2) i2 q⟩
  · exact q.elim⟩
theorem rps_rg {A : Addr → Prop} {H : Hp} (a b : Int) : RpAll K A H (rgV a b) (rangeD a (b - a).toNat) := by
  unfold rgV rangeD
  generalize (List.range (b - a).toNat) = l
  induction l with
  | nil => exact .nil
  | cons x r ih => exact .cons (.int _) ih
def tupRg (Qd : Sl → Prop) : Int → Int → Prop := fun a b => RgOk a b ∧ Qd (.d (.tuple (rangeD a (b - a).toNat)))
def lstRg (Qd : Sl → Prop) : Int → Int → Prop := fun a b => RgOk a b ∧ Qd (.ml (rangeD a (b - a).toNat))
def dTupRg (f : TDR) : TD := fun ρ Qd R => f ρ (tupRg Qd) R
def dLstRg (f : TDR) : TD := fun ρ Qd R => f ρ (lstRg Qd) R
instance {t : TRg} {f : TDR} [ht : RefRg K τ E t f] : RefE K τ E (tTupRg t) (dTupRg f) := ⟨fun W A H σ ρ Qd R Q a h w => by
  refine ht.go W A H σ ρ _ R _ a h fun x y H1 f1 i1 q => ?_
  exact ⟨q.1, Want.tup (a.bs.fr f1 i1) (w.back f1) (rps_rg x y) q.2⟩⟩
instance {t : TRg} {f : TDR} [ht : RefRg K τ E t f] : RefE K τ E (tLstRg t) (dLstRg f) := ⟨fun W A H σ ρ Qd R Q a h w => by
  refine ht.go W A H σ ρ _ R _ a h fun x y H1 f1 i1 q => ?_
  exact ⟨q.1, Want.lst (a.bs.fr f1 i1) (w.back f1) (rps_rg x y) q.2⟩⟩
variable {ρ : List Sl} {R : Er → Prop} {Qd : Sl → Prop} {fr : TDR} {f g : TD} {Qr : Int → Int → Prop} {m n : Int}
theorem dTupRg_c : dTupRg fr ρ Qd R = fr ρ (tupRg Qd) R := propext Iff.rfl
theorem dLstRg_c : dLstRg fr ρ Qd R = fr ρ (lstRg Qd) R := propext Iff.rfl
theorem dRg1_c : dRg1 f ρ Qr R = f ρ (rg1K Qr) R := propext Iff.rfl
theorem dRg2_c : dRg2 f g ρ Qr R = f ρ (fun s => g ρ (rg2K Qr s) R) R := propext Iff.rfl
theorem rg1K_c : rg1K Qr (.d (.int n)) = Qr 0 n := propext Iff.rfl
theorem rg2K_c : rg2K Qr (.d (.int m)) (.d (.int n)) = Qr m n := propext Iff.rfl
theorem tupRg_c : tupRg Qd m n = (RgOk m n ∧ Qd (.d (.tuple (rangeD m (n - m).toNat)))) := propext Iff.rfl
theorem lstRg_c : lstRg Qd m n = (RgOk m n ∧ Qd (.ml (rangeD m (n - m).toNat))) := propext Iff.rfl
/-! ### a number among numbers; xs[::-1] -/
theorem dflats_ints : ∀ ns : List Int, dflats (ns.map PyData.int) = some (ns.map V.int)
  | [] => rfl
  | n :: r => by
    show (match dflat (.int n), dflats (r.map PyData.int) with
      | some v, some vs => some (v :: vs)
      | _, _ => none) = _
    rw [dflats_ints r]
    rfl
theorem inV_ints (x : Int) : ∀ ns : List Int, inV (.int x) (ns.map V.int) = ns.contains x
  | [] => rfl
  | n :: r => by
    show (eqV (.int n) (.int x) || inV (.int x) (r.map V.int)) = _
    rw [inV_ints x r, List.contains_cons]
    congr 1
    show decide (n = x) = _
    by_cases h : n = x
    · subst h
      simp
    · rw [decide_eq_false h]
      exact (beq_false_of_ne (fun z => h z.symm)).symm
theorem fIn_nums {x : Int} {ns : List Int} {neg : Bool} (h : Qd (.d (.bool (if neg then !(ns.contains x) else ns.contains x)))) : fIn neg (.d (.int x)) (.d (.tuple (ns.map PyData.int))) Qd := by
  unfold fIn
  show (match some (V.int x), dflats (ns.map PyData.int) with
    | some x, some ys => Qd (.d (.bool (if neg then !inV x ys else inV x ys)))
    | _, _ => False)
  rw [dflats_ints]
  show Qd (.d (.bool (if neg then !inV (.int x) (ns.map V.int) else inV (.int x) (ns.map V.int))))
  rw [inV_ints]
  exact h
def backK (Qd : Sl → Prop) : Sl → Prop := fun s => match s with
  | .d (.tuple xs) => Qd (.d (.tuple xs.reverse))
  | _ => False
theorem dBack_k : dBack f ρ Qd R = f ρ (backK Qd) R := propext Iff.rfl
theorem backK_c {xs : List PyData} : backK Qd (.d (.tuple xs)) = Qd (.d (.tuple xs.reverse)) := propext Iff.rfl
theorem rangeD_nums (lo : Int) (n : Nat) : rangeD lo n = ((List.range n).map fun (k : Nat) => lo + (k : Int)).map PyData.int := by
  unfold rangeD
  rw [List.map_map]
  rfl
theorem lay_nums (ns : List Int) : Lay (.tuple (ns.map PyData.int)) 1 := lay_tup (n := 0) fun x hx => by
  obtain ⟨q, _, rfl⟩ := List.mem_map.mp hx
  exact lay_int q _
/-- all([p(x) for x in ..]) -/
theorem lcD_allB {fg : FG} {ft : TDT} {fe : TD} (p : PyData → Bool) (ds : List PyData) (step : ∀ d ∈ ds, ∀ acc N, acc.length < sizeLine → N (acc ++ [.bool (p d)]) → lcStep fg ft fe ρ R d acc N) (hl : ds.length ≤ 100000) (q : Qd (.d (.bool (ds.all p)))) : lcD fg ft fe ρ R (fun ys => fBools gAll [.ml ys] Qd) ds [] := by
  refine lcD_map (fun d => .bool (p d)) ds [] step (by rw [List.length_nil]; omega) ?_
  have eb : (Sl.ml (ds.map fun d => PyData.bool (p d))).seq.bind (oAll dbool) = some (ds.map p) := by
    show oAll dbool (ds.map fun d => .bool (p d)) = _
    rw [show (ds.map fun d => PyData.bool (p d)) = (ds.map p).map PyData.bool by rw [List.map_map]; rfl]
    exact bools_of _
  show fBools gAll [.ml (ds.map fun d => .bool (p d))] _
  unfold fBools
  dsimp only
  rw [eb]
  show Qd (.d (.bool ((ds.map p).all id)))
  rw [List.all_map]
  exact q
theorem lcD_anyB {fg : FG} {ft : TDT} {fe : TD} (p : PyData → Bool) (ds : List PyData) (step : ∀ d ∈ ds, ∀ acc N, acc.length < sizeLine → N (acc ++ [.bool (p d)]) → lcStep fg ft fe ρ R d acc N) (hl : ds.length ≤ 100000) (q : Qd (.d (.bool (ds.any p)))) : lcD fg ft fe ρ R (fun ys => fBools gAny [.ml ys] Qd) ds [] := by
  refine lcD_map (fun d => .bool (p d)) ds [] step (by rw [List.length_nil]; omega) ?_
  have eb : (Sl.ml (ds.map fun d => PyData.bool (p d))).seq.bind (oAll dbool) = some (ds.map p) := by
    show oAll dbool (ds.map fun d => .bool (p d)) = _
    rw [show (ds.map fun d => PyData.bool (p d)) = (ds.map p).map PyData.bool by rw [List.map_map]; rfl]
    exact bools_of _
  show fBools gAny [.ml (ds.map fun d => .bool (p d))] _
  unfold fBools
  dsimp only
  rw [eb]
  show Qd (.d (.bool ((ds.map p).any id)))
  rw [List.any_map]
  exact q
theorem fIx_last {xs init : List PyData} {d : PyData} (e : xs = init ++ [d]) (h : Qd (.d d)) : fIx (.ml xs) (.d (.int (-1))) Qd := by
  show (match L2.atI xs (-1) with | some d => Qd (.d d) | none => False)
  rw [e, L2.atI_last]
  exact h
theorem fIxB_last {xs init : List PyData} {d : PyData} (e : xs = init ++ [d]) (h : Qd (.d d)) : fIx (.bl xs) (.d (.int (-1))) Qd := by
  show (match L2.atI xs (-1) with | some d => Qd (.d d) | none => False)
  rw [e, L2.atI_last]
  exact h
theorem fIxT_last {xs init : List PyData} {d : PyData} (e : xs = init ++ [d]) (h : Qd (.d d)) : fIx (.d (.tuple xs)) (.d (.int (-1))) Qd := by
  show (match L2.atI xs (-1) with | some d => Qd (.d d) | none => False)
  rw [e, L2.atI_last]
  exact h
end
end Dl

namespace Dl
open PySem PySem.Spec PyProof.Rows L2
/-! ### dicts of one's own -/
def keyOf : Sl → Option Key
  | .d (.int i) => some (.inl i)
  | .d (.str x) => some (.inr x)
  | _ => none
def valD (kvs : List (Key × PyData)) (k : Key) : Option PyData := (kvs.find? fun kv => decide (kv.1 = k)).map (·.2)
def putD (kvs : List (Key × PyData)) (k : Key) (v : PyData) : List (Key × PyData) :=
  if (kvs.any fun kv => decide (kv.1 = k)) = true then kvs.map (fun kv => if kv.1 = k then (kv.1, v) else kv) else kvs ++ [(k, v)]
section
variable {K : PySem.W.Frag} {τ : List (Addr × Str)} {E : XK}
theorem key_flat {W : Wld τ} {A : Addr → Prop} {H0 H : Hp} {v : V} {s : Sl} {k : Key} (h : VlR K W A H0 H v s) (e : keyOf s = some k) : v = kV k := by
  cases s with
  | d x => cases x <;> first | (cases e; exact h.flat rfl) | cases e
  | _ => cases e
theorem od_val {A : Addr → Prop} {H : Hp} (k : Key) : ∀ {ks : List (Key × V)} {kvs : List (Key × PyData)}, ks.map (·.1) = kvs.map (·.1) → RpAll K A H (ks.map (·.2)) (kvs.map (·.2)) → (valD kvs k = none → valV ks k = none) ∧ ∀ d, valD kvs k = some d → ∃ v, valV ks k = some v ∧ Rp K A H v d
  | [], [], _, _ => ⟨fun _ => rfl, fun d e => by cases e⟩
  | [], _ :: _, e, _ => by cases e
  | _ :: _, [], e, _ => by cases e
  | (k1, v) :: ks, (k2, d) :: kvs, e, r => by
    obtain ⟨e1, e2⟩ := List.cons.inj e
    cases r with
    | cons r1 r2 =>
      have e1 : k1 = k2 := e1
      subst e1
      by_cases h : k1 = k
      · have z1 : valD ((k1, d) :: kvs) k = some d := by unfold valD; rw [List.find?_cons_of_pos (by simpa using h)]; rfl
        rw [z1, valV_pos h]
        exact ⟨(fun q => nomatch q), fun d' q => ⟨v, rfl, by cases q; exact r1⟩⟩
      · have z1 : valD ((k1, d) :: kvs) k = valD kvs k := by unfold valD; rw [List.find?_cons_of_neg (by simpa using h)]
        rw [z1, valV_neg h]
        exact od_val k e2 r2
theorem od_any (k : Key) : ∀ {ks : List (Key × V)} {kvs : List (Key × PyData)}, ks.map (·.1) = kvs.map (·.1) → (ks.any fun kv => decide (kv.1 = k)) = kvs.any fun kv => decide (kv.1 = k)
  | [], [], _ => rfl
  | [], _ :: _, e => by cases e
  | _ :: _, [], e => by cases e
  | p :: ks, q :: kvs, e => by
    obtain ⟨e1, e2⟩ := List.cons.inj e
    rw [List.any_cons, List.any_cons, od_any k e2, show p.1 = q.1 from e1]
theorem od_map {A : Addr → Prop} {H : Hp} (k : Key) {v : V} {d : PyData} (h : Rp K A H v d) : ∀ {ks : List (Key × V)} {kvs : List (Key × PyData)}, ks.map (·.1) = kvs.map (·.1) → RpAll K A H (ks.map (·.2)) (kvs.map (·.2)) →
    (ks.map (fun kv => if kv.1 = k then (kv.1, v) else kv)).map (·.1) = (kvs.map (fun kv => if kv.1 = k then (kv.1, d) else kv)).map (·.1) ∧ RpAll K A H ((ks.map (fun kv => if kv.1 = k then (kv.1, v) else kv)).map (·.2)) ((kvs.map (fun kv => if kv.1 = k then (kv.1, d) else kv)).map (·.2))
  | [], [], _, _ => ⟨rfl, .nil⟩
  | [], _ :: _, e, _ => by cases e
  | _ :: _, [], e, _ => by cases e
  | (k1, v1) :: ks, (k2, d2) :: kvs, e, r => by
    obtain ⟨e1, e2⟩ := List.cons.inj e
    have e1 : k1 = k2 := e1
    subst e1
    cases r with
    | cons r1 r2 =>
      obtain ⟨a, b⟩ := od_map k h e2 r2
      by_cases hk : k1 = k
      · refine ⟨?_, ?_⟩
        · rw [List.map_cons, List.map_cons, List.map_cons, List.map_cons, a, if_pos hk, if_pos hk]
        · rw [List.map_cons, List.map_cons, List.map_cons, List.map_cons, if_pos hk, if_pos hk]
          exact .cons h b
      · refine ⟨?_, ?_⟩
        · rw [List.map_cons, List.map_cons, List.map_cons, List.map_cons, a, if_neg hk, if_neg hk]
        · rw [List.map_cons, List.map_cons, List.map_cons, List.map_cons, if_neg hk, if_neg hk]
          exact .cons r1 b
theorem od_put {A : Addr → Prop} {H : Hp} (k : Key) {v : V} {d : PyData} (h : Rp K A H v d) {ks : List (Key × V)} {kvs : List (Key × PyData)} (e : ks.map (·.1) = kvs.map (·.1)) (r : RpAll K A H (ks.map (·.2)) (kvs.map (·.2))) :
    (putK ks k v).map (·.1) = (putD kvs k d).map (·.1) ∧ RpAll K A H ((putK ks k v).map (·.2)) ((putD kvs k d).map (·.2)) := by
  unfold putK putD
  rw [od_any k e]
  by_cases hk : (kvs.any fun kv => decide (kv.1 = k)) = true
  · rw [if_pos hk, if_pos hk]
    exact od_map k h e r
  · rw [if_neg hk, if_neg hk]
    refine ⟨?_, ?_⟩
    · rw [List.map_append, List.map_append, e]
      rfl
    · rw [List.map_append, List.map_append]
      exact r.append (.one h)
theorem od_len {ks : List (Key × V)} {kvs : List (Key × PyData)} (e : ks.map (·.1) = kvs.map (·.1)) : ks.length = kvs.length := by
  have := congrArg List.length e
  rwa [List.length_map, List.length_map] at this
theorem bo_dk {W : Wld τ} {A : Addr → Prop} {H0 H : Hp} {v : V} {kvs : List (Key × PyData)} (h : VlR K W A H0 H v (.bo (.dk kvs))) : ∃ p ks, v = .ref p ∧ H p = some (.dK ks) ∧ ks.map (·.1) = kvs.map (·.1) ∧ RpAll K A H (ks.map (·.2)) (kvs.map (·.2)) := by
  obtain ⟨p, ho, rfl, e, n, r⟩ := h
  cases ho <;> first | exact ⟨p, _, rfl, e, r.1, r.2⟩ | exact r.elim
/-- k in d, k not in d -/
def dinK (neg : Bool) (Qd : Sl → Prop) : Sl → Sl → Prop := fun s u => match keyOf s, u with
  | some k, .bo (.dk kvs) => Qd (.d (.bool (if neg then !(valD kvs k).isSome else (valD kvs k).isSome)))
  | _, _ => False
def dDIn (neg : Bool) (fy fd : TD) : TD := fun ρ Qd R => fy ρ (fun s => fd ρ (dinK neg Qd s) R) R
theorem din_go {W : Wld τ} {A : Addr → Prop} {H0 H : Hp} {x y : V} {s u : Sl} {neg : Bool} {Qd : Sl → Prop} (b : Bs W A H0) (ry : VlR K W A H0 H y s) (rx : VlR K W A H0 H x u) (q : dinK neg Qd s u) : ∃ a o, x = .ref a ∧ DGet H a y o ∧ Qd (.d (.bool (if neg then !o.isSome else o.isSome))) := by
  unfold dinK at q
  split at q
  · rename_i k kvs ek
    obtain ⟨p, ks, rfl, e, e1, r⟩ := bo_dk rx
    obtain rfl := key_flat ry ek
    obtain ⟨z1, z2⟩ := od_val k e1 r
    refine ⟨p, valV ks k, rfl, .k e, ?_⟩
    cases h : valD kvs k with
    | none =>
      rw [z1 h]
      rw [h] at q
      exact q
    | some d =>
      obtain ⟨v, ev, _⟩ := z2 d h
      rw [ev]
      rw [h] at q
      exact q
  · exact q.elim
instance {ty td : TE} {fy fd : TD} [hy : RefE K τ E ty fy] [hd : RefE K τ E td fd] : RefE K τ E (tDIn ty td) (dDIn false fy fd) := ⟨fun W A H σ ρ Qd R Q a h w => by
  refine hy.go W A H σ ρ _ R _ a h fun y H1 s f1 i1 r1 q1 => ?_
  refine hd.go W A H1 σ ρ _ R _ (a.fr f1 i1) q1 fun x H2 u f2 i2 r2 q2 => ?_
  obtain ⟨p, o, e1, g, q⟩ := din_go a.bs (r1.fr a.bs f2) (r2.early f1) q2
  exact ⟨p, o, e1, g, (w.back (f1.trans f2)).here i2 _ q⟩⟩
instance {ty td : TE} {fy fd : TD} [hy : RefE K τ E ty fy] [hd : RefE K τ E td fd] : RefE K τ E (tDNotIn ty td) (dDIn true fy fd) := ⟨fun W A H σ ρ Qd R Q a h w => by
  refine hy.go W A H σ ρ _ R _ a h fun y H1 s f1 i1 r1 q1 => ?_
  refine hd.go W A H1 σ ρ _ R _ (a.fr f1 i1) q1 fun x H2 u f2 i2 r2 q2 => ?_
  obtain ⟨p, o, e1, g, q⟩ := din_go a.bs (r1.fr a.bs f2) (r2.early f1) q2
  exact ⟨p, o, e1, g, (w.back (f1.trans f2)).here i2 _ q⟩⟩
/-- d[k] -/
def dgetK (Qd : Sl → Prop) : Sl → Sl → Prop := fun u s => match keyOf s, u with
  | some k, .bo (.dk kvs) => (match valD kvs k with
    | some x => Qd (.d x)
    | none => False)
  | _, _ => False
def dDGet (fd fy : TD) : TD := fun ρ Qd R => fd ρ (fun u => fy ρ (dgetK Qd u) R) R
instance {ty td : TE} {fy fd : TD} [hy : RefE K τ E ty fy] [hd : RefE K τ E td fd] : RefE K τ E (tDGet td ty) (dDGet fd fy) := ⟨fun W A H σ ρ Qd R Q a h w => by
  refine hd.go W A H σ ρ _ R _ a h fun x H1 u f1 i1 r1 q1 => ?_
  refine hy.go W A H1 σ ρ _ R _ (a.fr f1 i1) q1 fun y H2 s f2 i2 r2 q2 => ?_
  unfold dgetK at q2
  split at q2
  · rename_i k kvs ek
    obtain ⟨p, ks, rfl, e, e1, r⟩ := bo_dk (r1.fr a.bs f2)
    obtain rfl := key_flat r2 ek
    split at q2
    · rename_i d ed
      obtain ⟨v, ev, rv⟩ := (od_val k e1 r).2 d ed
      exact ⟨p, v, rfl, ev ▸ DGet.k e, (w.back (f1.trans f2)) v H2 (.d d) (Fr.refl H2) i2 rv q2⟩
    · exact q2.elim
  · exact q2.elim⟩
/-- d.get(k) -/
def dget1K (Qd : Sl → Prop) : Sl → Sl → Prop := fun u s => match keyOf s, u with
  | some k, .bo (.dk kvs) => Qd (.d ((valD kvs k).getD .none))
  | _, _ => False
def isBo : Sl → Prop
  | .bo (.dk _) => True
  | _ => False
def dDGet1 (fd fy : TD) : TD := fun ρ Qd R => fd ρ (fun u => isBo u ∧ fy ρ (dget1K Qd u) R) R
instance {ty td : TE} {fy fd : TD} [hy : RefE K τ E ty fy] [hd : RefE K τ E td fd] : RefE K τ E (tDGet1 td ty) (dDGet1 fd fy) := ⟨fun W A H σ ρ Qd R Q a h w => by
  refine hd.go W A H σ ρ _ R _ a h fun x H1 u f1 i1 r1 q1 => ?_
  obtain ⟨bu, q1⟩ := q1
  unfold isBo at bu
  split at bu
  · rename_i kvs
    obtain ⟨p, ks, rfl, e, _⟩ := bo_dk r1
    refine ⟨p, rfl, .inl ⟨ks, .inl e⟩, ?_⟩
    refine hy.go W A H1 σ ρ _ R _ (a.fr f1 i1) q1 fun y H2 s f2 i2 r2 q2 => ?_
    unfold dget1K at q2
    split at q2
    · rename_i k kvs2 ek ez
      cases ez
      obtain ⟨p', ks', e0, e, e1, r⟩ := bo_dk (r1.fr a.bs f2)
      cases e0
      obtain rfl := key_flat r2 ek
      refine ⟨valV ks' k, DGet.k e, ?_⟩
      obtain ⟨z1, z2⟩ := od_val k e1 r
      cases h : valD kvs k with
      | none =>
        rw [z1 h]
        rw [h] at q2
        exact (w.back (f1.trans f2)).here i2 .non q2
      | some d =>
        obtain ⟨v, ev, rv⟩ := z2 d h
        rw [ev]
        rw [h] at q2
        exact (w.back (f1.trans f2)) v H2 (.d d) (Fr.refl H2) i2 rv q2
    · exact q2.elim
  · exact bu.elim⟩
/-- d[k] = v -/
def dputK (i : Nat) (ρ : List Sl) (nx : List Sl → Prop) (y : PyData) (o : Sl) : Sl → Prop := fun s => match keyOf s, o with
  | some k, .mo (.dk kvs) => kvs.length < sizeLine ∧ nx (ρ.set i (.mo (.dk (putD kvs k y))))
  | _, _ => False
def dputV (i : Nat) (fy : TD) (ρ : List Sl) (nx : List Sl → Prop) (R : Er → Prop) : Sl → Prop := fun s => match s.dat with
  | some y => isBo ((ρ[i]?).getD .un).val ∧ fy ρ (dputK i ρ nx y ((ρ[i]?).getD .un)) R
  | none => False
def dDPut (i : Nat) (fy fv : TD) : TDS := fun dd R ρ => fv ρ (dputV i fy ρ dd.nx R) R
instance {i : Nat} {ty tv : TE} {fy fv : TD} [hy : RefE K τ E ty fy] [hv : RefE K τ E tv fv] : RefS K τ E (sDPut (tVar i) ty tv) (dDPut i fy fv) := ⟨fun W A0 H0 D dd R H σ ρ gσ gρ b sr er ek h => by
  obtain ⟨W', A, c⟩ := sr
  refine hv.go W' A H σ ρ _ R _ (c.at_ ek) h fun v H1 s f1 i1 r1 q1 => ?_
  unfold dputV at q1
  split at q1
  · rename_i y ey
    obtain ⟨bo, q1⟩ := q1
    have c1 := c.step f1 i1
    cases e : ρ[i]? with
    | none =>
      rw [e] at bo
      exact bo.elim
    | some s0 =>
      rw [e] at bo q1
      cases s0 with
      | mo o =>
        cases o with
        | dt kvs => exact bo.elim
        | dk kvs =>
          obtain ⟨w0, ew, p, ho, rfl, ep, nB, aP, od⟩ := (c1.env.pre c1.lg).at_ _ _ e
          refine ⟨.ref p, ew, ?_⟩
          refine hy.go W' A H1 σ ρ _ R _ (c1.at_ ek) q1 fun u H2 s2 f2 i2 r2 q2 => ?_
          have c2 := c1.step f2 i2
          unfold dputK at q2
          split at q2
          · rename_i k kvs' ek2 ez
            cases ez
            obtain rfl := key_flat r2 ek2
            cases ho with
            | dK ks =>
              have rv := (r1.fr c.bs f2).dat c.bs ey
              have ep2 := f2.1 _ _ ep nt_dK nB
              have od2 : OdR K A H2 (.dK ks) (.dk kvs) := od.go (goes_fr c1.bs.ba f2)
              refine ⟨p, _, rfl, DPut.k ep2 (by rw [od_len od.1]; exact q2.1), er.nx _ _ _ ⟨W', A, c2.mutO (s1 := .mo (.dk (putD kvs k y))) e trivial ew (.dK _) fun g nB aP => ⟨p, _, rfl, upd_same, nB, aP, ?_⟩⟩ q2.2⟩
              exact OdR.go g (show OdR K A H2 (.dK (putK ks k v)) (.dk (putD kvs k y)) from od_put k rv od2.1 od2.2)
            | _ => exact od.elim
          · exact q2.elim
      | bo o => 
        cases o with
        | dt kvs => exact bo.elim
        | dk kvs =>
          obtain ⟨w0, ew, p, ho, rfl, ep, nB, od⟩ := (c1.env.pre c1.lg).at_ _ _ e
          refine ⟨.ref p, ew, ?_⟩
          refine hy.go W' A H1 σ ρ _ R _ (c1.at_ ek) q1 fun u H2 s2 f2 i2 r2 q2 => ?_
          unfold dputK at q2
          split at q2
          · rename_i ez
            cases ez
          · exact q2.elim
      | _ => exact bo.elim
  · exact q1.elim⟩
/-- x = {}, x = {y: n} -/
theorem Want.odk {W : Wld τ} {A : Addr → Prop} {H : Hp} {Qd : Sl → Prop} {Q : VK} {ks : List (Key × V)} {kvs : List (Key × PyData)} (b : Bs W A H) (h : Want K W A H Qd Q) (e : ks.map (·.1) = kvs.map (·.1)) (r : RpAll K A H (ks.map (·.2)) (kvs.map (·.2))) (q : Qd (.mo (.dk kvs))) : ∀ p, H p = none → Q (.ref p) (upd H p (.dK ks)) := fun p n =>
  h _ _ (.mo (.dk kvs)) (Fr.new n) (W.stay _ _ (same_new n) b.inv) ⟨p, _, rfl, nob n, upd_same, e, r.go fun c o ec _ nc => ⟨same_new n _ _ ec, fun z => z.elim nc (ne_of_none ec n)⟩⟩ q
def dOwn0 (i : Nat) : TDS := fun dd _ ρ => dd.nx (ρ.set i (.mo (.dk [])))
instance {i : Nat} : RefS K τ E (tAsg tDNewK (gName i)) (dOwn0 i) := ⟨fun W A0 H0 D dd R H σ ρ gσ gρ b sr er ek h => by
  obtain ⟨W', A, c⟩ := sr
  intro p n
  have f1 : Fr W'.B H (upd H p (.dK [])) := Fr.new n
  exact er.nx _ _ _ ⟨W', _, c.own (s := .mo (.dk [])) f1 (W'.stay _ _ (same_new n) c.bs.inv) (nob n) ⟨p, _, rfl, upd_same, c.bs.nB (nob n), .inr rfl, rfl, .nil⟩ trivial⟩ h⟩
def dispK (Qd : Sl → Prop) (n : Int) : Sl → Prop := fun s => match keyOf s with
  | some k => Qd (.mo (.dk [(k, .int n)]))
  | none => False
def dDispV (j : Nat) (n : Int) : TD := fun ρ Qd _ => dispK Qd n ((ρ[j]?).getD .un)
instance {j : Nat} {n : Int} : RefE K τ E (tDisp [(tVar j, tC (.int n))]) (dDispV j n) := ⟨fun W A H σ ρ Qd R Q a h w => by
  intro p np
  unfold dDispV dispK at h
  split at h
  · rename_i k ek
    cases e : ρ[j]? with
    | none =>
      rw [e] at ek
      cases ek
    | some s =>
      rw [e] at ek
      obtain ⟨v, e1, r⟩ := a.env.at_ _ _ e
      have es : s ≠ .un := fun z => by
        subst z
        cases ek
      have ek' : keyOf s.val = some k := by
        cases s <;> first | exact ek | cases ek
      obtain ⟨u, rfl, r2⟩ := r.val (H0 := H) es
      obtain rfl := key_flat r2 ek'
      refine ⟨_, e1, upd_same, [(k, .int n)], rfl, by show 1 ≤ 15; decide, ?_⟩
      rw [upd_upd]
      exact Want.odk (ks := [(k, .int n)]) (kvs := [(k, .int n)]) a.bs w rfl (.cons (.int n) .nil) h p np
  · exact h.elim⟩
/-! ### the least of some data -/
def rMinX (K : PySem.W.Frag) : List V → Hp → VK → Prop := fun xs H Q => ∃ (a : Addr) (vs : List V) (x : PyData) (ds : List PyData), xs = [.ref a] ∧ SqL K H a vs ∧ DpAll K H vs (x :: ds) ∧ PySem.W.AlikeAll (x :: ds) ∧ PyData.depthAll (x :: ds) ≤ 60 ∧ ∀ (i : Nat) (v : V), vs[i]? = some v → (x :: ds)[i]? = some (PySem.W.minD x ds) → Q v H
open PySem.W in
theorem min_idx {prog : Program} {w : World} {A : Around} {E : Value → Shared → Prop} {s : Shared} {l : Addr} {vs : Array Value} {x : PyData} {xs : List PyData} {as : List Addr} {Q : Value → Shared → Prop} (hh : A.handled = none) (hl : s.heap.IsList l vs) (hr : ReadsAll s.heap vs.toList (x :: xs) as) (ha : AlikeAll (x :: xs)) (hu : A.units + 1 + PyData.depthAll (x :: xs) < cLine)
    (h : ∀ (i : Nat) v h' tk, vs[i]? = some v → (x :: xs).getD i .none = minD x xs → (∀ b o, s.heap.get? b = some o → h'.get? b = some o) → Q v { s with heap := h', toks := tk }) :
    wpAny (model prog w) A (call (.builtin "min") [.ref l]) Q E s := by
  have hn : vs.size = xs.length + 1 := readsAll_len hr
  refine call_min_walkH (iter_listW (A := A.in1) hh hl fun s₂ e W st hfp hw hk => ?_)
  refine ⟨_, _, _, _, _, _, _, s.heap, _, rfl, W, st, hfp, by omega, hw, hk, cmpIn_lt (A := A.in1) hr ha (by show A.units + 1 + _ < _; exact hu), fun v s' hP m => ?_⟩
  obtain ⟨h', tk, rfl, hk'⟩ := moved_old e rfl m
  have e1 : vs.size - 1 = xs.length := by omega
  have e2 := (argBest_fold dataLt PyData.none x xs xs.length (Nat.le_refl _)).2
  rw [List.take_length] at e2
  exact h _ v h' tk hP (by rw [e1]; unfold minD; exact e2) hk'
theorem cr_minX {X : Cx} (hc : X.calm = true) (hu : X.A.units + 64 < cLine) : CallR X (.builtin "min") (rMinX X.K) := by
  intro pins s σ H vs us Q I r h
  obtain ⟨a, ws, x, ds, rfl, hs, hp, al, dd, q⟩ := h
  rw [Vals.ref1 r]
  obtain ⟨its, rv, hl, _⟩ := I.list hs
  obtain ⟨as, ra⟩ := Dp.readsAll I _ _ _ hp rv
  refine min_idx (I.ok.hd hc) hl.isList (by simpa using ra) al (by omega) fun i v h' tk hv hm hk => ?_
  have hv' : its[i]? = some v := by simpa using hv
  have hi : i < ws.length := by
    rw [rv.length]
    exact (List.getElem?_eq_some_iff.mp hv').1
  obtain ⟨u, e1, rel⟩ := rv.get (List.getElem?_eq_getElem hi)
  rw [e1] at hv'
  cases hv'
  have hl2 : i < (x :: ds).length := by
    have h2 := PySem.W.readsAll_len (vs := its.toArray) (by simpa using ra)
    have h3 := rv.length
    rw [List.size_toArray] at h2
    omega
  refine ⟨ws[i], H, I.kept (t' := tk) hk, rel, q i _ (List.getElem?_eq_getElem hi) ?_⟩
  rw [List.getElem?_eq_getElem hl2]
  unfold List.getD at hm
  rw [List.getElem?_eq_getElem hl2] at hm
  exact congrArg some hm
theorem cr_minXK {X : Cx} {K : PySem.W.Frag} (hK : X.K = K) (hc : X.calm = true) (hu : X.A.units + 64 < cLine) : CallR X (.builtin "min") (rMinX K) := by
  subst hK
  exact cr_minX hc hu
/-- of which a least one can be found -/
def minOk (x : PyData) (ds : List PyData) : Prop := PyData.canLayAll0 (x :: ds) = true ∧ PySem.W.AlikeAll (x :: ds) ∧ PyData.depthAll (x :: ds) ≤ 60
def minK (Qd : Sl → Prop) : List PyData → Prop := fun xs => match xs with
  | x :: ds => minOk x ds ∧ Qd (.d (PySem.W.minD x ds))
  | [] => False
def fMinX : List Sl → (Sl → Prop) → Prop := fun ss Qd => match ss with
  | [s] => (match s.seq with
    | some xs => minK Qd xs
    | none => False)
  | _ => False
instance : RefC K (rMinX K) fMinX := ⟨fun W A H0 H xs ss Qd Q b f i rx h w => by
  unfold fMinX at h
  split at h
  · obtain ⟨v, rfl, r⟩ := vlsr1 rx
    split at h
    · rename_i xs ex
      obtain ⟨p, vs, rfl, sq, r⟩ := r.seq b ex
      unfold minK at h
      split at h
      · rename_i x ds
        obtain ⟨ok, q⟩ := h
        refine ⟨p, vs, x, ds, rfl, sqLA_sq sq, r.dp ok.1, ok.2.1, ok.2.2, fun i' v ev ed => ?_⟩
        obtain ⟨d, e1, rd⟩ := r.getV ev
        rw [ed] at e1
        cases e1
        exact w v H (.d _) (Fr.refl H) i rd q
      · exact h.elim
    · exact h.elim
  · exact h.elim⟩
/-! ### the least of pairs of numbers -/
def dPair (p : Int × Int) : PyData := .tuple [.int p.1, .int p.2]
def LeT (p q : Int × Int) : Prop := p.1 < q.1 ∨ (p.1 = q.1 ∧ p.2 ≤ q.2)
end
section
variable {dd : DEnds} {R : Er → Prop} {ρ : List Sl} {Qd : Sl → Prop} {i j : Nat} {fy fd fv : TD} {kvs : List (Key × PyData)} {neg : Bool} {n : Int} {x : Str} {y : PyData} {nx : List Sl → Prop} {xs ds : List PyData} {u s : Sl}
theorem dDIn_c : dDIn neg fy fd ρ Qd R = fy ρ (fun s => fd ρ (dinK neg Qd s) R) R := propext Iff.rfl
theorem dinK_i : dinK neg Qd (.d (.int n)) (.bo (.dk kvs)) = Qd (.d (.bool (if neg then !(valD kvs (.inl n)).isSome else (valD kvs (.inl n)).isSome))) := propext Iff.rfl
theorem dinK_s : dinK neg Qd (.d (.str x)) (.bo (.dk kvs)) = Qd (.d (.bool (if neg then !(valD kvs (.inr x)).isSome else (valD kvs (.inr x)).isSome))) := propext Iff.rfl
theorem dDGet_c : dDGet fd fy ρ Qd R = fd ρ (fun u => fy ρ (dgetK Qd u) R) R := propext Iff.rfl
theorem dgetK_i (e : valD kvs (.inl n) = some y) (h : Qd (.d y)) : dgetK Qd (.bo (.dk kvs)) (.d (.int n)) := by
  show (match valD kvs (.inl n) with
    | some x => Qd (.d x)
    | none => False)
  rw [e]
  exact h
theorem dDGet1_c : dDGet1 fd fy ρ Qd R = fd ρ (fun u => isBo u ∧ fy ρ (dget1K Qd u) R) R := propext Iff.rfl
theorem isBo_c : isBo (.bo (.dk kvs)) = True := propext Iff.rfl
theorem dget1K_i : dget1K Qd (.bo (.dk kvs)) (.d (.int n)) = Qd (.d ((valD kvs (.inl n)).getD .none)) := propext Iff.rfl
theorem dDPut_c : dDPut i fy fv dd R ρ = fv ρ (dputV i fy ρ dd.nx R) R := propext Iff.rfl
theorem dputV_d : dputV i fy ρ nx R (.d y) = (isBo ((ρ[i]?).getD .un).val ∧ fy ρ (dputK i ρ nx y ((ρ[i]?).getD .un)) R) := propext Iff.rfl
theorem dputK_i : dputK i ρ nx y (.mo (.dk kvs)) (.d (.int n)) = (kvs.length < sizeLine ∧ nx (ρ.set i (.mo (.dk (putD kvs (.inl n) y))))) := propext Iff.rfl
theorem val_mo {o : OD} : Sl.val (.mo o) = .bo o := rfl
theorem dOwn0_c : dOwn0 i dd R ρ = dd.nx (ρ.set i (.mo (.dk []))) := propext Iff.rfl
theorem dDispV_c : dDispV j n ρ Qd R = dispK Qd n ((ρ[j]?).getD .un) := propext Iff.rfl
theorem dispK_i {m : Int} : dispK Qd n (.d (.int m)) = Qd (.mo (.dk [(.inl m, .int n)])) := propext Iff.rfl
theorem fMinX_b : fMinX [.bl xs] Qd = minK Qd xs := propext Iff.rfl
theorem fMinX_m : fMinX [.ml xs] Qd = minK Qd xs := propext Iff.rfl
theorem minK_c : minK Qd (y :: ds) = (minOk y ds ∧ Qd (.d (PySem.W.minD y ds))) := propext Iff.rfl
theorem valD_put (kvs : List (Key × PyData)) (k j : Key) (y : PyData) : valD (putD kvs k y) j = if j = k then some y else valD kvs j := by
  have e0 : ∀ kvs : List (Key × PyData), valD kvs k = none → (kvs.any fun kv => decide (kv.1 = k)) = false := by
    intro kvs
    induction kvs with
    | nil => intro _; rfl
    | cons p r ih =>
      intro h
      unfold valD at h
      by_cases e : p.1 = k
      · rw [List.find?_cons_of_pos (by simpa using e)] at h
        cases h
      · rw [List.find?_cons_of_neg (by simpa using e)] at h
        rw [List.any_cons, ih h]
        simp [e]
  have e1 : ∀ kvs : List (Key × PyData), valD (kvs.map fun kv => if kv.1 = k then (kv.1, y) else kv) j = (valD kvs j).map fun x => if j = k then y else x := by
    intro kvs
    induction kvs with
    | nil => rfl
    | cons p r ih =>
      unfold valD at ih ⊢
      rw [List.map_cons]
      by_cases e : p.1 = j
      · by_cases e2 : p.1 = k
        · rw [if_pos e2, List.find?_cons_of_pos (by simpa using e), List.find?_cons_of_pos (by simpa using e)]
          show some y = some (if j = k then y else p.2)
          rw [if_pos (e.symm.trans e2)]
        · rw [if_neg e2, List.find?_cons_of_pos (by simpa using e), List.find?_cons_of_pos (by simpa using e)]
          show some p.2 = some (if j = k then y else p.2)
          rw [if_neg (fun z => e2 (e.trans z))]
      · have e3 : (if p.1 = k then (p.1, y) else p).1 = p.1 := by by_cases e2 : p.1 = k <;> simp [e2]
        rw [List.find?_cons_of_neg (by rw [e3]; simpa using e), List.find?_cons_of_neg (by simpa using e)]
        exact ih
  have e2 : ∀ kvs : List (Key × PyData), (kvs.any fun kv => decide (kv.1 = k)) = false → valD (kvs ++ [(k, y)]) j = if j = k then some y else valD kvs j := by
    intro kvs
    induction kvs with
    | nil =>
      intro _
      unfold valD
      by_cases e : k = j
      · subst e
        simp
      · rw [if_neg (fun z => e z.symm)]
        simp [e]
    | cons p r ih =>
      intro h
      rw [List.any_cons, Bool.or_eq_false_iff] at h
      have e3 : ¬ p.1 = k := by simpa using h.1
      unfold valD at ih ⊢
      rw [List.cons_append]
      by_cases e : p.1 = j
      · rw [List.find?_cons_of_pos (by simpa using e), List.find?_cons_of_pos (by simpa using e), if_neg (fun z => e3 (e.trans z))]
      · rw [List.find?_cons_of_neg (by simpa using e), List.find?_cons_of_neg (by simpa using e)]
        exact ih h.2
  unfold putD
  by_cases h : (kvs.any fun kv => decide (kv.1 = k)) = true
  · rw [if_pos h, e1]
    by_cases e : j = k
    · subst e
      rw [if_pos rfl]
      cases z : valD kvs j with
      | none =>
        rw [e0 kvs z] at h
        cases h
      | some d => simp
    · rw [if_neg e]
      cases valD kvs j <;> simp [e]
  · rw [if_neg h]
    exact e2 kvs (Bool.eq_false_iff.mpr h)
theorem length_putD (kvs : List (Key × PyData)) (k : Key) (v : PyData) : (putD kvs k v).length ≤ kvs.length + 1 := by
  unfold putD
  split
  · rw [List.length_map]
    omega
  · rw [List.length_append]
    exact Nat.le_refl _
end
end Dl

namespace Dl
open PySem PySem.Spec PyProof.Rows L2
/-! ### calls by keywords, defaults -/
def pickL {α : Type} (n m : Nat) (src : List (Nat ⊕ Nat)) (d : α) (us ws : List α) : List α :=
  if us.length = n ∧ ws.length = m then src.map (fun z => match z with
    | .inl i => us.getD i d
    | .inr j => ws.getD j d) else []
theorem vals_getD {vs : List V} {us : List Value} (r : Vals vs us) (i : Nat) : RelV (vs.getD i .non) (us.getD i .none) := by
  unfold List.getD
  cases e : vs[i]? with
  | none =>
    have := List.getElem?_eq_none_iff.mp e
    rw [List.getElem?_eq_none (by rw [← r.length]; exact this)]
    exact rfl
  | some v =>
    obtain ⟨u, e1, h⟩ := r.get e
    rw [e1]
    exact h
theorem pick_vals {n m : Nat} {src : List (Nat ⊕ Nat)} {vs zs : List V} {us ws : List Value} (r : Vals vs us) (rz : Vals zs ws) : Vals (pickL n m src .non vs zs) (pickL n m src .none us ws) := by
  unfold pickL
  rw [r.length, rz.length]
  split
  · induction src with
    | nil => exact .nil
    | cons z src ih =>
      refine .cons ?_ ih
      cases z with
      | inl i => exact vals_getD r i
      | inr j => exact vals_getD rz j
  · exact .nil
def pickS (ss zs : List Sl) : List (Nat ⊕ Nat) → Option (List Sl)
  | [] => some []
  | .inl i :: r => match ss[i]?, pickS ss zs r with
    | some s, some t => some (s :: t)
    | _, _ => none
  | .inr i :: r => match zs[i]?, pickS ss zs r with
    | some s, some t => some (s :: t)
    | _, _ => none
section
variable {K : PySem.W.Frag} {τ : List (Addr × Str)} {E : XK}
theorem VlsR.get {W : Wld τ} {A : Addr → Prop} {H0 H : Hp} {vs : List V} {ss : List Sl} (r : VlsR K W A H0 H vs ss) : ∀ {i : Nat} {s : Sl}, ss[i]? = some s → ∃ v, vs[i]? = some v ∧ VlR K W A H0 H v s := by
  induction r with
  | nil => intro i s e; simp at e
  | cons a _ ih =>
    intro i s e
    cases i with
    | zero => simp at e; subst e; exact ⟨_, rfl, a⟩
    | succ i => simp at e; obtain ⟨v, h1, h2⟩ := ih e; exact ⟨v, by simpa using h1, h2⟩
theorem pick_vlsr {W : Wld τ} {A : Addr → Prop} {H0 H : Hp} {vs us : List V} {ss zs : List Sl} (r : VlsR K W A H0 H vs ss) (rz : VlsR K W A H0 H us zs) {n m : Nat} (hn : ss.length = n) (hm : zs.length = m) : ∀ {src : List (Nat ⊕ Nat)} {ps : List Sl}, pickS ss zs src = some ps → VlsR K W A H0 H (pickL n m src .non vs us) ps := by
  intro src ps
  have hl : vs.length = n ∧ us.length = m := ⟨by rw [r.length, hn], by rw [rz.length, hm]⟩
  have key : ∀ {src : List (Nat ⊕ Nat)} {ps : List Sl}, pickS ss zs src = some ps → VlsR K W A H0 H (src.map (fun z => match z with
    | .inl i => vs.getD i .non
    | .inr j => us.getD j .non)) ps := by
    intro src
    induction src with
    | nil =>
      intro ps e
      cases e
      exact .nil
    | cons z src ih =>
      intro ps e
      cases z with
      | inl i =>
        unfold pickS at e
        split at e
        · rename_i s t e1 e2
          cases e
          obtain ⟨v, ev, rv⟩ := r.get e1
          refine .cons ?_ (ih e2)
          show VlR K W A H0 H (vs.getD i .non) s
          unfold List.getD
          rw [ev]
          exact rv
        · cases e
      | inr i =>
        unfold pickS at e
        split at e
        · rename_i s t e1 e2
          cases e
          obtain ⟨v, ev, rv⟩ := rz.get e1
          refine .cons ?_ (ih e2)
          show VlR K W A H0 H (us.getD i .non) s
          unfold List.getD
          rw [ev]
          exact rv
        · cases e
  intro e
  unfold pickL
  rw [if_pos hl]
  exact key e
def kwK (ms : List Bool) (sp : SpD) (n m : Nat) (src : List (Nat ⊕ Nat)) (Qd : Sl → Prop) (R : Er → Prop) (ss zs : List Sl) : Prop := ss.length = n ∧ zs.length = m ∧ match pickS ss zs src with
  | some ps => sp (cvs ms ps) Qd R
  | none => False
def dCallK (ms : List Bool) (sp : SpD) (n m : Nat) (src : List (Nat ⊕ Nat)) (fa fk : TDA) : TD := fun ρ Qd R => fa ρ (fun ss => fk ρ (kwK ms sp n m src Qd R ss) R) R
def dCallK0 (ms : List Bool) (sp : SpD) (n m : Nat) (src : List (Nat ⊕ Nat)) (fa fk : TDA) : TD := fun ρ Qd R => fa ρ (fun ss => fk ρ (kwK ms sp n m src Qd (fun _ => False) ss) R) R
instance {ms : List Bool} {sp : SpD} {n m : Nat} {src : List (Nat ⊕ Nat)} {t tk : TA} {fa fk : TDA} [ha : RefA K τ E t fa] [hk : RefA K τ E tk fk] : RefE K τ E (L2.tCallK (spD K ms sp) (pickL n m src .non) E0 t tk) (dCallK0 ms sp n m src fa fk) := ⟨fun W A H σ ρ Qd R Q a h w => by
  refine ha.go W A H σ ρ _ R _ a h fun vs H1 ss f1 i1 r1 q => ?_
  refine hk.go W A H1 σ ρ _ R _ (a.fr f1 i1) q fun us H2 zs f2 i2 r2 q2 => ?_
  obtain ⟨hn, hm, q2⟩ := q2
  split at q2
  · rename_i ps ep
    obtain ⟨r3, ar⟩ := (pick_vlsr (r1.fr a.bs f2) (r2.early f1) hn hm ep).cvs a.bs ms
    exact ⟨τ, W, A, _, Qd, _, a.bs.fr (f1.trans f2) i2, r3, ar, q2, w.back (f1.trans f2), fun er x H' f i z r => r.elim⟩
  · exact q2.elim⟩
instance (priority := low) {ms : List Bool} {sp : SpD} {n m : Nat} {src : List (Nat ⊕ Nat)} {t tk : TA} {fa fk : TDA} [ha : RefA K τ E t fa] [hk : RefA K τ E tk fk] : RefE K τ E (L2.tCallK (spD K ms sp) (pickL n m src .non) E t tk) (dCallK ms sp n m src fa fk) := ⟨fun W A H σ ρ Qd R Q a h w => by
  refine ha.go W A H σ ρ _ R _ a h fun vs H1 ss f1 i1 r1 q => ?_
  refine hk.go W A H1 σ ρ _ R _ (a.fr f1 i1) q fun us H2 zs f2 i2 r2 q2 => ?_
  obtain ⟨hn, hm, q2⟩ := q2
  split at q2
  · rename_i ps ep
    obtain ⟨r3, ar⟩ := (pick_vlsr (r1.fr a.bs f2) (r2.early f1) hn hm ep).cvs a.bs ms
    exact ⟨τ, W, A, _, Qd, R, a.bs.fr (f1.trans f2) i2, r3, ar, q2, w.back (f1.trans f2), (a.fr (f1.trans f2) i2).er⟩
  · exact q2.elim⟩
/-- a tuple that is written in the text -/
class CTup (K : PySem.W.Frag) (T : Addr) (xs : outParam (List PyData)) : Prop where
  sq : ∃ vs, SqT K (fun _ => none) T vs ∧ ∀ A H, RpAll K A H vs xs
theorem CTup.nil {T : Addr} (h : SqT K (fun _ => none) T []) : CTup K T [] := ⟨[], h, fun _ _ => .nil⟩
class RefV (K : PySem.W.Frag) (v : V) (s : outParam Sl) : Prop where
  go : ∀ {τ : List (Addr × Str)} (W : Wld τ) (A : Addr → Prop) (H0 H : Hp), VlR K W A H0 H v s
instance {i : Int} : RefV K (.int i) (.d (.int i)) := ⟨fun _ _ _ _ => Rp.int i⟩
instance {x : Str} : RefV K (.str x) (.d (.str x)) := ⟨fun _ _ _ _ => Rp.str x⟩
instance {b : Bool} : RefV K (.bl b) (.d (.bool b)) := ⟨fun _ _ _ _ => Rp.bl b⟩
instance : RefV K .non (.d .none) := ⟨fun _ _ _ _ => Rp.non⟩
instance {T : Addr} {xs : List PyData} [h : CTup K T xs] : RefV K (.ref T) (.d (.tuple xs)) := ⟨fun W A H0 H => by
  obtain ⟨vs, sq, r⟩ := h.sq
  exact Rp.tup (.inr sq) (r A H)⟩
class RefVs (K : PySem.W.Frag) (vs : List V) (ss : outParam (List Sl)) : Prop where
  go : ∀ {τ : List (Addr × Str)} (W : Wld τ) (A : Addr → Prop) (H0 H : Hp), VlsR K W A H0 H vs ss
instance : RefVs K [] [] := ⟨fun _ _ _ _ => .nil⟩
instance {v : V} {vs : List V} {s : Sl} {ss : List Sl} [h : RefV K v s] [hs : RefVs K vs ss] : RefVs K (v :: vs) (s :: ss) := ⟨fun W A H0 H => .cons (h.go W A H0 H) (hs.go W A H0 H)⟩
theorem VlsR.app {W : Wld τ} {A : Addr → Prop} {H0 H : Hp} {vs us : List V} {ss zs : List Sl} (r : VlsR K W A H0 H vs ss) (rz : VlsR K W A H0 H us zs) : VlsR K W A H0 H (vs ++ us) (ss ++ zs) := by
  induction r with
  | nil => exact rz
  | cons a _ ih => exact .cons a ih
def dCallD (ms : List Bool) (sp : SpD) (ds : List Sl) (fa : TDA) : TD := fun ρ Qd R => fa ρ (fun ss => sp (cvs ms (ss ++ ds)) Qd R) R
def dCallD0 (ms : List Bool) (sp : SpD) (ds : List Sl) (fa : TDA) : TD := fun ρ Qd R => fa ρ (fun ss => sp (cvs ms (ss ++ ds)) Qd (fun _ => False)) R
instance {ms : List Bool} {sp : SpD} {v : V} {dvs : List V} {ds : List Sl} {t : TA} {fa : TDA} [hd : RefVs K (v :: dvs) ds] [ha : RefA K τ E t fa] : RefE K τ E (tCall (spD K ms sp) (v :: dvs) E0 t) (dCallD0 ms sp ds fa) := ⟨fun W A H σ ρ Qd R Q a h w => by
  refine ha.go W A H σ ρ _ R _ a h fun vs H1 ss f1 i1 r1 q => ?_
  obtain ⟨r2, ar⟩ := (r1.app (hd.go W A H H1)).cvs a.bs ms
  exact ⟨τ, W, A, _, Qd, _, a.bs.fr f1 i1, r2, ar, q, w.back f1, fun er x H' f i z r => r.elim⟩⟩
instance (priority := low) {ms : List Bool} {sp : SpD} {v : V} {dvs : List V} {ds : List Sl} {t : TA} {fa : TDA} [hd : RefVs K (v :: dvs) ds] [ha : RefA K τ E t fa] : RefE K τ E (tCall (spD K ms sp) (v :: dvs) E t) (dCallD ms sp ds fa) := ⟨fun W A H σ ρ Qd R Q a h w => by
  refine ha.go W A H σ ρ _ R _ a h fun vs H1 ss f1 i1 r1 q => ?_
  obtain ⟨r2, ar⟩ := (r1.app (hd.go W A H H1)).cvs a.bs ms
  exact ⟨τ, W, A, _, Qd, R, a.bs.fr f1 i1, r2, ar, q, w.back f1, (a.fr f1 i1).er⟩⟩
variable {ρ : List Sl} {R : Er → Prop} {Qd : Sl → Prop} {ms : List Bool} {sp : SpD} {n m : Nat} {src : List (Nat ⊕ Nat)} {fa fk : TDA} {ds : List Sl}
theorem dCallK_c : dCallK ms sp n m src fa fk ρ Qd R = fa ρ (fun ss => fk ρ (kwK ms sp n m src Qd R ss) R) R := propext Iff.rfl
theorem dCallK0_c : dCallK0 ms sp n m src fa fk ρ Qd R = fa ρ (fun ss => fk ρ (kwK ms sp n m src Qd (fun _ => False) ss) R) R := propext Iff.rfl
theorem dCallD_c : dCallD ms sp ds fa ρ Qd R = fa ρ (fun ss => sp (cvs ms (ss ++ ds)) Qd R) R := propext Iff.rfl
theorem dCallD0_c : dCallD0 ms sp ds fa ρ Qd R = fa ρ (fun ss => sp (cvs ms (ss ++ ds)) Qd (fun _ => False)) R := propext Iff.rfl
theorem kwK_i {ss zs ps : List Sl} (h1 : ss.length = n) (h2 : zs.length = m) (h3 : pickS ss zs src = some ps) (h : sp (cvs ms ps) Qd R) : kwK ms sp n m src Qd R ss zs := ⟨h1, h2, by rw [h3]; exact h⟩
/-! ### comprehensions over things of a kind -/
theorem lcD_fmap {α : Type} {fg : FG} {ft : TDT} {fe : TD} {Qd : List PyData → Prop} (enc : α → PyData) (F : α → Option PyData) : ∀ (xs : List α) (acc : List PyData),
    (∀ x ∈ xs, ∀ acc N, acc.length < sizeLine → (∀ y, F x = some y → N (acc ++ [y])) → (F x = none → N acc) → lcStep fg ft fe ρ R (enc x) acc N) → acc.length + xs.length ≤ 100000 → Qd (acc ++ xs.filterMap F) → lcD fg ft fe ρ R Qd (xs.map enc) acc
  | [], acc, _, _, h => by
    rw [List.filterMap_nil, List.append_nil] at h
    exact h
  | x :: r, acc, step, hl, h => by
    rw [List.length_cons] at hl
    rw [List.map_cons]
    refine lcD_cons (step x List.mem_cons_self acc _ (line_1000 (by omega)) (fun y e => ?_) fun e => ?_)
    · refine lcD_fmap enc F r (acc ++ [y]) (fun e he => step e (List.mem_cons_of_mem _ he)) (by rw [List.length_append, List.length_singleton]; omega) ?_
      rw [List.filterMap_cons_some e] at h
      rw [List.append_assoc]
      exact h
    · refine lcD_fmap enc F r acc (fun e he => step e (List.mem_cons_of_mem _ he)) (by omega) ?_
      rw [List.filterMap_cons_none e] at h
      exact h
/-- each tells just one -/
theorem lcD_each {α : Type} {fg : FG} {ft : TDT} {fe : TD} {Qd : List PyData → Prop} (enc : α → PyData) (F : α → PyData) (xs : List α)
    (step : ∀ x ∈ xs, ∀ acc N, acc.length < sizeLine → N (acc ++ [F x]) → lcStep fg ft fe ρ R (enc x) acc N) (hl : xs.length ≤ 100000) (q : Qd (xs.map F)) : lcD fg ft fe ρ R Qd (xs.map enc) [] := by
  refine lcD_fmap enc (fun x => some (F x)) xs [] (fun x hx acc N ha hT _ => step x hx acc N ha (hT _ rfl)) (by rw [List.length_nil]; omega) ?_
  rw [List.nil_append, show (xs.filterMap fun x => some (F x)) = xs.map F from by rw [List.filterMap_eq_map']]
  exact q
theorem fm_those {α : Type} (F : α → PyData) (p : α → Bool) : ∀ xs : List α, (xs.filterMap fun x => if p x = true then some (F x) else none) = (xs.filter p).map F
  | [] => rfl
  | x :: r => by
    by_cases h : p x = true
    · rw [List.filterMap_cons_some (by exact if_pos h), List.filter_cons_of_pos h, List.map_cons, fm_those F p r]
    · rw [List.filterMap_cons_none (by exact if_neg h), List.filter_cons_of_neg h, fm_those F p r]
/-- those of which p is true -/
theorem lcD_those {α : Type} {fg : FG} {ft : TDT} {fe : TD} {Qd : List PyData → Prop} (enc F : α → PyData) (p : α → Bool) (xs : List α)
    (step : ∀ x ∈ xs, ∀ acc N, acc.length < sizeLine → (p x = true → N (acc ++ [F x])) → (p x = false → N acc) → lcStep fg ft fe ρ R (enc x) acc N) (hl : xs.length ≤ 100000) (q : Qd ((xs.filter p).map F)) : lcD fg ft fe ρ R Qd (xs.map enc) [] := by
  refine lcD_fmap enc (fun x => if p x = true then some (F x) else none) xs [] (fun x hx acc N ha hT hF => step x hx acc N ha (fun e => hT _ (if_pos e)) fun e => hF (if_neg (by rw [e]; decide))) (by rw [List.length_nil]; omega) ?_
  rw [List.nil_append, fm_those]
  exact q
theorem eqv_nil (xs : List PyData) : PyData.eqv (.list xs) (.list []) = xs.isEmpty := by cases xs <;> simp [PyData.eqv, PyData.eqvAll]
/-! ### the least of pairs -/
theorem LeT.refl (p : Int × Int) : LeT p p := .inr ⟨rfl, Int.le_refl _⟩
theorem LeT.trans {p q r : Int × Int} (h : LeT p q) (k : LeT q r) : LeT p r := by
  unfold LeT at *
  omega
theorem LeT.eq {p q : Int × Int} (h : LeT p q) (k : LeT q p) : p = q := by
  unfold LeT at *
  exact Prod.ext (by omega) (by omega)
theorem min_pairs : ∀ (ps : List (Int × Int)) (p : Int × Int), ∃ m, (m = p ∨ m ∈ ps) ∧ PySem.W.minD (dPair p) (ps.map dPair) = dPair m ∧ LeT m p ∧ ∀ r ∈ ps, LeT m r
  | [], p => ⟨p, .inl rfl, rfl, .refl p, fun _ h => nomatch h⟩
  | r :: ps, p => by
    have e : (if PySem.W.dataLt (dPair r) (dPair p) = true then dPair r else dPair p) = dPair (if r.1 < p.1 ∨ (r.1 = p.1 ∧ r.2 < p.2) then r else p) := by
      unfold dPair
      rw [PySem.W.dataLt_ii]
      by_cases h : r.1 < p.1 ∨ (r.1 = p.1 ∧ r.2 < p.2)
      · rw [if_pos (decide_eq_true h), if_pos h]
      · rw [if_neg (by rw [decide_eq_true_eq]; exact h), if_neg h]
    obtain ⟨m, h1, h2, h3, h4⟩ := min_pairs ps (if r.1 < p.1 ∨ (r.1 = p.1 ∧ r.2 < p.2) then r else p)
    have hd : PySem.W.minD (dPair p) ((r :: ps).map dPair) = PySem.W.minD (dPair (if r.1 < p.1 ∨ (r.1 = p.1 ∧ r.2 < p.2) then r else p)) (ps.map dPair) := by
      unfold PySem.W.minD
      rw [List.map_cons, List.foldl_cons, ← e]
    by_cases h : r.1 < p.1 ∨ (r.1 = p.1 ∧ r.2 < p.2)
    · rw [if_pos h] at h1 h2 h3 hd
      refine ⟨m, ?_, hd.trans h2, ?_, fun x hx => ?_⟩
      · rcases h1 with rfl | h1
        · exact .inr (List.mem_cons_self ..)
        · exact .inr (List.mem_cons_of_mem _ h1)
      · refine h3.trans ?_
        unfold LeT
        omega
      · rcases List.mem_cons.mp hx with rfl | hx
        · exact h3
        · exact h4 x hx
    · rw [if_neg h] at h1 h2 h3 hd
      refine ⟨m, ?_, hd.trans h2, h3, fun x hx => ?_⟩
      · rcases h1 with rfl | h1
        · exact .inl rfl
        · exact .inr (List.mem_cons_of_mem _ h1)
      · rcases List.mem_cons.mp hx with rfl | hx
        · refine h3.trans ?_
          unfold LeT
          omega
        · exact h4 x hx
theorem dPair_inj {p q : Int × Int} (h : dPair p = dPair q) : p = q := by
  unfold dPair at h
  simp at h
  exact Prod.ext h.1 h.2
theorem lay_pair (p : Int × Int) : Lay (dPair p) 1 := lay_tup (n := 0) fun x hx => by
  simp only [List.mem_cons, List.not_mem_nil, or_false] at hx
  rcases hx with rfl | rfl <;> exact lay_int _ _
theorem pairs_ok (p : Int × Int) (ps : List (Int × Int)) : minOk (dPair p) (ps.map dPair) := by
  have each : ∀ x ∈ dPair p :: ps.map dPair, ∃ r, x = dPair r := fun x hx => by
    rw [← List.map_cons] at hx
    obtain ⟨r, _, rfl⟩ := List.mem_map.mp hx
    exact ⟨r, rfl⟩
  obtain ⟨z1, z2⟩ := lay_all (xs := dPair p :: ps.map dPair) (n := 1) fun x hx => by
    obtain ⟨r, rfl⟩ := each x hx
    exact lay_pair r
  refine ⟨z1, ⟨fun x hx y hy => ?_, fun x hx => ?_⟩, Nat.le_trans z2 (by decide)⟩
  · obtain ⟨r, rfl⟩ := each x hx
    obtain ⟨r', rfl⟩ := each y hy
    simp [dPair, PySem.W.alike, PySem.W.alikeAll]
  · obtain ⟨r, rfl⟩ := each x hx
    exact fun z => nomatch z
/-- the least of some pairs -/
theorem fMin_pairs {ps : List (Int × Int)} (ne : ps ≠ []) (h : ∀ m, m ∈ ps → (∀ r ∈ ps, LeT m r) → Qd (.d (dPair m))) : fMinX [.bl (ps.map dPair)] Qd := by
  cases ps with
  | nil => exact absurd rfl ne
  | cons p ps =>
    obtain ⟨m, h1, h2, h3, h4⟩ := min_pairs ps p
    refine ⟨pairs_ok p ps, ?_⟩
    show Qd (.d (PySem.W.minD (dPair p) (ps.map dPair)))
    rw [h2]
    refine h m ?_ fun r hr => ?_
    · rcases h1 with rfl | h1
      · exact List.mem_cons_self
      · exact List.mem_cons_of_mem _ h1
    · rcases List.mem_cons.mp hr with rfl | hr
      · exact h3
      · exact h4 r hr
end
end Dl
namespace Wy
open PySem PySem.Spec PyProof.Rows L2 Dl
/-- a def with parameters that have defaults and are told by name -/
structure Dk (K : PySem.W.Frag) (mg : Str → Option Value) (x : Str) (st : Stmt) (kws : List (Str × V)) (f : Addr) (fd : FuncData) : Prop where
  F : Fun K x x st f fd
  D : FunD K x x (defArgs st) (defBody st) (defScope st) [] kws f fd
  g : mg x = some (.ref f)
structure Ck (P : Program) (w : World) (K : PySem.W.Frag) (mg : Str → Option Value) (base : Heap) (CX : CXT) (k : Nat) (x : Str) (st : Stmt) (ps : List Str) (kws : List (Str × V)) (sp : Sp) : Prop where
  ex : ∃ f fd, FnOk P w K mg base CX k f fd ps sp ∧ Dk K mg x st kws f fd
theorem pe_ck {X : Cx} {CX : CXT} {E : XK} {k : Nat} {st : Stmt} {ps ks : List Str} {kwd : List (Str × V)} {sp : Sp} {x : Str} {p pos : Pos} {e : Expr} {es : List Expr} {kws : List Keyword} {t tk : TA} {g : List Value → List Value → List Value} {gV : List V → List V → List V} (h : Ck X.prog X.w X.K X.mg X.base CX k x st ps kwd sp) (hb : ∀ f fd, Fun X.K x x st f fd → KBinds X.K fd ps ks g gV) (hr : Room k X.A) (hg : Gl X x) (hx : Passes CX X E) (ha : PA X (e :: es) t) (hkw : PK X kws tk)
    (hall : (backToKw pos (keywordEach kws X.env)).all (·.1.isSome) = true := by rfl) (hks : (backToKw pos (keywordEach kws X.env)).filterMap (·.1) = ks := by rfl)
    (hdb : (x == ("__debug__" : Str)) = false := by decide) (he : starEach (e :: es) X.env = (false, eval e X.env) :: starEach es X.env := by rfl)
    (hpl : ((backTo pos (starEach (e :: es) X.env)).any (·.1) || (backToKw pos (keywordEach kws X.env)).any (·.1.isNone)) = false := by rfl) : PE X (.Call (.Name x p) (e :: es) kws pos) (L2.tCallK sp gV E t tk) := by
  obtain ⟨f, fd, F, D⟩ := h.ex
  exact pe_callK F hr hg D.g D.F.kp (hb f fd D.F) hx ha hkw hall hks hdb he hpl
theorem pe_ck0 {X : Cx} {CX : CXT} {E : XK} {k : Nat} {st : Stmt} {ps ks : List Str} {kwd : List (Str × V)} {sp : Sp} {x : Str} {p pos : Pos} {kws : List Keyword} {tk : TA} {g : List Value → List Value → List Value} {gV : List V → List V → List V} (h : Ck X.prog X.w X.K X.mg X.base CX k x st ps kwd sp) (hb : ∀ f fd, Fun X.K x x st f fd → KBinds X.K fd ps ks g gV) (hr : Room k X.A) (hg : Gl X x) (hx : Passes CX X E) (hkw : PK X kws tk)
    (hall : (backToKw pos (keywordEach kws X.env)).all (·.1.isSome) = true := by rfl) (hks : (backToKw pos (keywordEach kws X.env)).filterMap (·.1) = ks := by rfl) (hdb : (x == ("__debug__" : Str)) = false := by decide)
    (hpl : ((backTo pos (starEach [] X.env)).any (·.1) || (backToKw pos (keywordEach kws X.env)).any (·.1.isNone)) = false := by rfl) : PE X (.Call (.Name x p) [] kws pos) (L2.tCallK sp gV E tNil tk) := by
  obtain ⟨f, fd, F, D⟩ := h.ex
  refine ⟨fun pins s σ H Q I h => wpAny_Call_Name_kw (ld_glob I hg D.g ?_ hdb)⟩
  refine PySem.W.callWith_KW0 (h₀ := X.base) I.ok.mod.kin D.F.kp hall (thn (hkw.run pos pins s σ H _ I h) fun ws t1 ⟨zs, G, J, rz, q⟩ => ⟨J.kIn, ?_⟩) hpl
  rw [hks]
  exact run_fnk (us := []) (vs := []) F hr (hb f fd D.F) hx J .nil rz q
theorem pe_cd {X : Cx} {CX : CXT} {E : XK} {k : Nat} {st : Stmt} {ps : List Str} {kwd : List (Str × V)} {dvs : List V} {sp : Sp} {x : Str} {p pos : Pos} {e : Expr} {es : List Expr} {t : TA} (h : Ck X.prog X.w X.K X.mg X.base CX k x st ps kwd sp) (hb : ∀ f fd, FunD X.K x x (defArgs st) (defBody st) (defScope st) [] kwd f fd → ∃ ds, Vals dvs ds ∧ Binds X.K fd ps ds) (hr : Room k X.A) (hg : Gl X x) (hx : Passes CX X E) (ha : PA X (e :: es) t)
    (hdb : (x == ("__debug__" : Str)) = false := by decide) (he : starEach (e :: es) X.env = (false, eval e X.env) :: starEach es X.env := by rfl) (hpl : (backTo pos (starEach es X.env)).any (·.1) = false := by rfl) : PE X (.Call (.Name x p) (e :: es) [] pos) (tCall sp dvs E t) := by
  obtain ⟨f, fd, F, D⟩ := h.ex
  obtain ⟨ds, hv, hb⟩ := hb f fd D.D
  exact pe_call F hr hg D.g D.F.kp hb hv hx ha hdb he hpl
end Wy

namespace Dl
open PySem PySem.Spec PyProof.Rows L2
/-! ### tuple * n -/
theorem tuple_mul1 (l : Addr) (items : Array Value) (n : Nat) (dd : Option Addr) (sl : Array (Option Value)) (u : Tok) :
    Meets (Builtin.«tuple.__mul__» ⟨[.ref l, .int 1 u], []⟩) (fun _ R s => s.heap.get? l = some { cls := .type "tuple", dict := dd, data := .seq items n, slots := sl } ∧ R (.ok (.ret (Value.ref l))) s) :=
  .of_wp fun prog w A R s h => by
    obtain ⟨hp, g, d, tk, os⟩ := s
    obtain ⟨hl, h⟩ := h
    have f1 := AutoSeq1.idx_int
    wp_walk using wpAny_loadPart' hl
    repeat (first
      | (refine wpAny_ite_false (decide_eq_false (by decide)) ?_; wp_walk using wpAny_loadPart' hl)
      | (refine wpAny_ite_true (decide_eq_true (by simp)) ?_; wp_walk using wpAny_loadPart' hl))
    exact ⟨_, rfl, h⟩
def rRepT1 (K : PySem.W.Frag) : R2 := fun x y H Q => ∃ l xs, x = .ref l ∧ y = .int 1 ∧ SqT K H l xs ∧ Q (.ref l) H
theorem op_repT1 {X : Cx} : OpR X (binaryOp .Mult) (rRepT1 X.K) := by
  intro pins s σ H x y v u Q I rx ry h
  obtain ⟨l, xs, rfl, rfl, hT, q⟩ := h
  cases rx
  obtain ⟨t, rfl⟩ := ry
  obtain ⟨its, r, ⟨⟨cls, dd, data, sl⟩, ho, hc, n, hd⟩, hs⟩ := I.tuple hT
  simp only at hc hd
  subst hc hd
  refine wpAny_binaryOp_repeat_ref (T := "tuple") (U := "int") (by decide) ⟨_, ho, rfl⟩ (fun s' => typeIs_int s' 1 t) noFill_tuple_mul F.fills_int_mul F.slot_int_rmul repeat_tuple F.slot_int_index.lookup
    (call_meets F.slot_int_rmul (typeIs_int s 1 t) F.entry_int_rmul (F.args_int_rmul_2 _ _) (int_rmul_tuple 1 t l its.toArray n dd sl)
      ⟨ho, rfl, ⟨_, ho, rfl⟩, call_meets F.slot_tuple_mul ⟨_, ho, rfl⟩ F.entry_tuple_mul (F.args_tuple_mul_2 _ _) (tuple_mul1 l its.toArray n dd sl t) ⟨ho, ?_⟩⟩)
  exact ⟨.ref l, H, I, rfl, q⟩
def rRepTX (K : PySem.W.Frag) : R2 := fun x y H Q => rRepT1 K x y H Q ∨ rRepT K x y H Q
theorem op_repTX {X : Cx} {K : PySem.W.Frag} (h : X.K = K) : OpR X (binaryOp .Mult) (rRepTX K) := by
  subst h
  exact op_repT1.or op_repT
def fRepT : Sl → Sl → (Sl → Prop) → Prop := fun s u Qd => match s, u with
  | .d (.tuple xs), .d (.int k) => xs ≠ [] ∧ 1 ≤ k ∧ k ≤ 1000 ∧ xs.length ≤ 1000 ∧ Qd (.d (.tuple (List.replicate k.toNat xs).flatten))
  | _, _ => False
section
variable {K : PySem.W.Frag} {τ : List (Addr × Str)} {E : XK}
instance : Ref2 K (rRepTX K) fRepT := ⟨fun W A H0 H x y s u Qd Q b f i rx ry h w => by
  unfold fRepT at h
  split at h
  · rename_i xs k
    obtain ⟨ne, h1, h2, h3, q⟩ := h
    have rx' : Rp K A H x (.tuple xs) := rx
    obtain ⟨p, vs, rfl, sq, r⟩ := Rp.tup_ rx'
    obtain rfl := ry.flat (u := .int k) rfl
    by_cases e : k = 1
    · subst e
      refine .inl ⟨p, vs, rfl, rfl, sq, w _ H (.d _) (Fr.refl H) i rx' ?_⟩
      have e : (List.replicate (1 : Int).toNat xs).flatten = xs := by
        show (List.replicate 1 xs).flatten = xs
        simp
      rw [e] at q
      exact q
    · refine .inr ⟨p, k, vs, rfl, rfl, sq, fun z => ne ?_, by omega, h2, by rw [r.length]; exact h3, Want.tup (b.fr f i) w (r.rep _) q⟩
      rw [z] at r
      cases r
      rfl
  · exact h.elim⟩
theorem fRepT_c {xs : List PyData} {k : Int} {Qd : Sl → Prop} : fRepT (.d (.tuple xs)) (.d (.int k)) Qd = (xs ≠ [] ∧ 1 ≤ k ∧ k ≤ 1000 ∧ xs.length ≤ 1000 ∧ Qd (.d (.tuple (List.replicate k.toNat xs).flatten))) := propext Iff.rfl
theorem rep_one (x : PyData) : ∀ n : Nat, (List.replicate n [x]).flatten = List.replicate n x
  | 0 => rfl
  | n + 1 => by
    rw [List.replicate_succ, List.flatten_cons, rep_one x n]
    rfl
/-! ### is, is not of truths -/
def fIsB (neg : Bool) : Sl → Sl → (Sl → Prop) → Prop := fun s u Qd => match s, u with
  | .d (.bool a), .d (.bool b) => Qd (.d (.bool (if neg then !decide (a = b) else decide (a = b))))
  | _, _ => False
instance : Ref2 K rIsB (fIsB false) := ⟨fun W A H0 H x y s u Qd Q b f i rx ry h w => by
  unfold fIsB at h
  split at h
  · rename_i a c
    exact ⟨a, c, rx.flat (u := .bl a) rfl, ry.flat (u := .bl c) rfl, w.here i _ h⟩
  · exact h.elim⟩
instance : Ref2 K rNotB (fIsB true) := ⟨fun W A H0 H x y s u Qd Q b f i rx ry h w => by
  unfold fIsB at h
  split at h
  · rename_i a c
    exact ⟨a, c, rx.flat (u := .bl a) rfl, ry.flat (u := .bl c) rfl, w.here i _ h⟩
  · exact h.elim⟩
theorem fIsB_c {neg a b : Bool} {Qd : Sl → Prop} : fIsB neg (.d (.bool a)) (.d (.bool b)) Qd = Qd (.d (.bool (if neg then !decide (a = b) else decide (a = b)))) := propext Iff.rfl
/-! ### x or y, x and y as values -/
theorem tru_go {W : Wld τ} {A : Addr → Prop} {H0 H : Hp} {v : V} {s : Sl} {b : Bool} (bs : Bs W A H0) (r1 : VlR K W A H0 H v s) (eb : truD s = some b) : TruV K v H b := by
  have sq : ∀ xs : List PyData, s.seq = some xs → b = (!xs.isEmpty) → TruV K v H b := fun xs e1 e2 => by
    obtain ⟨p, vs, rfl, sq, r⟩ := r1.seq bs e1
    exact .inl ⟨vs, sqLA_sq sq, by rw [e2, r.empty]⟩
  cases s with
  | d x =>
    cases x with
    | none =>
      obtain rfl := r1.flat (u := .non) rfl
      exact (Option.some.inj eb).symm
    | bool c =>
      obtain rfl := r1.flat (u := .bl c) rfl
      exact (Option.some.inj eb).symm
    | int c =>
      obtain rfl := r1.flat (u := .int c) rfl
      exact (Option.some.inj eb).symm
    | list xs => exact sq xs rfl (Option.some.inj eb).symm
    | tuple xs =>
      obtain ⟨p, vs, rfl, s2, r⟩ := Rp.tup_ r1
      exact .inr (.inl ⟨vs, s2, by rw [← Option.some.inj eb, r.empty]⟩)
    | str x => cases eb
    | dict x => cases eb
  | ml xs => exact sq xs rfl (Option.some.inj eb).symm
  | bl xs => exact sq xs rfl (Option.some.inj eb).symm
  | _ => cases eb
def orTK (fb : TD) (ρ : List Sl) (Qd : Sl → Prop) (R : Er → Prop) : Sl → Prop := fun s => match truD s with
  | some true => Qd s
  | some false => fb ρ Qd R
  | none => False
def andTK (fb : TD) (ρ : List Sl) (Qd : Sl → Prop) (R : Er → Prop) : Sl → Prop := fun s => match truD s with
  | some true => fb ρ Qd R
  | some false => Qd s
  | none => False
def dOrT (fa fb : TD) : TD := fun ρ Qd R => fa ρ (orTK fb ρ Qd R) R
def dAndT (fa fb : TD) : TD := fun ρ Qd R => fa ρ (andTK fb ρ Qd R) R
instance {ta tb : TE} {fa fb : TD} [ha : RefE K τ E ta fa] [hb : RefE K τ E tb fb] : RefE K τ E (tOrT K ta tb) (dOrT fa fb) := ⟨fun W A H σ ρ Qd R Q a h w => by
  refine ha.go W A H σ ρ _ R _ a h fun v H1 s f1 i1 r1 q1 => ?_
  unfold orTK at q1
  split at q1
  · rename_i e
    exact ⟨true, tru_go a.bs r1 e, iteT (w v H1 s f1 i1 r1 q1)⟩
  · rename_i e
    exact ⟨false, tru_go a.bs r1 e, iteF (hb.go W A H1 σ ρ Qd R Q (a.fr f1 i1) q1 (w.back f1))⟩
  · exact q1.elim⟩
instance {ta tb : TE} {fa fb : TD} [ha : RefE K τ E ta fa] [hb : RefE K τ E tb fb] : RefE K τ E (tAndT K ta tb) (dAndT fa fb) := ⟨fun W A H σ ρ Qd R Q a h w => by
  refine ha.go W A H σ ρ _ R _ a h fun v H1 s f1 i1 r1 q1 => ?_
  unfold andTK at q1
  split at q1
  · rename_i e
    exact ⟨true, tru_go a.bs r1 e, iteT (hb.go W A H1 σ ρ Qd R Q (a.fr f1 i1) q1 (w.back f1))⟩
  · rename_i e
    exact ⟨false, tru_go a.bs r1 e, iteF (w v H1 s f1 i1 r1 q1)⟩
  · exact q1.elim⟩
theorem pe_orTK {X : Cx} {a b : Expr} {ta tb : TE} {rest : List Expr} {pos : Pos} {K : PySem.W.Frag} (h : X.K = K) (ha : PE X a ta) (hb : PE X (.BoolOp .Or (b :: rest) pos) tb) : PE X (.BoolOp .Or (a :: b :: rest) pos) (tOrT K ta tb) := by
  subst h
  exact pe_orT ha hb
theorem pe_andTK {X : Cx} {a b : Expr} {ta tb : TE} {rest : List Expr} {pos : Pos} {K : PySem.W.Frag} (h : X.K = K) (ha : PE X a ta) (hb : PE X (.BoolOp .And (b :: rest) pos) tb) : PE X (.BoolOp .And (a :: b :: rest) pos) (tAndT K ta tb) := by
  subst h
  exact pe_andT ha hb
variable {ρ : List Sl} {R : Er → Prop} {Qd : Sl → Prop} {fa fb : TD}
theorem dOrT_c : dOrT fa fb ρ Qd R = fa ρ (orTK fb ρ Qd R) R := propext Iff.rfl
theorem dAndT_c : dAndT fa fb ρ Qd R = fa ρ (andTK fb ρ Qd R) R := propext Iff.rfl
theorem orTK_n : orTK fb ρ Qd R (.d .none) = fb ρ Qd R := propext Iff.rfl
theorem orTK_i {i : Int} (h1 : i ≠ 0 → Qd (.d (.int i))) (h2 : i = 0 → fb ρ Qd R) : orTK fb ρ Qd R (.d (.int i)) := by
  unfold orTK
  show (match some (i != 0) with
    | some true => Qd (.d (.int i))
    | some false => fb ρ Qd R
    | none => False)
  by_cases h : i = 0
  · subst h
    exact h2 rfl
  · rw [bne_iff_ne.mpr h]
    exact h1 h
end
end Dl

namespace Dl
open PySem PySem.Spec PyProof.Rows L2
/-! ### texts -/
abbrev TMr := V → List V → Hp → VK → Prop
abbrev FMr := Sl → List Sl → (Sl → Prop) → Prop
class RefM (K : PySem.W.Frag) (r : TMr) (f : outParam FMr) : Prop where
  go : ∀ {τ : List (Addr × Str)} (W : Wld τ) (A : Addr → Prop) (H0 H : Hp) (x : V) (xs : List V) (s : Sl) (ss : List Sl) (Qd : Sl → Prop) (Q : VK), Bs W A H0 → Fr W.B H0 H → W.I H → VlR K W A H0 H x s → VlsR K W A H0 H xs ss → f s ss Qd → Want K W A H Qd Q → r x xs H Q
def isStr : Sl → Prop
  | .d (.str _) => True
  | _ => False
theorem isStr_v {K : PySem.W.Frag} {W : Wld τ} {A : Addr → Prop} {H0 H : Hp} {v : V} {s : Sl} (h : isStr s) (r : VlR K W A H0 H v s) : ∃ a, v = .str a := by
  unfold isStr at h
  split at h
  · rename_i x
    exact ⟨x, r.flat (u := .str x) rfl⟩
  · exact h.elim
section
variable {K : PySem.W.Frag} {τ : List (Addr × Str)} {E : XK}
def dM0 (f : FMr) (fo : TD) : TD := fun ρ Qd R => fo ρ (fun s => isStr s ∧ f s [] Qd) R
def dM1 (f : FMr) (fo fe : TD) : TD := fun ρ Qd R => fo ρ (fun s => isStr s ∧ fe ρ (fun u => f s [u] Qd) R) R
instance {r : TMr} {f : FMr} {to : TE} {fo : TD} [ho : RefE K τ E to fo] [hr : RefM K r f] : RefE K τ E (tM0 r to) (dM0 f fo) := ⟨fun W A H σ ρ Qd R Q a h w => by
  refine ho.go W A H σ ρ _ R _ a h fun v H1 s f1 i1 r1 q1 => ?_
  exact ⟨isStr_v q1.1 r1, hr.go W A H H1 v [] s [] Qd Q a.bs f1 i1 r1 .nil q1.2 (w.back f1)⟩⟩
instance {r : TMr} {f : FMr} {to te : TE} {fo fe : TD} [ho : RefE K τ E to fo] [he : RefE K τ E te fe] [hr : RefM K r f] : RefE K τ E (tM1 r to te) (dM1 f fo fe) := ⟨fun W A H σ ρ Qd R Q a h w => by
  refine ho.go W A H σ ρ _ R _ a h fun v H1 s f1 i1 r1 q1 => ?_
  refine ⟨isStr_v q1.1 r1, ?_⟩
  refine he.go W A H1 σ ρ _ R _ (a.fr f1 i1) q1.2 fun u H2 s2 f2 i2 r2 q2 => ?_
  exact hr.go W A H H2 v [u] s [s2] Qd Q a.bs (f1.trans f2) i2 (r1.fr a.bs f2) (.cons (r2.early f1) .nil) q2 (w.back (f1.trans f2))⟩
/-- sep.join(list of texts) -/
def rJoin (K : PySem.W.Frag) : TMr := fun x xs H Q => ∃ a p, ∃ ys : List Str, x = .str a ∧ xs = [.ref p] ∧ (SqL K H p (ys.map V.str) ∨ SqT K H p (ys.map V.str)) ∧ (ys.map (·.length)).sum + ys.length * a.length ≤ 16777216 ∧ Q (.str (Txt.join a ys)) H
theorem pe_joinK {X : Cx} {K : PySem.W.Frag} {o e : Expr} {to te : TE} {apos pos : Pos} (h : X.K = K) (ho : PE X o to) (he : PE X e te) (hs : starEach [e] X.env = [(false, eval e X.env)] := by rfl) (hbase : attributeBase o "join" X.env (eval o X.env) = eval o X.env := by rfl) (hline : (apos.endLine == pos.line) = true := by rfl) : PE X (.Call (.Attribute o "join" apos) [e] [] pos) (tM1 (rJoin K) to te) := by
  subst h
  exact pe_join ho he hs hbase hline
def joinK (Qd : Sl → Prop) (a : Str) : Option (List Str) → Prop := fun o => match o with
  | some ys => (ys.map (·.length)).sum + ys.length * a.length ≤ 16777216 ∧ Qd (.d (.str (Txt.join a ys)))
  | none => False
def fJoin : FMr := fun s ss Qd => match s, ss with
  | .d (.str a), [u] => joinK Qd a (u.sq.bind (oAll dstr))
  | _, _ => False
instance : RefM K (rJoin K) fJoin := ⟨fun W A H0 H x xs s ss Qd Q b f i rx rs h w => by
  unfold fJoin at h
  split at h
  · rename_i a u
    obtain rfl := rx.flat (u := .str a) rfl
    obtain ⟨v, rfl, r⟩ := vlsr1 rs
    unfold joinK at h
    split at h
    · rename_i ys ey
      obtain ⟨ds, e1, e2⟩ := Option.bind_eq_some_iff.mp ey
      obtain ⟨p, vs, rfl, sq, r⟩ := r.sq b i e1
      rw [oAll_map dstr_eq e2] at r
      have z := r.strs
      subst z
      exact ⟨a, p, ys, rfl, rfl, sq, h.1, w.here i _ h.2⟩
    · exact h.elim
  · exact h.elim⟩
theorem fJoin_m {a : Str} {ys : List Str} {Qd : Sl → Prop} (hz : (ys.map (·.length)).sum + ys.length * a.length ≤ 16777216) (h : Qd (.d (.str (Txt.join a ys)))) : fJoin (.d (.str a)) [.ml (ys.map PyData.str)] Qd := by
  show joinK Qd a (oAll dstr (ys.map PyData.str))
  rw [strs_of]
  exact ⟨hz, h⟩
theorem fJoin_b {a : Str} {ys : List Str} {Qd : Sl → Prop} (hz : (ys.map (·.length)).sum + ys.length * a.length ≤ 16777216) (h : Qd (.d (.str (Txt.join a ys)))) : fJoin (.d (.str a)) [.bl (ys.map PyData.str)] Qd := by
  show joinK Qd a (oAll dstr (ys.map PyData.str))
  rw [strs_of]
  exact ⟨hz, h⟩
/-- x.split(sep) -/
def rSplit : TMr := fun x xs H Q => ∃ a b, x = .str a ∧ xs = [.str b] ∧ (b.length == 0) = false ∧ a.length + 2 ≤ sizeLine ∧ rNewStrs (Txt.split a b) H Q
theorem pe_splitK {X : Cx} {o e : Expr} {to te : TE} {apos pos : Pos} (ho : PE X o to) (he : PE X e te) (hs : starEach [e] X.env = [(false, eval e X.env)] := by rfl) (hbase : attributeBase o "split" X.env (eval o X.env) = eval o X.env := by rfl) (hline : (apos.endLine == pos.line) = true := by rfl) : PE X (.Call (.Attribute o "split" apos) [e] [] pos) (tM1 rSplit to te) := pe_split ho he hs hbase hline
def fSplit : FMr := fun s ss Qd => match s, ss with
  | .d (.str a), [.d (.str b)] => (b.length == 0) = false ∧ a.length + 2 ≤ sizeLine ∧ Qd (.ml ((Txt.split a b).map PyData.str))
  | _, _ => False
instance : RefM K rSplit fSplit := ⟨fun W A H0 H x xs s ss Qd Q b f i rx rs h w => by
  unfold fSplit at h
  split at h
  · rename_i a c
    obtain rfl := rx.flat (u := .str a) rfl
    obtain ⟨v, rfl, r⟩ := vlsr1 rs
    obtain rfl := r.flat (u := .str c) rfl
    exact ⟨a, c, rfl, rfl, h.1, h.2.1, fun p n => Want.lst (b.fr f i) w (.of_strs _) h.2.2 p n⟩
  · exact h.elim⟩
/-- questions -/
def rDigit : TMr := fun x xs H Q => ∃ a, x = .str a ∧ xs = [] ∧ True ∧ Q (.bl (Txt.isdigit a)) H
def rAscii : TMr := fun x xs H Q => ∃ a, x = .str a ∧ xs = [] ∧ True ∧ Q (.bl (Txt.isascii a)) H
def rStarts : TMr := fun x xs H Q => ∃ a b, x = .str a ∧ xs = [.str b] ∧ Q (.bl (Txt.startswith a b)) H
theorem pe_isdigit {X : Cx} {o : Expr} {to : TE} {apos pos : Pos} (ho : PE X o to) (hbase : attributeBase o "isdigit" X.env (eval o X.env) = eval o X.env := by rfl) (hline : (apos.endLine == pos.line) = true := by rfl) : PE X (.Call (.Attribute o "isdigit" apos) [] [] pos) (tM0 rDigit to) := pe_m0 F.slot_str_isdigit F.type_str_isdigit mt_isdigit ho hbase hline
theorem pe_isascii {X : Cx} {o : Expr} {to : TE} {apos pos : Pos} (ho : PE X o to) (hbase : attributeBase o "isascii" X.env (eval o X.env) = eval o X.env := by rfl) (hline : (apos.endLine == pos.line) = true := by rfl) : PE X (.Call (.Attribute o "isascii" apos) [] [] pos) (tM0 rAscii to) := pe_m0 F.slot_str_isascii F.type_str_isascii mt_isascii ho hbase hline
theorem pe_startswith {X : Cx} {o e : Expr} {to te : TE} {apos pos : Pos} (ho : PE X o to) (he : PE X e te) (hs : starEach [e] X.env = [(false, eval e X.env)] := by rfl) (hbase : attributeBase o "startswith" X.env (eval o X.env) = eval o X.env := by rfl) (hline : (apos.endLine == pos.line) = true := by rfl) : PE X (.Call (.Attribute o "startswith" apos) [e] [] pos) (tM1 rStarts to te) := pe_m1 F.slot_str_startswith F.type_str_startswith mt_startswith ho he hs hbase hline
def fQ0 (g : Str → Bool) : FMr := fun s ss Qd => match s, ss with
  | .d (.str a), [] => Qd (.d (.bool (g a)))
  | _, _ => False
def fQ1 (g : Str → Str → Bool) : FMr := fun s ss Qd => match s, ss with
  | .d (.str a), [.d (.str b)] => Qd (.d (.bool (g a b)))
  | _, _ => False
instance : RefM K rDigit (fQ0 Txt.isdigit) := ⟨fun W A H0 H x xs s ss Qd Q b f i rx rs h w => by
  unfold fQ0 at h
  split at h
  · rename_i a
    obtain rfl := rx.flat (u := .str a) rfl
    cases rs
    exact ⟨a, rfl, rfl, trivial, w.here i _ h⟩
  · exact h.elim⟩
instance : RefM K rAscii (fQ0 Txt.isascii) := ⟨fun W A H0 H x xs s ss Qd Q b f i rx rs h w => by
  unfold fQ0 at h
  split at h
  · rename_i a
    obtain rfl := rx.flat (u := .str a) rfl
    cases rs
    exact ⟨a, rfl, rfl, trivial, w.here i _ h⟩
  · exact h.elim⟩
instance : RefM K rStarts (fQ1 Txt.startswith) := ⟨fun W A H0 H x xs s ss Qd Q b f i rx rs h w => by
  unfold fQ1 at h
  split at h
  · rename_i a c
    obtain rfl := rx.flat (u := .str a) rfl
    obtain ⟨v, rfl, r⟩ := vlsr1 rs
    obtain rfl := r.flat (u := .str c) rfl
    exact ⟨a, c, rfl, rfl, w.here i _ h⟩
  · exact h.elim⟩
/-- int(text) -/
def fIntS : List Sl → (Sl → Prop) → Prop := fun ss Qd => match ss with
  | [.d (.str a)] => (match PySem.intText? a with
    | some n => a.length ≤ 640 ∧ Qd (.d (.int n))
    | none => False)
  | _ => False
instance : RefC K (fun xs H Q => ∃ a n, xs = [.str a] ∧ PySem.intText? a = some n ∧ a.length ≤ 640 ∧ Q (.int n) H) fIntS := ⟨fun W A H0 H xs ss Qd Q b f i rx h w => by
  unfold fIntS at h
  split at h
  · rename_i a
    obtain ⟨v, rfl, r⟩ := vlsr1 rx
    obtain rfl := r.flat (u := .str a) rfl
    split at h
    · rename_i n en
      exact ⟨a, n, rfl, en, h.1, w.here i _ h.2⟩
    · exact h.elim
  · exact h.elim⟩
variable {ρ : List Sl} {R : Er → Prop} {Qd : Sl → Prop} {fo fe : TD} {f : FMr} {a b : Str} {g : Str → Bool} {g2 : Str → Str → Bool} {n : Int}
theorem fIntS_i (e : PySem.intText? a = some n) (hl : a.length ≤ 640) (h : Qd (.d (.int n))) : fIntS [.d (.str a)] Qd := by
  show (match PySem.intText? a with
    | some n => a.length ≤ 640 ∧ Qd (.d (.int n))
    | none => False)
  rw [e]
  exact ⟨hl, h⟩
theorem dM0_c : dM0 f fo ρ Qd R = fo ρ (fun s => isStr s ∧ f s [] Qd) R := propext Iff.rfl
theorem dM1_c : dM1 f fo fe ρ Qd R = fo ρ (fun s => isStr s ∧ fe ρ (fun u => f s [u] Qd) R) R := propext Iff.rfl
theorem isStr_c : isStr (.d (.str a)) = True := propext Iff.rfl
theorem fQ0_c : fQ0 g (.d (.str a)) [] Qd = Qd (.d (.bool (g a))) := propext Iff.rfl
theorem fQ1_c : fQ1 g2 (.d (.str a)) [.d (.str b)] Qd = Qd (.d (.bool (g2 a b))) := propext Iff.rfl
theorem fSplit_c : fSplit (.d (.str a)) [.d (.str b)] Qd = ((b.length == 0) = false ∧ a.length + 2 ≤ sizeLine ∧ Qd (.ml ((Txt.split a b).map PyData.str))) := propext Iff.rfl
theorem fLenS_c : fLenS [.d (.str a)] Qd = (a.length ≤ sizeLine ∧ Qd (.d (.int a.length))) := propext Iff.rfl
/-- what cannot be come to -/
theorem ps_no {X : Cx} {st : Stmt} : PS X st (fun _ _ _ => False) := ⟨fun _ _ _ _ _ _ h => h.elim⟩

/-! ### numbers that words write -/
def figD (most : Int) (a : Str) : PyData := if decide (most < (a.length : Int)) || !(Txt.isascii a) || !(Txt.isdigit a) then .none else if Txt.startswith a "0" && !(a == ("0" : Str)) then .none else match PySem.intText? a with
  | some n => .int n
  | none => .none
theorem digit_ascii : ∀ c : Nat, c < 128 → Unicode.isDigit c = true → 48 ≤ c ∧ c ≤ 57 := by decide +kernel
theorem fig_int {a : Str} (h1 : Txt.isascii a = true) (h2 : Txt.isdigit a = true) (hl : a.length ≤ 4300) : ∃ n : Nat, PySem.intText? a = some (n : Int) := by
  unfold Txt.isascii at h1
  unfold Txt.isdigit at h2
  rw [Bool.and_eq_true] at h2
  refine ⟨_, PySem.intText_digits (x := a) (fun c hc => ?_) (fun e => ?_) hl⟩
  · have hm : c ∈ a.cps := by simpa using hc
    exact digit_ascii c (by simpa using Array.all_eq_true'.mp h1 c hm) (by simpa using Array.all_eq_true'.mp h2.2 c hm)
  · have hz : a.length = 0 := by
      show a.cps.size = 0
      rw [← Array.length_toList, e]
      rfl
    rw [hz] at h2
    simp at h2
end
end Dl

namespace Dl
open PySem PySem.Spec PyProof.Rows L2
/-! ### ways that come together again -/
theorem seqIf {c : TDT} {g rest : TDS} {dd : DEnds} {R : Er → Prop} {ρ : List Sl} (h1 : rest dd R ρ) (h2 : ∀ N : List Sl → Prop, N ρ → dIfS c g dNext { dd with nx := N } R ρ) : dSeq (dIfS c g dNext) rest dd R ρ := h2 (rest dd R) h1
/-- behind a statement only I is known -/
theorem seqBy {s rest : TDS} {dd : DEnds} {R : Er → Prop} {ρ : List Sl} (I : List Sl → Prop) (h1 : ∀ ρ', I ρ' → rest dd R ρ') (h2 : ∀ N : List Sl → Prop, (∀ ρ', I ρ' → N ρ') → s { dd with nx := N } R ρ) : dSeq s rest dd R ρ := h2 (rest dd R) h1
theorem cut_sub {xs : List PyData} {lo hi : Option Int} {y : PyData} (h : y ∈ Dl.cutD xs lo hi) : y ∈ xs := by
  unfold Dl.cutD at h
  exact List.mem_of_mem_drop (List.mem_of_mem_take h)
theorem cut_len (xs : List PyData) (lo hi : Option Int) : (Dl.cutD xs lo hi).length ≤ xs.length := by
  unfold Dl.cutD
  rw [List.length_take, List.length_drop]
  omega
/-! ### things that are spoilt -/
/-- things that stand among others where something is spoilt -/
def oddS : List PyData := [.int (-1), .int 0, .int 1, .int 9, .int 10, .int 99, .int 100, .bool true, .bool false, .none, .str "1", .tuple [], .int (10 ^ 29), .int 5]
/-- what becomes of a tuple that is spoilt, nothing within it -/
def Sp0 (xs : List PyData) (d : PyData) : Prop := d = .list xs ∨ ∃ ys, d = .tuple ys ∧ ys.length ≤ 2 * xs.length + 1 ∧ ∀ y ∈ ys, y ∈ xs ∨ y ∈ oddS ∨ ∃ i : Int, .int i ∈ xs ∧ (y = .int (i + 1) ∨ y = .int (i + -1))
def SpR : Nat → List PyData → PyData → Prop
  | 0, xs, d => Sp0 xs d
  | n + 1, xs, d => Sp0 xs d ∨ ∃ (i : Nat) (zs : List PyData) (e : PyData), xs[i]? = some (.tuple zs) ∧ SpR n zs e ∧ d = .tuple (xs.take i ++ [e] ++ xs.drop (i + 1))
def OkE : Nat → List PyData → Prop
  | 0, xs => ∀ d ∈ xs, d = .none ∨ (∃ i : Int, d = .int i) ∨ ∃ zs, d = .tuple zs
  | n + 1, xs => ∀ d ∈ xs, d = .none ∨ (∃ i : Int, d = .int i) ∨ ∃ zs, d = .tuple zs ∧ zs.length ≤ 1000 ∧ OkE n zs
theorem OkE.weak {n : Nat} {xs : List PyData} (h : OkE n xs) : OkE 0 xs := by
  cases n with
  | zero => exact h
  | succ n => exact fun d hd => (h d hd).imp id (Or.imp id fun ⟨zs, e, _⟩ => ⟨zs, e⟩)
theorem SpR.of0 {n : Nat} {xs : List PyData} {d : PyData} (h : Sp0 xs d) : SpR n xs d := by
  cases n with
  | zero => exact h
  | succ n => exact .inl h
end Dl

namespace Dl
open PySem PySem.Spec PyProof.Rows L2
/-! ### enumerate(list, start=k) -/
/-- the list at a as it stands, its items in new pairs with numbers from k on -/
def ItS (K : PySem.W.Frag) (a : Addr) (k : Int) : It :=
  ⟨fun i H => ∃ (xs : List V) (x : V), SqL K H a xs ∧ xs[i]? = some x,
    fun i H v G => ∃ T x, v = .ref T ∧ H T = none ∧ G = upd H T (.tup [.int (k + (i : Int)), x]) ∧ ∀ xs, SqL K H a xs → xs[i]? = some x,
    fun i H => ∃ xs : List V, SqL K H a xs ∧ xs.length ≤ i⟩
theorem turn_enumS {P : Program} {w : World} {K : PySem.W.Frag} {elts : List Expr} {kk : Nat} {tp : Pos} (k : Int) (a e it : Addr) (hae : e ≠ a) (hai : a ≠ it) :
    Turn P w K (.Tuple elts kk tp) (ItS K a k) [e, it] e (fun i h => (∃ old, IsEnum h e it (k + (i : Int)) old) ∧ h.IsListIter it a i ∧ e ≠ it) where
  mem := List.mem_cons_self
  obj := fun i h st b hb => by
    obtain ⟨⟨old, he⟩, ⟨o, ho, hc, hd⟩, _⟩ := st
    rcases List.mem_cons.mp hb with rfl | z
    · exact ⟨_, he, fun v q => nomatch q⟩
    · cases List.mem_singleton.mp z
      exact ⟨o, ho, fun v q => by rw [hd] at q; cases q⟩
  keep := fun i h h' st q => ⟨⟨_, q e List.mem_cons_self _ st.1.choose_spec⟩, st.2.1.at fun o z => q it (by simp) o z, st.2.2⟩
  item := by
    intro X hP hw hK hc i pins s σ H E I hf st hg
    subst hP hw hK
    obtain ⟨⟨old, he⟩, hit, ne⟩ := st
    obtain ⟨xs, x, sq, hx⟩ := hg
    obtain ⟨its, rv, ⟨o, n, ho, hcl, hno, hd⟩, _⟩ := I.list sq
    have hL : s.heap.IsList a its.toArray := ⟨o, ho, hcl, n, hd⟩
    obtain ⟨u, eu, ru⟩ := rv.get hx
    have small : ∀ b ∈ [e, it], b < s.heap.objs.size := fun b hb => by
      rcases List.mem_cons.mp hb with rfl | z
      · exact Heap.lt_size he
      · cases List.mem_singleton.mp z
        obtain ⟨_, q, _⟩ := hit
        exact Heap.lt_size q
    have hi : i < its.toArray.size := by
      rw [List.size_toArray]
      exact (List.getElem?_eq_some_iff.mp eu).1
    refine wpAny_pyNext_enum_itemC (Draws.list (A := X.A.in1) (show X.A.in1.handled = none from I.ok.hd hc) it a hai its.toArray) he ⟨hit, hL⟩ hi ne (fun z => by
      rcases List.mem_cons.mp z with q | q
      · exact ne q
      · exact hae (List.mem_singleton.mp q)) fun y h' tk yP yo yst yT _ keep' => ?_
    have eyu : y = u := by
      have z : its[i]? = some y := by simpa using yP
      exact Option.some.inj (z.symm.trans eu)
    subst eyu
    refine ⟨_, rfl, wpAny_letOwnedTupleGo_enum (s := { s with heap := h', toks := tk + 1 }) yo fun h2 he2 sb => ?_⟩
    have far : ∀ b ∈ [e, it], s.heap.objs.size ≠ b := fun b hb => Nat.ne_of_gt (small b hb)
    have tup : h2.get? s.heap.objs.size = some { cls := .type "tuple", data := .seq #[.int (k + (i : Int)) tk, y] } := (sb.2 _ (far e List.mem_cons_self)).trans yT
    refine ⟨.ref s.heap.objs.size, _, I.turnedNew (t' := tk + 1) (T := s.heap.objs.size) (ob := .tup [.int (k + (i : Int)), x]) (ch := [e, it]) (fun b ob nb q => ?_) hf (Nat.le_refl _) ⟨by show 2 ≤ sizeLine; decide, [.int (k + (i : Int)) tk, y], .cons ⟨_, rfl⟩ (.cons ru .nil), ⟨_, tup, rfl, _, rfl⟩⟩, rfl, ⟨_, x, rfl, I.hok.fresh (Nat.le_refl _), rfl, fun ys hy => by rw [I.list_inj hy sq]; exact hx⟩, ⟨⟨y, ?_⟩, yst.1.at fun o z => (sb.2 it (Ne.symm ne)).trans z, ne⟩, fun b hb => ?_⟩
    · have n1 : b ≠ e := fun z => nb (by simp [z])
      have n2 : b ≠ it := fun z => nb (by simp [z])
      exact (sb.2 b n1).trans (keep' b ob n1 n2 q)
    · rw [show k + ((i + 1 : Nat) : Int) = k + (i : Int) + 1 by omega]
      exact he2
    · rw [upd_ne (Ne.symm (far b hb))]
      exact (hf b hb).1
  done := by
    intro X hP hw hK hc i pins s σ H E I hf st hg
    subst hP hw hK
    obtain ⟨⟨old, he⟩, hit, ne⟩ := st
    obtain ⟨xs, sq, hx⟩ := hg
    obtain ⟨its, rv, ⟨o, n, ho, hcl, hno, hd⟩, _⟩ := I.list sq
    have hL : s.heap.IsList a its.toArray := ⟨o, ho, hcl, n, hd⟩
    obtain ⟨g0, g1, g2, g3, g4, g5⟩ := hf it (by simp)
    have e1 := rv.length
    have T : s.TypeIs (.ref e) "enumerate" := ⟨_, he, rfl⟩
    unfold pyNext
    refine wpAny_bind (wpAny_attempt (wpAny_callSpecial?_slot (name := Str.ofString "__next__") T F.slot_enumerate_next (wpAny_call_entry F.slot_enumerate_next T F.entry_enumerate_next ?_ (F.args_enumerate_next_1 _))))
    show wpAny _ _ (PySem.field (.ref e) 2 >>= _) _ _ _
    refine wpAny_bind (wpAny_field he rfl (x := .ref it) rfl ?_)
    refine wpAny_bind (wpAny_nextOf_list_end (I.ok.hd hc) hit hL (by simp; omega) fun h' x eb ⟨ob, hob, cob⟩ => ?_)
    exact wpAny_bind (wpAny_isInstance (T := "StopIteration") (b := true) ⟨ob, hob, cob⟩ isSubtype_stop (wpAny_pure ⟨rfl, I.turned (t' := s.toks) (fun b o hb q => eb b o hb q) g0 g1 g3 g4 g5⟩))
  self := fun A i s Q E st h => wpAny_pyIter_enum st.1.choose_spec h
def iEnS (K : PySem.W.Frag) (k : Int) (ta : TA) : TI := fun σ H R => ta σ H fun vs G => ∃ a xs, vs = [.ref a] ∧ SqL K G a xs ∧ R (ItS K a k) G
/-- a call of a class with keywords -/
theorem callWith_tkw {M : Model} {A : Around} {E : Value → Shared → Prop} {s : Shared} {env : Env} {pos : Pos} {T : String} {e : Expr} {kws : List Keyword} {Q : Value → Shared → Prop}
    (h : wpAny M A (spliced (backTo pos (starEach [e] env))) (fun vs s₁ => wpAny M A (evalAll ((backToKw pos (keywordEach kws env)).map (·.2))) (fun ks s₂ => wpAny M A (call (.type T) vs (((backToKw pos (keywordEach kws env)).filterMap (·.1)).zip ks)) Q E s₂) E s₁) E s)
    (he : backTo pos (starEach [e] env) = (false, eval e env) :: backTo pos (starEach [] env)) (ha : (backTo pos (starEach [e] env)).any (·.1) = false) (hall : (backToKw pos (keywordEach kws env)).all (·.1.isSome) = true) (hn : (backToKw pos (keywordEach kws env)).any (·.1.isNone) = false) :
    wpAny M A (callWith pos (.type T) [] (backTo pos (starEach [e] env)) (backToKw pos (keywordEach kws env))) Q E s := by
  have h2 : wpAny M A (evalArgs (.type T) true (backTo pos (starEach [e] env)) (backToKw pos (keywordEach kws env))) (fun a s₁ => wpAny M A (call (.type T) a.pos a.kw) Q E s₁) E s := by
    rw [he] at h ⊢
    exact evalArgs_kwB hall h
  unfold callWith
  refine wpAny_bind (wpAny_holding (wpAny_mono h2 (fun x t hx => wpAny_bind (wpAny_standAt ?_)) fun _ _ z => z))
  rw [ha, hn]
  exact wpAny_bind (wpAny_pure (wpAny_bind (wpAny_mono hx (fun r u hr => wpAny_bind (wpAny_holding (wpAny_point (wpAny_pure hr)))) fun _ _ z => z)))
theorem pi_enumS {X : Cx} {K : PySem.W.Frag} {e ek : Expr} {ta : TA} {p pos tp kp : Pos} {elts : List Expr} {kk : Nat} {k : Int} (hK : X.K = K) (h0 : -(2 ^ 63) ≤ k) (h1 : k < 2 ^ 63) (ge : Gl X "enumerate") (me : X.mg "enumerate" = none) (ha : PA X [e] ta) (hk : PE X ek (tC (.int k)))
    (he : backTo pos (starEach [e] X.env) = (false, eval e X.env) :: backTo pos (starEach [] X.env) := by rfl) (hp : (backTo pos (starEach [e] X.env)).any (·.1) = false := by rfl) :
    PI X (.Tuple elts kk tp) (.Call (.Name "enumerate" p) [e] [⟨some "start", ek, kp⟩] pos) (iEnS K k ta) := by
  subst hK
  refine ⟨fun pins s σ H R I h => ?_⟩
  refine wpAny_Call_Name_kw (ld_blt I ge me boot_enumerate (callWith_tkw (thn (ha.run pos pins s σ H _ I h) fun us t ⟨vs, G, J, rr, hx⟩ => ?_) he hp rfl rfl))
  obtain ⟨a, xs, ex, sq, q⟩ := hx
  subst ex
  refine kws_cons (thn (hk.run pins t σ G (fun x H' => x = .int k ∧ H' = G) J ⟨rfl, rfl⟩) fun v t2 ⟨x, G2, J2, rx, ex, eG⟩ => kws_nil ?_)
  subst ex eG
  obtain ⟨tk, rfl⟩ := rx
  cases rr with
  | cons r r2 =>
    cases r2
    cases r
    obtain ⟨its, rv, ⟨o, n, ho, hcl, hno, hd⟩, _⟩ := J2.list sq
    have hL : t2.heap.IsList a its.toArray := ⟨o, ho, hcl, n, hd⟩
    have lt : a < t2.heap.objs.size := Heap.lt_size ho
    refine enum_begins_start (begins_list a its.toArray) hL h0 h1 fun h' hE hI _ keep' => wpAny_pyIter_enum hE ?_
    refine ⟨t2.heap.objs.size + 1, [t2.heap.objs.size + 1, t2.heap.objs.size], _, _, G2, rfl, J2.kept (t' := t2.toks) keep', turn_enumS k a (t2.heap.objs.size + 1) t2.heap.objs.size (Nat.ne_of_gt (Nat.lt_succ_of_lt lt)) (Nat.ne_of_lt lt), ⟨⟨.none, ?_⟩, ⟨_, hI, rfl, rfl⟩, Nat.succ_ne_self _⟩, fun b hb => ?_, q⟩
    · rw [show k + ((0 : Nat) : Int) = k by omega]
      exact hE
    · have hle : t2.heap.objs.size ≤ b := by
        rcases List.mem_cons.mp hb with rfl | z
        · omega
        · rw [List.mem_singleton.mp z]
          exact Nat.le_refl _
      exact J2.fpOk hle (J2.hok.fresh hle)
/-- by data -/
def enumFrom (k : Int) (xs : List PyData) : List PyData := xs.zipIdx.map fun p => .tuple [.int (k + (p.2 : Int)), p.1]
section
variable {K : PySem.W.Frag} {τ : List (Addr × Str)} {E : XK}
def enSK (k : Int) (Ql : List PyData → Prop) : List Sl → Prop := fun ss => match ss with
  | [s] => (match s.dat with
    | some (.list xs) => Ql (enumFrom k xs)
    | _ => False)
  | _ => False
def iEnSD (k : Int) (fa : TDA) : TDI := fun ρ Qd R => fa ρ (enSK k Qd) R
theorem enumFrom_len (k : Int) (xs : List PyData) : (enumFrom k xs).length = xs.length := by unfold enumFrom; rw [List.length_map, List.length_zipIdx]
theorem enumFrom_get {k : Int} {xs : List PyData} {i : Nat} {d : PyData} (h : (enumFrom k xs)[i]? = some d) : ∃ x, xs[i]? = some x ∧ d = .tuple [.int (k + (i : Int)), x] := by
  unfold enumFrom at h
  rw [List.getElem?_map] at h
  obtain ⟨p, e, rfl⟩ := Option.map_eq_some_iff.mp h
  rw [List.getElem?_zipIdx] at e
  obtain ⟨x, ex, rfl⟩ := Option.map_eq_some_iff.mp e
  exact ⟨x, ex, by simp⟩
instance {k : Int} {t : TA} {f : TDA} [ht : RefA K τ E t f] : RefI K τ E (iEnS K k t) (iEnSD k f) := ⟨fun W A H σ ρ Qd R P a h kq => by
  refine ht.go W A H σ ρ _ R _ a h fun vs H1 ss f1 i1 r1 q => ?_
  unfold enSK at q
  split at q
  · obtain ⟨v, rfl, r⟩ := vlsr1 r1
    split at q
    · rename_i xs ex
      have rp := r.dat a.bs ex
      obtain ⟨p, us, rfl, sq, ra⟩ := rp.lst_
      refine ⟨p, us, rfl, sq, kq (ItS K p k) H1 [some (.ref p)] [.d (.list xs)] (enumFrom k xs) f1 i1 ⟨rfl, fun i s e => ?_⟩ ⟨fun W A H i b g hi => ?_, fun W A H i b g hi => ?_, fun W A H i x H' d b g ed y => ?_⟩ q⟩
      · cases i with
        | zero =>
          cases e
          exact ⟨_, _, rfl, rfl, rp⟩
        | succ i => simp at e
      all_goals
        obtain ⟨v, x0, e1, e2, g1⟩ := g.at_ 0 _ rfl
        cases e1
        cases e2
        obtain ⟨a1, us', e, s2, r2⟩ := g1.lst_
        cases e
      · rw [enumFrom_len] at hi
        obtain ⟨u, eu, _⟩ := r2.get (List.getElem?_eq_getElem hi)
        exact ⟨us', u, s2, eu⟩
      · rw [enumFrom_len] at hi
        exact ⟨us', s2, by rw [r2.length]; exact hi⟩
      · obtain ⟨T, u, rfl, nT, rfl, hx⟩ := y
        obtain ⟨x', ex', rfl⟩ := enumFrom_get ed
        obtain ⟨d1, e1, q1⟩ := r2.getV (hx us' s2)
        rw [ex'] at e1
        cases e1
        exact rp_pair b nT (Rp.int _) q1
    · exact q.elim
  · exact q.elim⟩
variable {ρ : List Sl} {R : Er → Prop} {Ql : List PyData → Prop} {fA : TDA} {k : Int} {xs : List PyData}
theorem iEnSD_c : iEnSD k fA ρ Ql R = fA ρ (enSK k Ql) R := propext Iff.rfl
theorem enSK_m : enSK k Ql [.ml xs] = Ql (enumFrom k xs) := propext Iff.rfl
theorem enSK_d : enSK k Ql [.d (.list xs)] = Ql (enumFrom k xs) := propext Iff.rfl
end
end Dl

namespace Dl
open PySem PySem.Spec PyProof.Rows L2
/-! ### d.setdefault(k, v) != v -/
theorem mt_setd {X : Cx} : MtR X "dict.setdefault" rSetd := by
  intro pins s σ H x xs v us Q I rx rv h
  obtain ⟨a, kvs, k, y, rfl, rfl, ea, hl, w1, w2⟩ := h
  cases rx
  cases rv with
  | cons ry rv =>
    cases rv with
    | cons rd rv =>
      cases rv
      obtain ⟨z, hd, vs0, rel, dd⟩ := dk_of I.hok ea
      refine call_meetsIn PySem.F.slot_dict_setdefault dd.typeIs PySem.F.entry_dict_setdefault (PySem.F.args_dict_setdefault_3 _ _ _) (kt_meets_setdefault (mixKind X.prog X.w) a (kV_is ry) hd _) ⟨vs0, dd, by rw [← rel.length]; exact z, fun u hu => ?_, fun hn h' dd' hs => ?_⟩
      · have rr := rel.val k
        rw [hu] at rr
        cases hv : valV kvs k with
        | none =>
          rw [hv] at rr
          exact rr.elim
        | some x =>
          rw [hv] at rr
          exact ⟨x, H, I.tok _, rr, w1 x hv⟩
      · have rr := rel.val k
        rw [hn] at rr
        cases hv : valV kvs k with
        | some x =>
          rw [hv] at rr
          exact rr.elim
        | none =>
          have fit : (putK kvs k y).length ≤ sizeLine := Nat.le_trans (length_putK kvs k y) hl
          have J := d_write (t' := s.toks + 1) I (by rw [ea]; exact True.intro) hs (Exists.imp (fun _ w => w.choose_spec.choose_spec.1) dd') (dk_new fit hd (rel.put k rd) dd')
          exact ⟨y, _, J, rd, w2 hv⟩
def setdK (i j : Nat) (g h : TDS) (dd : DEnds) (R : Er → Prop) (ρ : List Sl) : Sl → Prop := fun s => match keyOf s, ρ[i]?, ρ[j]? with
  | some k, some (.mo (.dk kvs)), some (.d x) => kvs.length < sizeLine ∧ SeqAt.shaped x = true ∧ (match valD kvs k with
    | some y => SeqAt.shaped y = true ∧ (if PyData.eqv y x = true then h dd R ρ else g dd R ρ)
    | none => PyData.eqv x x = true ∧ h dd R (ρ.set i (.mo (.dk (putD kvs k x)))))
  | _, _, _ => False
def setdB (i j : Nat) (fk : TD) (g h : TDS) (dd : DEnds) (R : Er → Prop) (ρ : List Sl) : Bool → Prop := fun b => match b with
  | true => i ≠ j ∧ (∃ kvs, ρ[i]? = some (.mo (.dk kvs))) ∧ fk ρ (setdK i j g h dd R ρ) R
  | false => h dd R ρ
def dSetdIf (i j : Nat) (fc : TDT) (fk : TD) (g h : TDS) : TDS := fun dd R ρ => fc ρ (setdB i j fk g h dd R ρ) R
section
variable {K : PySem.W.Frag} {τ : List (Addr × Str)} {E : XK}
theorem setdK_i {i j : Nat} {g h : TDS} {dd : DEnds} {R : Er → Prop} {ρ : List Sl} {s : Sl} {k : Key} {kvs : List (Key × PyData)} {x : PyData} (ek : keyOf s = some k) (ei : ρ[i]? = some (.mo (.dk kvs))) (ej : ρ[j]? = some (.d x)) (hl : kvs.length < sizeLine) (sx : SeqAt.shaped x = true)
    (h1 : ∀ y, valD kvs k = some y → SeqAt.shaped y = true ∧ (if PyData.eqv y x = true then h dd R ρ else g dd R ρ)) (h2 : valD kvs k = none → PyData.eqv x x = true ∧ h dd R (ρ.set i (.mo (.dk (putD kvs k x))))) : setdK i j g h dd R ρ s := by
  unfold setdK
  rw [ek, ei, ej]
  refine ⟨hl, sx, ?_⟩
  cases e : valD kvs k with
  | some y => exact h1 y e
  | none => exact h2 e
variable {dd : DEnds} {R : Er → Prop} {ρ : List Sl} {i j : Nat} {fc : TDT} {fk : TD} {g h : TDS}
theorem dSetdIf_c : dSetdIf i j fc fk g h dd R ρ = fc ρ (setdB i j fk g h dd R ρ) R := propext Iff.rfl
theorem setdB_f : setdB i j fk g h dd R ρ false = h dd R ρ := propext Iff.rfl
theorem setdB_t : setdB i j fk g h dd R ρ true = (i ≠ j ∧ (∃ kvs, ρ[i]? = some (.mo (.dk kvs))) ∧ fk ρ (setdK i j g h dd R ρ) R) := propext Iff.rfl
instance {i j : Nat} {c : TT} {tk : TE} {t u : TS} {fc : TDT} {fk : TD} {g h : TDS} [hc : RefT K τ E c fc] [hk : RefE K τ E tk fk] [ht : RefS K τ E t g] [hu : RefS K τ E u h] :
    RefS K τ E (tIfS (tAnd c (tTest (tOp (rNeD K) (tBM K "dict" rSetd (tVar i) (tCons tk (tCons (tVar j) tNil))) (tVar j)))) t u) (dSetdIf i j fc fk g h) := ⟨fun W A0 H0 D dd R H σ ρ gσ gρ b sr er ek q => by
  obtain ⟨W', A, co⟩ := sr
  refine hc.go W' A H σ ρ _ R _ (co.at_ ek) q fun bb H1 f1 i1 q1 => ?_
  have c1 := co.step f1 i1
  cases bb with
  | false => exact iteF (iteF (hu.go W A0 H0 D dd R H1 σ ρ gσ gρ b ⟨W', A, c1⟩ er ek q1))
  | true =>
    obtain ⟨nij, ⟨kvs, ei⟩, q1⟩ := q1
    refine iteT ?_
    obtain ⟨w0, ew, p, ho, rfl, ep, nB, aP, od⟩ := (c1.env.pre c1.lg).at_ _ _ ei
    cases ho with
    | dK ks =>
      refine ⟨.ref p, ew, .inr (.inr (.inl ⟨rfl, .inl ⟨ks, ep⟩⟩)), ?_⟩
      refine hk.go W' A H1 σ ρ _ R _ (c1.at_ ek) q1 fun v H2 s f2 i2 r2 q2 => ?_
      have c2 := c1.step f2 i2
      unfold setdK at q2
      split at q2
      · rename_i k kvs2 x ek2 ei2 ej
        rw [ei] at ei2
        cases ei2
        obtain ⟨hl, sx, q2⟩ := q2
        obtain rfl := key_flat r2 ek2
        obtain ⟨v2, ev2, u2, rfl, rx⟩ := (c2.env.pre c2.lg).at_ _ _ ej
        refine ⟨u2, ev2, ?_⟩
        have ep2 := f2.1 _ _ ep nt_dK nB
        have od2 : OdR K A H2 (.dK ks) (.dk kvs) := od.go (goes_fr c1.bs.ba f2)
        obtain ⟨z1, z2⟩ := od_val k od2.1 od2.2
        refine ⟨p, ks, k, u2, rfl, rfl, ep2, by rw [od_len od.1]; exact hl, fun y hy => ?_, fun hn => ?_⟩
        · cases ed : valD kvs k with
          | none =>
            rw [z1 ed] at hy
            cases hy
          | some d =>
            obtain ⟨y', ey', ry⟩ := z2 d ed
            rw [hy] at ey'
            cases ey'
            rw [ed] at q2
            refine ⟨u2, ev2, d, x, ry.dp (shaped_lay q2.1), rx.dp (shaped_lay sx), q2.1, sx, _, rfl, ?_⟩
            by_cases ee : PyData.eqv d x = true
            · rw [ee]
              have q3 := q2.2
              rw [if_pos ee] at q3
              exact iteF (hu.go W A0 H0 D dd R H2 σ ρ gσ gρ b ⟨W', A, c2⟩ er ek q3)
            · have q3 := q2.2
              rw [if_neg ee] at q3
              rw [show PyData.eqv d x = false from Bool.eq_false_iff.mpr ee]
              exact iteT (ht.go W A0 H0 D dd R H2 σ ρ gσ gρ b ⟨W', A, c2⟩ er ek q3)
        · cases ed : valD kvs k with
          | some d =>
            obtain ⟨y', ey', _⟩ := z2 d ed
            rw [hn] at ey'
            cases ey'
          | none =>
            rw [ed] at q2
            have c3 := c2.mutO (s1 := .mo (.dk (putD kvs k x))) (ho := .dK (putK ks k u2)) ei trivial ew (.dK _) fun g nB aP => ⟨p, _, rfl, upd_same, nB, aP, OdR.go g (show OdR K A H2 (.dK (putK ks k u2)) (.dk (putD kvs k x)) from od_put k rx od2.1 od2.2)⟩
            have ej3 : (ρ.set i (.mo (.dk (putD kvs k x))))[j]? = some (.d x) := by
              rw [List.getElem?_set_ne nij]
              exact ej
            obtain ⟨v3, ev3, u3, e3, rx3⟩ := (c3.env.pre c3.lg).at_ _ _ ej3
            subst e3
            rw [ev2] at ev3
            cases ev3
            refine ⟨u2, ev2, x, x, rx3.dp (shaped_lay sx), rx3.dp (shaped_lay sx), sx, sx, _, rfl, ?_⟩
            rw [q2.1]
            exact iteF (hu.go W A0 H0 D dd R _ σ _ gσ gρ b ⟨W', A, c3⟩ er ek q2.2)
      · exact q2.elim
    | _ => exact od.elim⟩
end
end Dl

namespace Wy
open PySem PySem.Spec PyProof.Rows L2
/-- the law's call from its body at the caller's own surroundings; the script and the table of the law's code are tracked -/
theorem end_call {P : Program} {w : World} {K : PySem.W.Frag} {mg mb : Str → Option Value} {fa a c T : Addr} {st : Shared} {vs : List Value} {ns : List Int}
    (inK : K.In st.heap) (gl : st.heap.Ns mainGlobals mg) (bl : st.heap.Ns builtinsNs mb) (blt : ∀ x : Str, x ≠ "__name__" → mb x = bootBuiltins x) (lim : st.heap.NoLimit) (gen : st.gens = #[])
    (hT : st.heap.get? T = some (PySem.W.tabObj #[])) (nT : K.lookup T = none) (hC : PySem.W.CodeHd st.heap c T)
    (bmod : ∃ (bm : Addr) (ob : Obj), mg "__builtins__" = some (.ref bm) ∧ bm ≠ builtinsNs ∧ st.heap.get? bm = some ob ∧ ob.cls = .type "module" ∧ ob.dict = some builtinsNs ∧ ob.data = .plain)
    (ha : st.heap.get? a = some { cls := .type "list", data := .seq vs.toArray }) (hi : IntsAre vs ns) (hl : ns.length ≤ sizeLine)
    (F : ∀ (base : Heap) (H : Hp), LamX.TabB base mg c T → H T = some (.tbl #[]) → SqL K H a (ns.map V.int) → Env0 P w K mg base callerA [] st H →
      codeAny (model P w) callerA (.call (.ref fa) ⟨[.ref a], []⟩) (CR CX0 [] P w H st (fun v _ => v = .bl true) E0) st) :
    codeAny (model P w) callerA (.call (.ref fa) ⟨[.ref a], []⟩) (fun r t => r = .ok (.ret (.bool true)) ∧ OldK st.heap t.heap ∧ t.os = st.os ∧ AllBare t.gens) st := by
  have vals := vals_ints hi
  have nvs := hi.length
  have aT : a ≠ T := fun z => by
    rw [z, hT] at ha
    have q := congrArg Obj.data (Option.some.inj ha)
    cases q
  obtain ⟨so, hso⟩ : ∃ so : Obj, so = { cls := .type "list", data := .seq vs.toArray } := ⟨_, rfl⟩
  rw [← hso] at ha
  obtain ⟨H, hH⟩ : ∃ H : Hp, H = fun b => if b = T then some (.tbl #[]) else if b = a ∧ K.lookup a = none then some (.frz so (.lst (ns.map V.int))) else none := ⟨_, rfl⟩
  have atT : H T = some (.tbl #[]) := by
    rw [hH]
    exact if_pos rfl
  have cases2 : ∀ b u, H b = some u → (b = T ∧ u = .tbl #[]) ∨ (b = a ∧ K.lookup a = none ∧ u = .frz so (.lst (ns.map V.int))) := fun b u e => by
    rw [hH] at e
    by_cases h1 : b = T
    · exact .inl ⟨h1, (Option.some.inj ((if_pos h1).symm.trans e)).symm⟩
    · have e := (if_neg h1).symm.trans e
      by_cases h2 : b = a ∧ K.lookup a = none
      · exact .inr ⟨h2.1, h2.2, (Option.some.inj ((if_pos h2).symm.trans e)).symm⟩
      · exact nomatch (if_neg h2).symm.trans e
  have lsOk : ObjOk P w H st.heap a (.lst (ns.map V.int)) := by
    exact ⟨by rw [List.length_map]; exact hl, vs, _, vals, (hso ▸ ha : st.heap.get? a = some { cls := .type "list", data := .seq vs.toArray })⟩
  have hok : HOk P w H st.heap := fun b u e => by
    rcases cases2 b u e with ⟨rfl, rfl⟩ | ⟨rfl, _, rfl⟩
    · exact hT
    · exact ⟨ha, lsOk⟩
  have apart : ∀ {b : Addr} {o : Obj}, st.heap.get? b = some o → (∀ x n, o.data ≠ .seq x n) → o.data ≠ .fields #[] → H b = none := fun {b o} e n1 n2 => by
    cases q : H b with
    | none => rfl
    | some u =>
      rcases cases2 b u q with ⟨rfl, _⟩ | ⟨rfl, _, _⟩
      · rw [hT] at e
        cases e
        exact absurd rfl n2
      · rw [ha, hso] at e
        cases e
        exact absurd rfl (n1 _ _)
  have nsB : ∀ {b : Addr} {m : Str → Option Value}, st.heap.Ns b m → (hidT st.heap H).Ns b m := fun {b m} ⟨o, es, ep, e, d, r⟩ =>
    ⟨o, es, ep, hidT_get e (apart e (fun x n z => nomatch d.symm.trans z) fun z => nomatch d.symm.trans z), d, r⟩
  have inB : K.In (hidT st.heap H) := fun b o e => hidT_get (inK b o e) (by
    cases q : H b with
    | none => rfl
    | some u =>
      rcases cases2 b u q with ⟨rfl, _⟩ | ⟨rfl, n, _⟩
      · exact nomatch nT.symm.trans e
      · exact nomatch n.symm.trans e)
  have md : L2.Mod K mg (hidT st.heap H) := ⟨inB, nsB gl, ⟨mb, nsB bl, blt⟩, let ⟨mc, q1, q2⟩ := lim; ⟨mc, nsB q1, q2⟩⟩
  have tb : LamX.TabB (hidT st.heap H) mg c T := by
    refine ⟨?_, ?_, fun z => ?_⟩
    · obtain ⟨o, us, file, tf, flags, tg, inF, text, tt, e1, k1, k2, k3, kr⟩ := hC
      refine ⟨o, us, file, tf, flags, tg, inF, text, tt, hidT_get e1 (apart e1 (fun x n z => nomatch k2.symm.trans z) fun z => ?_), k1, k2, k3, kr⟩
      have q : Data.fields us = Data.fields #[] := k2.symm.trans z
      cases q
      simp at k3
    · obtain ⟨bm, ob, b1, b2, b3, b4, b5, b6⟩ := bmod
      refine ⟨bm, ob, b1, b2, fun q => ?_, fun q => ?_, hidT_get b3 (apart b3 (fun x n z => nomatch b6.symm.trans z) fun z => nomatch b6.symm.trans z), b4, b5, b6⟩
      · obtain ⟨o, es, ep, e, d, _⟩ := gl
        rw [q, e] at b3
        cases b3
        exact nomatch d.symm.trans b6
      · rw [q, hT] at b3
        cases b3
        cases b6
    · obtain ⟨o, es, ep, e, d, _⟩ := gl
      rw [z, hT] at e
      cases e
      cases d
  have sq : SqL K H a (ns.map V.int) := by
    cases q : K.lookup a with
    | some o =>
      have e := (inK a o q).symm.trans ha
      rw [hso] at e
      cases e
      exact .inr ⟨_, vs.toArray, _, q, rfl, rfl, rfl, by rw [List.size_toArray, nvs]; exact hl, by simpa using vals⟩
    | none =>
      refine .inl (.inr ⟨so, ?_⟩)
      rw [hH]
      exact (if_neg aT).trans (if_pos ⟨rfl, q⟩)
  have env : Env0 P w K mg (hidT st.heap H) callerA [] st H := ⟨rfl, md, fun b o e => of_hidT e, Nat.le_of_eq (hidT_size _ _), trivial, (fun b z => nomatch (show b ∈ ([] : List Addr) from z)), hok, .of_eq gen⟩
  refine codeAny_mono (F _ H tb atT sq env) fun r t h => ?_
  cases r with
  | error e => exact (show False from h).elim
  | ok fl =>
    cases fl with
    | next => exact (show False from h).elim
    | brk => exact (show False from h).elim
    | cont => exact (show False from h).elim
    | ret u =>
      obtain ⟨v, G, os, bare, un, okG, rv, q⟩ := h
      obtain rfl : v = .bl true := q
      obtain rfl : u = Value.bool true := rv
      have stays : ∀ b o, b ≠ T → st.heap.get? b = some o → t.heap.get? b = some o := fun b o nb e => by
        cases q : H b with
        | none => exact un.keep b o e q (fun z => nomatch (show b ∈ ([] : List Addr) from z)) (by simp)
        | some u =>
          rcases cases2 b u q with ⟨z, _⟩ | ⟨rfl, _, rfl⟩
          · exact absurd z nb
          · obtain ⟨e2, _⟩ := okG b _ (un.frzs b so _ q)
            rw [ha] at e
            cases e
            exact e2
      obtain ⟨more, hm⟩ := un.tbls T #[] atT
      have atG : t.heap.get? T = some { cls := .none, data := .fields (#[] ++ more) } := okG T _ hm
      refine ⟨rfl, ⟨fun b o e => ?_, fun b o e => ?_⟩, os, bare⟩
      · by_cases hb : b = T
        · subst hb
          rw [hT] at e
          cases e
          exact .inr (.inl ⟨(hC.tab hT).isCodeTable, rfl, #[], more, rfl, atG⟩)
        · exact .inl (stays b o hb e)
      · by_cases hb : b = T
        · rw [hb]
          exact ⟨_, atG⟩
        · exact ⟨o, stays b o hb e⟩
/-- what the law's def does from its place in the written part -/
def Runs (P : Program) (w : World) (K : PySem.W.Frag) (mg : Str → Option Value) (c T fa : Addr) : Prop := ∀ (base : Heap) (H : Hp) (s : Shared) (a : Addr) (ns : List Int), LamX.TabB base mg c T → H T = some (.tbl #[]) → SqL K H a (ns.map V.int) → Env0 P w K mg base callerA [] s H →
  codeAny (model P w) callerA (.call (.ref fa) ⟨[.ref a], []⟩) (CR CX0 [] P w H s (fun v _ => v = .bl true) E0) s
theorem walk_end {l : PySem.W.OpenLaw} {n : Nat} {q : Program} {loose : List Str} {XP : (Str → Option Value) → Heap → Prop} {YP : World → Heap → Prop} {d : DefRec} {K : Params → PySem.W.Frag} {T : Addr}
    (most : l.most = some n) (most2 : n ≤ sizeLine) (dflt : d.params.defaults = []) (inK : ∀ (w : World) (h : Heap), YP w h → (K w.params).In h) (tab : ∀ (w : World) (h : Heap), YP w h → h.get? T = some (PySem.W.tabObj #[]))
    (F : ∀ (w : World) (mg : Str → Option Value) (fa : Addr) (h : Heap), (K w.params).In h → h.Ns mainGlobals mg → mg d.name = some (.ref fa) → (K w.params).lookup T = none ∧ ∃ c, PySem.W.codeHdIn (K w.params) c T = true ∧ Runs l.prog w (K w.params) mg c T fa) :
    PySem.W.WalkO q loose XP YP l.row.toRowW d [] (fun f vs => PySem.call f vs) := by
  refine Att.attach_call most dflt fun w s0 st mg mb fa o pm cd doc a vs ns G Y ho hd hcd hmg hobj hints hlen hg => ?_
  have KX := inK w _ Y
  obtain ⟨nT, c, hc, run⟩ := F w mg fa _ KX G.T.g hmg
  exact end_call KX G.T.g G.T.b G.T.builtins G.T.nolimit hg (tab w _ Y) nT (PySem.W.codeHd_of_K KX hc) G.T.bmain hobj hints (Nat.le_trans hlen most2) fun base H tb hT sq env => run base H st a ns tb hT sq env
end Wy

set_option synthInstance.maxHeartbeats 2000000
set_option synthInstance.maxSize 100000
namespace Wy
open PySem PySem.Spec PyProof.Rows L2 Dl
def topS (i : Nat) : Stmt := PySem.Challenge.pw_waysranked_k77_ways_written.main.body.getD i (.Pass ⟨0, 0, 0, 0⟩)
abbrev s_is_whole : Stmt := topS 22
abbrev s_is_within : Stmt := topS 23
abbrev s_way_text : Stmt := topS 26
abbrev s__law_cell_at : Stmt := topS 28
abbrev s__law_state : Stmt := topS 29
abbrev s__law_take : Stmt := topS 30
abbrev s__law_marks : Stmt := topS 31
abbrev s__law_word : Stmt := topS 32
abbrev s__law_said : Stmt := topS 33
abbrev s__law_number : Stmt := topS 34
abbrev s__law_odd : Stmt := topS 35
abbrev s__law_spoilt : Stmt := topS 36
abbrev s__law_is_way : Stmt := topS 37
abbrev s__law_way_text : Stmt := topS 38
/-- a def of the text, where it stands, how its arguments bind -/
structure Df (K : PySem.W.Frag) (mg : Str → Option Value) (x : Str) (st : Stmt) (ps : List Str) (f : Addr) (fd : FuncData) : Prop where
  F : Fun K x x st f fd
  b : Binds K fd ps []
  g : mg x = some (.ref f)
/-- a class of refusals without an __init__ of its own -/
structure Ex (K : PySem.W.Frag) (mg : Str → Option Value) (x : Str) (C : Addr) : Prop where
  g : mg x = some (.ref C)
  x : PySem.W.excIn K C [.type "ValueError", .type "Exception", .type "BaseException", .type "object"] "ValueError.__new__" = true
  k : PySem.W.keepIn K (.ref C) = true
  b : PySem.W.subIn K (.ref C) (.type "BaseException") = some true
  t : PySem.W.typeIn K (.ref C) = some (.type "type")
/-- a def that can be called by its name, with its promise -/
structure Cb (P : Program) (w : World) (K : PySem.W.Frag) (mg : Str → Option Value) (base : Heap) (CX : CXT) (k : Nat) (x : Str) (ps : List Str) (sp : Sp) : Prop where
  ex : ∃ f fd, FnOk P w K mg base CX k f fd ps sp ∧ mg x = some (.ref f) ∧ PySem.W.keepIn K (.ref f) = true ∧ Binds K fd ps []
theorem pe_cb {X : Cx} {CX : CXT} {E : XK} {k : Nat} {ps : List Str} {sp : Sp} {x : Str} {p pos : Pos} {e : Expr} {es : List Expr} {t : TA} (h : Cb X.prog X.w X.K X.mg X.base CX k x ps sp) (hr : Room k X.A) (hg : Gl X x) (hx : Passes CX X E) (ha : PA X (e :: es) t)
    (hdb : (x == ("__debug__" : Str)) = false := by decide) (he : starEach (e :: es) X.env = (false, eval e X.env) :: starEach es X.env := by rfl) (hpl : (backTo pos (starEach es X.env)).any (·.1) = false := by rfl) : PE X (.Call (.Name x p) (e :: es) [] pos) (tCall sp [] E t) := by
  obtain ⟨f, fd, F, hm, hk, hb⟩ := h.ex
  exact pe_call F hr hg hm hk hb .nil hx ha hdb he hpl
theorem Cb.imp {P : Program} {w : World} {K : PySem.W.Frag} {mg : Str → Option Value} {base : Heap} {CX : CXT} {k : Nat} {x : Str} {ps : List Str} {sp sp' : Sp} (h : Cb P w K mg base CX k x ps sp) (i : ∀ vs H Q E, sp' vs H Q E → sp vs H Q E) : Cb P w K mg base CX k x ps sp' := by
  obtain ⟨f, fd, F, r⟩ := h.ex
  exact ⟨f, fd, F.imp i, r⟩
structure Tx (K : PySem.W.Frag) (mg : Str → Option Value) (C : Nat → Addr) : Prop where
  len : mg "len" = none
  isinstance : mg "isinstance" = none
  all : mg "all" = none
  max : mg "max" = none
  min : mg "min" = none
  int : mg "int" = none
  str : mg "str" = none
  list : mg "list" = none
  tuple : mg "tuple" = none
  range : mg "range" = none
  enumerate : mg "enumerate" = none
  repr : mg "repr" = none
  bool : mg "bool" = none
  ValueError : mg "ValueError" = none
  h_is_whole : ∃ f fd, Df K mg "is_whole" s_is_whole ["thing"] f fd
  h_is_within : ∃ f fd, Df K mg "is_within" s_is_within ["thing", "low", "high"] f fd
  h_way_text : ∃ f fd, Dk K mg "way_text" s_way_text [] f fd
  h__law_cell_at : ∃ f fd, Df K mg "_law_cell_at" s__law_cell_at ["_law_script", "_law_k"] f fd
  h__law_state : ∃ f fd, Df K mg "_law_state" s__law_state ["_law_script", "_law_k"] f fd
  h__law_take : ∃ f fd, Df K mg "_law_take" s__law_take ["_law_state_here", "_law_much"] f fd
  h__law_marks : ∃ f fd, Df K mg "_law_marks" s__law_marks ["_law_e"] f fd
  h__law_word : ∃ f fd, Df K mg "_law_word" s__law_word ["_law_e"] f fd
  h__law_said : ∃ f fd, Df K mg "_law_said" s__law_said ["_law_call"] f fd
  h__law_number : ∃ f fd, Df K mg "_law_number" s__law_number ["_law_what", "_law_least", "_law_most"] f fd
  h__law_odd : ∃ f fd, Df K mg "_law_odd" s__law_odd ["_law_state_here"] f fd
  h__law_spoilt : ∃ f fd, Df K mg "_law_spoilt" s__law_spoilt ["_law_state_here", "_law_what", "_law_deep"] f fd
  h__law_is_way : ∃ f fd, Df K mg "_law_is_way" s__law_is_way ["_law_what"] f fd
  h__law_way_text : ∃ f fd, Df K mg "_law_way_text" s__law_way_text ["_law_what"] f fd
  c_MOST_ROADS : ∃ t, mg "MOST_ROADS" = some (.int 30 t)
  e_NoWay : Ex K mg "NoWay" (C 7)
section
variable {P : Program} {w : World} {K : PySem.W.Frag} {mg : Str → Option Value} {base : Heap} {C : Nat → Addr}
theorem sc__law_take : FnScope ["_law_state_here", "_law_much", "_law_found", "_law_stirred"] ["_law_state_here", "_law_much"] (defScope s__law_take) := ⟨rfl, rfl, rfl, by decide +kernel, rfl, by decide +kernel, by decide +kernel⟩
theorem ok_take {f : Addr} {fd : FuncData} {k : Nat} (D : Df K mg "_law_take" s__law_take ["_law_state_here", "_law_much"] f fd) : FnOk P w K mg base CX0 (k + 1) f fd ["_law_state_here", "_law_much"] spTake := by
  refine D.F.ok sc__law_take (fun vs H Q E h => ?_) (fun cdv A outer s H vs Q E hr h => ?_)
  · obtain ⟨_, _, rfl, _⟩ := h
    rfl
  · obtain ⟨z, m, rfl, ⟨x, y, e, hx, hy, hy2⟩, hm, hm2, q⟩ := h
    refine ⟨_, pss_cons (ps_if (pt_cmpR op_gt (pe_ix ix_list (pv 0) pe_int (fun _ _ => rfl)) pe_int (nomark _))
        (pss_cons (ps_set (i := 2) sc__law_take.nd rfl (.inl rfl) (pe_op op_mod (pe_ix ix_list (pv 0) pe_int (fun _ _ => rfl)) (pv 1)))
        (pss_cons (ps_asg (pe_op op_fdiv (pe_ix ix_list (pv 0) pe_int (fun _ _ => rfl)) (pv 1)) (pg_sub (pv 0) pe_int set_list))
        (pss_one (ps_ret (pv 2))))) pss_nil)
      (pss_cons (ps_asg (pe_op op_mod (pe_op op_add (pe_op op_mul (pe_ix ix_list (pv 0) pe_int (fun _ _ => rfl)) pe_int) pe_int) pe_int) (pg_sub (pv 0) pe_int set_list))
      (pss_cons (ps_set (i := 3) sc__law_take.nd rfl (.inl rfl) (pe_op op_mod (pe_op op_add (pe_op op_add (pe_op op_mul (pe_ix ix_list (pv 0) pe_int (fun _ _ => rfl)) (pe_ix ix_list (pv 0) pe_int (fun _ _ => rfl))) (pe_op op_mul pe_int (pe_ix ix_list (pv 0) pe_int (fun _ _ => rfl)))) pe_int) pe_int))
      (pss_cons (ps_set (i := 3) sc__law_take.nd rfl (.inl rfl) (pe_op op_mod (pe_op op_add (pe_op op_mul (pv 3) (pv 3)) (pe_op op_mul pe_int (pv 3))) pe_int))
      (pss_one (ps_ret (pe_op op_mod (pe_op op_fdiv (pv 3) pe_int) (pv 1))))))), ?_⟩
    refine ⟨.ref z, rfl, z, _, 0, _, rfl, rfl, SqL.of e, rfl, x, 0, rfl, rfl, _, rfl, ite2 (fun c => ?_) (fun c => ?_)⟩
    · refine ⟨.ref z, rfl, z, _, 0, _, rfl, rfl, SqL.of e, rfl, .int m, rfl, x, m, rfl, rfl, hm, ?_⟩
      refine ⟨.ref z, rfl, z, _, 0, _, rfl, rfl, SqL.of e, rfl, .int m, rfl, x, m, rfl, rfl, ⟨hm, hm2⟩, ?_⟩
      refine ⟨.ref z, rfl, z, _, 0, 0, rfl, rfl, e, rfl, ?_⟩
      refine ⟨.int (x % m), rfl, q _ _ .self ⟨x / m, y, upd_same, Int.ediv_nonneg hx (Int.le_of_lt hm), hy, hy2⟩ (Int.emod_nonneg _ (by omega)) (Int.emod_lt_of_pos _ hm)⟩
    · have b1 := Int.emod_nonneg (y * 48271 + 29) (show (2147483647 : Int) ≠ 0 by decide)
      have b2 := Int.emod_lt_of_pos (y * 48271 + 29) (show (0 : Int) < 2147483647 by decide)
      refine ⟨.ref z, rfl, z, _, 1, _, rfl, rfl, SqL.of e, rfl, y, 48271, rfl, rfl, .inr ⟨by decide, by decide⟩, _, _, rfl, rfl, _, 2147483647, rfl, rfl, (by show (0 : Int) < 2147483647; decide), ?_⟩
      refine ⟨.ref z, rfl, z, _, 1, 1, rfl, rfl, e, rfl, ?_⟩
      have e2 : (upd H z (.lst [.int x, .int ((y * 48271 + 29) % 2147483647)])) z = some (.lst [.int x, .int ((y * 48271 + 29) % 2147483647)]) := upd_same
      obtain ⟨y2, ey⟩ : ∃ y2, y2 = (y * 48271 + 29) % 2147483647 := ⟨_, rfl⟩
      rw [← ey] at b1 b2 e2
      show (fun H0 : Hp => _) (upd H z (.lst [.int x, .int ((y * 48271 + 29) % 2147483647)]))
      rw [← ey]
      refine ⟨.ref z, rfl, z, _, 1, _, rfl, rfl, SqL.of e2, rfl, .ref z, rfl, z, _, 1, _, rfl, rfl, SqL.of e2, rfl, y2, y2, rfl, rfl, .inl ⟨by omega, by omega⟩, .ref z, rfl, z, _, 1, _, rfl, rfl, SqL.of e2, rfl, 39373, y2, rfl, rfl, .inl ⟨by decide, by decide⟩, _, _, rfl, rfl, _, 7, rfl, rfl, _, 2147483629, rfl, rfl, (by show (0 : Int) < 2147483629; decide), ?_⟩
      have c1 := Int.emod_nonneg (y2 * y2 + 39373 * y2 + 7) (show (2147483629 : Int) ≠ 0 by decide)
      have c2 := Int.emod_lt_of_pos (y2 * y2 + 39373 * y2 + 7) (show (0 : Int) < 2147483629 by decide)
      have d1 : -(2 : Int) ^ 64 < (y2 * y2 + 39373 * y2 + 7) % 2147483629 := Int.lt_of_lt_of_le (by decide) c1
      have d2 : (y2 * y2 + 39373 * y2 + 7) % 2147483629 < (2 : Int) ^ 64 := Int.lt_trans c2 (by decide)
      refine ⟨_, rfl, _, rfl, _, _, rfl, rfl, .inl ⟨d1, d2⟩, _, rfl, 16807, _, rfl, rfl, .inl ⟨by decide, by decide⟩, _, _, rfl, rfl, _, 2147483587, rfl, rfl, (by show (0 : Int) < 2147483587; decide), ?_⟩
      refine ⟨_, rfl, _, 8, rfl, rfl, ⟨by decide, by decide⟩, .int m, rfl, _, m, rfl, rfl, hm, ?_⟩
      exact q _ _ .self ⟨x, y2, e2, hx, b1, b2⟩ (Int.emod_nonneg _ (by omega)) (Int.emod_lt_of_pos _ hm)
theorem sc__law_cell_at : FnScope ["_law_script", "_law_k"] ["_law_script", "_law_k"] (defScope s__law_cell_at) := ⟨rfl, rfl, rfl, by decide +kernel, rfl, by decide +kernel, by decide +kernel⟩
def spCell (K : PySem.W.Frag) : Sp := fun vs H Q _ => ∃ (a : Addr) (ns : List Int) (i : Nat), vs = [.ref a, .int (i : Int)] ∧ SqL K H a (ns.map V.int) ∧ ∀ n, Q (.int n) H
theorem ok_cell {f : Addr} {fd : FuncData} {k : Nat} (D : Df K mg "_law_cell_at" s__law_cell_at ["_law_script", "_law_k"] f fd) (ml : mg "len" = none) : FnOk P w K mg base CX0 (k + 1) f fd ["_law_script", "_law_k"] (spCell K) := by
  refine D.F.ok sc__law_cell_at (fun vs H Q E h => ?_) (fun cdv A outer s H vs Q E hr h => ?_)
  · obtain ⟨_, _, _, rfl, _⟩ := h
    rfl
  · obtain ⟨a, ns, i, rfl, hS, q⟩ := h
    refine ⟨_, pss_cons (ps_if (pt_cmpR op_lt (pv 1) (pe_callB call_len_seq (by rfl) ml PySem.boot_len (pa_cons (pv 0) pa_nil)) (nomark _))
        (pss_one (ps_ret (pe_ix ix_list (pv 0) (pv 1) (fun _ _ => rfl)))) pss_nil) (pss_one (ps_ret pe_int)), ?_⟩
    refine ⟨.int i, rfl, .ref a, rfl, a, _, rfl, .inl hS, _, _, rfl, rfl, _, rfl, ite2 (fun c => ?_) (fun c => ?_)⟩
    · have c' : (i : Int) < ((ns.map V.int).length : Int) := of_decide_eq_true c
      rw [List.length_map] at c'
      have hi : i < ns.length := by omega
      refine ⟨.ref a, rfl, .int i, rfl, a, _, i, .int ns[i], rfl, rfl, hS, atI_nat ?_, q _⟩
      rw [List.getElem?_map, List.getElem?_eq_getElem hi]
      rfl
    · exact q _
theorem sc__law_state : FnScope ["_law_script", "_law_k", "_law_cell"] ["_law_script", "_law_k"] (defScope s__law_state) := ⟨rfl, rfl, rfl, by decide +kernel, rfl, by decide +kernel, by decide +kernel⟩
theorem ok_state {f fC : Addr} {fd fdC : FuncData} {k : Nat} (D : Df K mg "_law_state" s__law_state ["_law_script", "_law_k"] f fd) (DC : Df K mg "_law_cell_at" s__law_cell_at ["_law_script", "_law_k"] fC fdC) (ml : mg "len" = none) (mm : mg "max" = none) : FnOk P w K mg base CX0 (k + 2) f fd ["_law_script", "_law_k"] (spState K) := by
  have G : FnOk P w K mg base CX0 (k + 1) fC fdC ["_law_script", "_law_k"] (spCell K) := ok_cell DC ml
  refine D.F.ok sc__law_state (fun vs H Q E h => ?_) (fun cdv A outer s H vs Q E hr h => ?_)
  · obtain ⟨_, _, _, rfl, _⟩ := h
    rfl
  · obtain ⟨a, ns, i, rfl, hS, q⟩ := h
    refine ⟨_, pss_cons (ps_set (i := 2) sc__law_state.nd rfl (.inl rfl) (pe_call G hr (by rfl) DC.g DC.F.kp DC.b .nil pass0 (pa_cons (pv 0) (pa_cons (pv 1) pa_nil))))
      (pss_one (ps_ret (pe_lst (pa_cons (pe_callB (call_max2 rfl) (by rfl) mm (by decide +kernel) (pa_cons pe_int (pa_cons (pe_op op_sub (pv 2) (pe_op op_pow pe_int pe_int)) pa_nil)))
        (pa_cons (pe_op op_mod (pv 2) pe_int) pa_nil))))), ?_⟩
    refine ⟨.ref a, rfl, .int i, rfl, a, ns, i, rfl, hS, fun n => ?_⟩
    refine ⟨.int n, rfl, 10, 18, rfl, rfl, ⟨by decide, by decide, by decide⟩, n, _, rfl, rfl, 0, _, rfl, .int n, rfl, n, 2147483647, rfl, rfl, (by show (0 : Int) < 2147483647; decide), by show 2 ≤ sizeLine; decide, fun z hz => ?_⟩
    refine q _ z (same_new hz) hz ⟨_, _, upd_same, ?_, Int.emod_nonneg _ (by decide), Int.emod_lt_of_pos _ (by decide)⟩
    split <;> omega
theorem c__law_take (T : Tx K mg C) : Cb P w K mg base CX0 1 "_law_take" ["_law_state_here", "_law_much"] (spD K [] sdTake) := by
  obtain ⟨f, fd, D⟩ := T.h__law_take
  exact ⟨f, fd, (ok_take (k := 0) D).imp take_imp, D.g, D.F.kp, D.b⟩
theorem c__law_state (T : Tx K mg C) : Cb P w K mg base CX0 2 "_law_state" ["_law_script", "_law_k"] (spState K) := by
  obtain ⟨f, fd, D⟩ := T.h__law_state
  obtain ⟨fC, dC, DC⟩ := T.h__law_cell_at
  exact ⟨f, fd, ok_state (k := 0) D DC T.len T.max, D.g, D.F.kp, D.b⟩
end
end Wy

set_option synthInstance.maxHeartbeats 2000000
set_option synthInstance.maxSize 100000
namespace Wy
open PySem PySem.Spec PyProof.Rows L2 Dl
section
variable {P : Program} {w : World} {K : PySem.W.Frag} {mg : Str → Option Value} {base : Heap} {C : Nat → Addr}
theorem sc__law_number : FnScope ["_law_what", "_law_least", "_law_most"] ["_law_what", "_law_least", "_law_most"] (defScope s__law_number) := ⟨rfl, rfl, rfl, by decide +kernel, rfl, by decide +kernel, by decide +kernel⟩
def sd__law_number : SpD := fun ss Qd _ => ∃ x, ∃ lo hi : Int, ss = [.d x, .d (.int lo), .d (.int hi)] ∧ Qd (.d (.bool (withinD lo hi x)))
theorem c__law_number (T : Tx K mg C) : Cb P w K mg base CX0 1 "_law_number" ["_law_what", "_law_least", "_law_most"] (spD K [] sd__law_number) := by
  obtain ⟨f, fd, D⟩ := T.h__law_number
  refine ⟨f, fd, okD (k := 0) D.F sc__law_number (fun ss Qd R h => ?_) (fun cdv A outer s H E hr => ⟨_, (pss_one (ps_ret (pe_and (pe_callB (call_isiQ (K := K) rfl) (by rfl) T.isinstance (by decide +kernel) (pa_cons (pv 0) (pa_cons (pe_bltn (v := .ty "int") (by rfl) T.int (by decide +kernel) rfl) pa_nil))) (pe_and (pe_not (pe_callB (call_isiQ (K := K) rfl) (by rfl) T.isinstance (by decide +kernel) (pa_cons (pv 0) (pa_cons (pe_bltn (v := .ty "bool") (by rfl) T.bool (by decide +kernel) rfl) pa_nil)))) (pe_one (pe_chain op_le op_le (pv 1) (pv 0) (pv 2))))))), ?_⟩), D.g, D.F.kp, D.b⟩
  · obtain ⟨_, _, _, rfl, _⟩ := h
    rfl
  · refine ⟨_, fun τ => inferInstance, fun ss Qd R h => ?_⟩
    obtain ⟨x, lo, hi, rfl, q⟩ := h
    cases x with
    | int i =>
      have e : withinD lo hi (.int i) = (decide (lo ≤ i) && decide (i ≤ hi)) := rfl
      rw [e] at q
      refine ⟨.inl rfl, .inr (.inl rfl), ?_⟩
      show (match decide (lo ≤ i) with | true => _ | false => _)
      cases h1 : decide (lo ≤ i) with
      | true =>
        rw [h1] at q
        exact q
      | false =>
        rw [h1] at q
        exact q
    | bool b => exact ⟨.inl rfl, .inr (.inl rfl), q⟩
    | _ => exact ⟨.inl rfl, q⟩
def oddM : List PyData := [.none, .bool true, .bool false, .int 0, .int 1, .int (-1), .int 99, .int 100, .int (10 ^ 29), .str "", .str "0", .str "roads", .tuple [], .list [], .dict [], .tuple [.int 0], .list [.int 0], .tuple [.int 0, .int 1], .tuple [.bool true], .tuple [.tuple []], .dict [(.int 0, .int 1)], .tuple [.int 1, .tuple []], .list [.int 1, .tuple []], .tuple [.none, .int 0], .tuple [.str "bound"], .tuple [.tuple [.int 0, .int 1]]]
theorem sc__law_odd : FnScope ["_law_state_here", "_law_some"] ["_law_state_here"] (defScope s__law_odd) := ⟨rfl, rfl, rfl, by decide +kernel, rfl, by decide +kernel, by decide +kernel⟩
def sd__law_odd : SpD := fun ss Qd _ => ss = [.st] ∧ ∀ d ∈ oddM, Qd (.d d)
theorem c__law_odd (T : Tx K mg C) : Cb P w K mg base CX0 2 "_law_odd" ["_law_state_here"] (spD K [] sd__law_odd) := by
  obtain ⟨f, fd, D⟩ := T.h__law_odd
  refine ⟨f, fd, okD (k := 1) D.F sc__law_odd (fun ss Qd R h => ?_) (fun cdv A outer s H E hr => ⟨_, (pss_cons (ps_set (i := 1) sc__law_odd.nd rfl (.inl rfl) (pe_lst (pa_cons pe_non (pa_cons pe_bl (pa_cons pe_bl (pa_cons pe_int (pa_cons pe_int (pa_cons (pe_un un_neg pe_int) (pa_cons pe_int (pa_cons pe_int (pa_cons (pe_op op_pow pe_int pe_int) (pa_cons pe_str (pa_cons pe_str (pa_cons pe_str (pa_cons (pe_tup pa_nil) (pa_cons (pe_lst pa_nil) (pa_cons pe_dnewK (pa_cons (pe_tup (pa_cons pe_int pa_nil)) (pa_cons (pe_lst (pa_cons pe_int pa_nil)) (pa_cons (pe_tup (pa_cons pe_int (pa_cons pe_int pa_nil))) (pa_cons (pe_tup (pa_cons pe_bl pa_nil)) pa_nil)))))))))))))))))))))
    (pss_one (ps_ret (pe_ix (ix_seqK (K := K) rfl) (pe_op (op_addK (K := K) rfl) (pv 1) (pe_lst (pa_cons (pe_tup (pa_cons (pe_tup pa_nil) pa_nil)) (pa_cons (pe_disp (pps_cons pe_int pe_int pps_nil) (by rfl) (by rfl) (fun z => by cases z) (by decide)) (pa_cons (pe_tup (pa_cons pe_int (pa_cons (pe_tup pa_nil) pa_nil))) (pa_cons (pe_lst (pa_cons pe_int (pa_cons (pe_tup pa_nil) pa_nil))) (pa_cons (pe_tup (pa_cons pe_non (pa_cons pe_int pa_nil))) (pa_cons (pe_tup (pa_cons pe_str pa_nil)) (pa_cons (pe_tup (pa_cons (pe_tup (pa_cons pe_int (pa_cons pe_int pa_nil))) pa_nil)) pa_nil))))))))) (pe_cb (c__law_take (K := K) T) (hr.mono (by decide)) (by rfl) pass0 (pa_cons (pv 0) (pa_cons pe_int pa_nil))) (fun _ _ => rfl))))), ?_⟩), D.g, D.F.kp, D.b⟩
  · obtain ⟨rfl, _⟩ := h
    rfl
  · refine ⟨_, fun τ => inferInstance, fun ss Qd R h => ?_⟩
    obtain ⟨rfl, q⟩ := h
    try simp only [startD, iEn, cvs, cv, vS, Sl.dat, Sl.seq, Sl.sq, Sl.fz, dats, dSetI, dAug, wipeD, List.length_cons, List.length_nil, List.length_append, List.length_replicate, Nat.reduceAdd, Nat.reduceSub, Nat.zero_add, List.replicate_succ, List.replicate_zero, List.cons_append, List.nil_append, List.append_nil, List.set_cons_zero, List.set_cons_succ, List.set_nil, List.getElem?_cons_zero, List.getElem?_cons_succ, Option.getD_some, List.map_cons, List.map_nil, Option.bind_some, fI0_c, fI_c, fU_c, fAddX_i, fAddX_t, fAddX_s, fAddX_mm, fAddX_bm, fAddX_mb, fAddX_bb, fAddX_lm, fAddX_ll, fMulX_i, fMulX_m, fSlX_t, fSlX_m, fSlX_b, fSlX_l, fIs_n, fIs_i, fIs_b, fIs_s, fIs_l, fIs_t, fIs_m, fIs_bl, fLen_t, fLen_l, fLen_m, fLen_b, fLen_scr, fIsi_c, fEqD_c, fEqD_mm, fEqD_bm, fEqD_bb, fEqD_dm, fEq_ss, fInt_i, fInt_b, fTuple_m, fTuple_b, fTuple_t, fTuple_l, fList_m, fList_b, fList_t, fList_l, f2I_c, fRepr_c, fRepr_m, fRepr_b, fStr_c, Bool.not_true, Bool.not_false, true_and, netT, Road.dt, reduceIte, Bool.false_eq_true, decide_true, decide_false, tupK, lstK, dNext_c, dBreak_c, dCont_c, dSeq_c, dDrop_c, dRet_c, retK_d, retK_m, retK_r, dRetN_c, dIfS_c, iteS_t, iteS_f, dSet_c, setK_d, setK_m, setK_s, setK_r, dAsg_c, asgK_d, asgK_m, dFz_c, dNever_c, dRaise_c, dC_c, dOp_c, dUn_c, dTst_c, tstK_c, dTru_c, truK_n, truK_b, truK_i, truK_t, truK_l, truK_m, truK_bl, dNot_c, dAnd_c, andK_t, andK_f, dOr_c, orK_t, orK_f, dAndV_c, andV_t, andV_f, dOrV_c, orV_t, orV_f, dNotV_c, dIf_c, iteE_t, iteE_f, dChain_c, chK_t, chK_f, dNil_c, dCons_c, dCB_c, dCall_c, dCall0_c, dTup_c, dLst_c, dFor_c, dLc_c, iTp_c, tpK_c, iLst_c, lsK_d, lsK_m, iSeq_c, sqK_d, sqK_m, sqK_b, dSl_c, dNo_c, dPt_c, ptK_c, dYes_c, dBack_k, backK_c, dTupRg_c, dLstRg_c, dRg1_c, dRg2_c, rg1K_c, rg2K_c, tupRg_c, lstRg_c, dDict0_c, dDict1_c, gdName_c, gdTup_c, gdCons_c, gdNil_c, dApp_c, appK_c, apK_d, apK_m, dVar_c, varK_d, varK_m, varK_b, varK_s, varK_sc, varK_r, dNew_c, varK_mo, varK_bo, setK_mo, retK_mo, dDIn_c, dinK_i, dinK_s, dDGet_c, dDGet1_c, isBo_c, dget1K_i, dDPut_c, dputV_d, dputK_i, val_mo, dOwn0_c, dDispV_c, dispK_i, fRepT_c, fIsB_c, dM0_c, dM1_c, isStr_c, fQ0_c, fQ1_c, fSplit_c, fLenS_c, iEnSD_c, dSetdIf_c, setdB_f, enSK_m, enSK_d, dOrT_c, dAndT_c, orTK_n, dCallK_c, dCallK0_c, dCallD_c, dCallD0_c, dSaid_c, toldK_d, toldK_m, iRg1_c, rgK_c, iRg2_c, rgK2_c, iEnT_c, enK_c, iZp_c, zpK_tt, zpK_mm, zpK_ll, zpK_lm, zpK_ml, dPar_c, parK_im, parK_nm, parK_sm, parK_dd, parK_md]
    try simp only [show ((0 : Nat) ≤ sizeLine) = True from eq_true (by decide), show ((1 : Nat) ≤ sizeLine) = True from eq_true (by decide), show ((2 : Nat) ≤ sizeLine) = True from eq_true (by decide), show ((3 : Nat) ≤ sizeLine) = True from eq_true (by decide), show ((4 : Nat) ≤ sizeLine) = True from eq_true (by decide), show ((5 : Nat) ≤ sizeLine) = True from eq_true (by decide), show ((6 : Nat) ≤ sizeLine) = True from eq_true (by decide), show ((7 : Nat) ≤ sizeLine) = True from eq_true (by decide), show ((8 : Nat) ≤ sizeLine) = True from eq_true (by decide), show ((9 : Nat) ≤ sizeLine) = True from eq_true (by decide), show ((10 : Nat) ≤ sizeLine) = True from eq_true (by decide), show ((11 : Nat) ≤ sizeLine) = True from eq_true (by decide), show ((12 : Nat) ≤ sizeLine) = True from eq_true (by decide), show ((13 : Nat) ≤ sizeLine) = True from eq_true (by decide), show ((14 : Nat) ≤ sizeLine) = True from eq_true (by decide), show ((15 : Nat) ≤ sizeLine) = True from eq_true (by decide), show ((16 : Nat) ≤ sizeLine) = True from eq_true (by decide), show ((17 : Nat) ≤ sizeLine) = True from eq_true (by decide), show ((18 : Nat) ≤ sizeLine) = True from eq_true (by decide), show ((19 : Nat) ≤ sizeLine) = True from eq_true (by decide), show ((20 : Nat) ≤ sizeLine) = True from eq_true (by decide), show ((21 : Nat) ≤ sizeLine) = True from eq_true (by decide), show ((22 : Nat) ≤ sizeLine) = True from eq_true (by decide), show ((23 : Nat) ≤ sizeLine) = True from eq_true (by decide), show ((24 : Nat) ≤ sizeLine) = True from eq_true (by decide), show ((25 : Nat) ≤ sizeLine) = True from eq_true (by decide), show ((26 : Nat) ≤ sizeLine) = True from eq_true (by decide), show ((27 : Nat) ≤ sizeLine) = True from eq_true (by decide), show ((28 : Nat) ≤ sizeLine) = True from eq_true (by decide), show ((29 : Nat) ≤ sizeLine) = True from eq_true (by decide), show ((30 : Nat) ≤ sizeLine) = True from eq_true (by decide), show ((31 : Nat) ≤ sizeLine) = True from eq_true (by decide), show ((32 : Nat) ≤ sizeLine) = True from eq_true (by decide), show ((33 : Nat) ≤ sizeLine) = True from eq_true (by decide), show ((34 : Nat) ≤ sizeLine) = True from eq_true (by decide), show ((35 : Nat) ≤ sizeLine) = True from eq_true (by decide), show ((36 : Nat) ≤ sizeLine) = True from eq_true (by decide), show ((37 : Nat) ≤ sizeLine) = True from eq_true (by decide), show ((38 : Nat) ≤ sizeLine) = True from eq_true (by decide), show ((39 : Nat) ≤ sizeLine) = True from eq_true (by decide), show ((40 : Nat) ≤ sizeLine) = True from eq_true (by decide), true_and]
    refine ⟨⟨by decide, by decide, by decide⟩, 26, rfl, by decide, by decide, fun b b0 b1 => ?_⟩
    exact fIx_pick b0 b1 q
theorem sc_is_whole : FnScope ["thing"] ["thing"] (defScope s_is_whole) := ⟨rfl, rfl, rfl, by decide +kernel, rfl, by decide +kernel, by decide +kernel⟩
def sd_is_whole : SpD := fun ss Qd _ => ∃ x, ss = [.d x] ∧ Qd (.d (.bool (wholeD x)))
theorem c_is_whole (T : Tx K mg C) : Cb P w K mg base CX0 1 "is_whole" ["thing"] (spD K [] sd_is_whole) := by
  obtain ⟨f, fd, D⟩ := T.h_is_whole
  refine ⟨f, fd, okD (k := 0) D.F sc_is_whole (fun ss Qd R h => ?_) (fun cdv A outer s H E hr => ⟨_, (pss_one (ps_ret (pe_and (pe_callB (call_isiQ (K := K) rfl) (by rfl) T.isinstance (by decide +kernel) (pa_cons (pv 0) (pa_cons (pe_bltn (v := .ty "int") (by rfl) T.int (by decide +kernel) rfl) pa_nil))) (pe_one (pe_not (pe_callB (call_isiQ (K := K) rfl) (by rfl) T.isinstance (by decide +kernel) (pa_cons (pv 0) (pa_cons (pe_bltn (v := .ty "bool") (by rfl) T.bool (by decide +kernel) rfl) pa_nil)))))))), ?_⟩), D.g, D.F.kp, D.b⟩
  · obtain ⟨_, rfl, _⟩ := h
    rfl
  · refine ⟨_, fun τ => inferInstance, fun ss Qd R h => ?_⟩
    obtain ⟨x, rfl, q⟩ := h
    cases x with
    | int i => exact ⟨.inl rfl, .inr (.inl rfl), q⟩
    | bool b => exact ⟨.inl rfl, .inr (.inl rfl), q⟩
    | _ => exact ⟨.inl rfl, q⟩
theorem sc_is_within : FnScope ["thing", "low", "high"] ["thing", "low", "high"] (defScope s_is_within) := ⟨rfl, rfl, rfl, by decide +kernel, rfl, by decide +kernel, by decide +kernel⟩
def sd_is_within : SpD := fun ss Qd _ => ∃ x, ∃ lo hi : Int, ss = [.d x, .d (.int lo), .d (.int hi)] ∧ Qd (.d (.bool (withinD lo hi x)))
theorem c_is_within (T : Tx K mg C) : Cb P w K mg base CX0 2 "is_within" ["thing", "low", "high"] (spD K [] sd_is_within) := by
  obtain ⟨f, fd, D⟩ := T.h_is_within
  refine ⟨f, fd, okD (k := 1) D.F sc_is_within (fun ss Qd R h => ?_) (fun cdv A outer s H E hr => ⟨_, (pss_one (ps_ret (pe_and (pe_cb (c_is_whole (K := K) T) (hr.mono (by decide)) (by rfl) pass0 (pa_cons (pv 0) pa_nil)) (pe_one (pe_chain op_le op_le (pv 1) (pv 0) (pv 2)))))), ?_⟩), D.g, D.F.kp, D.b⟩
  · obtain ⟨_, _, _, rfl, _⟩ := h
    rfl
  · refine ⟨_, fun τ => inferInstance, fun ss Qd R h => ?_⟩
    obtain ⟨x, lo, hi, rfl, q⟩ := h
    refine ⟨x, rfl, ?_⟩
    cases x with
    | int i =>
      have e : withinD lo hi (.int i) = (decide (lo ≤ i) && decide (i ≤ hi)) := rfl
      rw [e] at q
      show (match decide (lo ≤ i) with | true => _ | false => _)
      cases h1 : decide (lo ≤ i) with
      | true =>
        rw [h1] at q
        exact q
      | false =>
        rw [h1] at q
        exact q
    | _ => exact q
theorem sc__law_spoilt : FnScope ["_law_state_here", "_law_what", "_law_deep", "_law_at", "_law_walk", "_law_odd_here"] ["_law_state_here", "_law_what", "_law_deep"] (defScope s__law_spoilt) := ⟨rfl, rfl, rfl, by decide +kernel, rfl, by decide +kernel, by decide +kernel⟩
def sd__law_spoilt_0 : SpD := fun ss Qd _ => ∃ xs : List PyData, ss = [.st, .d (.tuple xs), .d (.int 0)] ∧ xs.length ≤ 1000 ∧ OkE 0 xs ∧ ∀ d, SpR 0 xs d → Qd (.d d)
theorem c__law_spoilt_0 (T : Tx K mg C) : Cb P w K mg base CX0 2 "_law_spoilt" ["_law_state_here", "_law_what", "_law_deep"] (spD K [] sd__law_spoilt_0) := by
  obtain ⟨f, fd, D⟩ := T.h__law_spoilt
  refine ⟨f, fd, okD (k := 1) D.F sc__law_spoilt (fun ss Qd R h => ?_) (fun cdv A outer s H E hr => ⟨_, (pss_cons (ps_par (i := 3) (j := 4) (by rfl) sc__law_spoilt.nd rfl rfl (by decide) rfl rfl (pa_cons (pe_cb (c__law_take (K := K) T) (hr.mono (by decide)) (by rfl) pass0 (pa_cons (pv 0) (pa_cons (pe_op (op_addK (K := K) rfl) (pe_callB (call_lenK (K := K) rfl) (by rfl) T.len PySem.boot_len (pa_cons (pv 1) pa_nil)) pe_int) pa_nil))) (pa_cons (pe_cb (c__law_take (K := K) T) (hr.mono (by decide)) (by rfl) pass0 (pa_cons (pv 0) (pa_cons pe_int pa_nil))) pa_nil)) (by rfl))
    (pss_cons (ps_set (i := 5) sc__law_spoilt.nd rfl (.inl rfl) (pe_ix (ix_seqK (K := K) rfl) (pe_lst (pa_cons (pe_un un_neg pe_int) (pa_cons pe_int (pa_cons pe_int (pa_cons pe_int (pa_cons pe_int (pa_cons pe_int (pa_cons pe_int (pa_cons pe_bl (pa_cons pe_bl (pa_cons pe_non (pa_cons pe_str (pa_cons (pe_tup pa_nil) (pa_cons (pe_op op_pow pe_int pe_int) (pa_cons pe_int pa_nil))))))))))))))) (pe_cb (c__law_take (K := K) T) (hr.mono (by decide)) (by rfl) pass0 (pa_cons (pv 0) (pa_cons pe_int pa_nil))) (fun _ _ => rfl)))
    (pss_cons (ps_if (PW.pt (pw_and (pt_cmpR op_gt (pv 2) pe_int (nomark _)) (pw_and (pt_cmpR op_lt (pv 3) (pe_callB (call_lenK (K := K) rfl) (by rfl) T.len PySem.boot_len (pa_cons (pv 1) pa_nil)) (nomark _)) (pw_and (pt_val (pe_callB (call_isiQ (K := K) rfl) (by rfl) T.isinstance (by decide +kernel) (pa_cons (pe_ix (ix_seqK (K := K) rfl) (pv 1) (pv 3) (fun _ _ => rfl)) (pa_cons (pe_bltn (v := .ty "tuple") (by rfl) T.tuple (by decide +kernel) rfl) pa_nil)))) (pw_and1 (pt_cmpR op_gt (pe_cb (c__law_take (K := K) T) (hr.mono (by decide)) (by rfl) pass0 (pa_cons (pv 0) (pa_cons pe_int pa_nil))) pe_int (nomark _))))))) (pss_one (ps_ret (pe_op (op_addK (K := K) rfl) (pe_op (op_addK (K := K) rfl) (pe_slice (sl_anyK (K := K) rfl) (pv 1) po_none (po_some (pv 3))) (pe_tup (pa_cons (pe_no) pa_nil))) (pe_slice (sl_anyK (K := K) rfl) (pv 1) (po_some (pe_op (op_addK (K := K) rfl) (pv 3) pe_int)) po_none)))) pss_nil)
    (pss_cons (ps_if (pt_cmpR (op_eqK (K := K) rfl hr.units) (pv 4) pe_int (nomark _)) (pss_one (ps_ret (pe_ix (ix_seqK (K := K) rfl) (pe_lst (pa_cons (pe_callTy (call_listK (K := K) rfl) (by rfl) T.list (by decide +kernel) (pa_cons (pv 1) pa_nil)) (pa_cons (pe_backK (K := K) rfl (pv 1)) (pa_cons (pe_op (op_addK (K := K) rfl) (pv 1) (pe_slice (sl_anyK (K := K) rfl) (pv 1) (po_some (pe_un un_neg pe_int)) po_none)) (pa_cons (pe_slice (sl_anyK (K := K) rfl) (pv 1) po_none (po_some (pe_un un_neg pe_int))) pa_nil))))) (pe_cb (c__law_take (K := K) T) (hr.mono (by decide)) (by rfl) pass0 (pa_cons (pv 0) (pa_cons pe_int pa_nil))) (fun _ _ => rfl)))) pss_nil)
    (pss_cons (ps_if (pt_cmpR (op_eqK (K := K) rfl hr.units) (pv 4) pe_int (nomark _)) (pss_one (ps_ret (pe_op (op_addK (K := K) rfl) (pe_op (op_addK (K := K) rfl) (pe_slice (sl_anyK (K := K) rfl) (pv 1) po_none (po_some (pv 3))) (pe_tup (pa_cons (pv 5) pa_nil))) (pe_slice (sl_anyK (K := K) rfl) (pv 1) (po_some (pv 3)) po_none)))) pss_nil)
    (pss_cons (ps_if (PW.pt (pw_and (pt_cmpR op_lt (pv 4) pe_int (nomark _)) (pw_and (pt_cmpR op_lt (pv 3) (pe_callB (call_lenK (K := K) rfl) (by rfl) T.len PySem.boot_len (pa_cons (pv 1) pa_nil)) (nomark _)) (pw_and1 (pt_val (pe_callB (call_isiQ (K := K) rfl) (by rfl) T.isinstance (by decide +kernel) (pa_cons (pe_ix (ix_seqK (K := K) rfl) (pv 1) (pv 3) (fun _ _ => rfl)) (pa_cons (pe_bltn (v := .ty "int") (by rfl) T.int (by decide +kernel) rfl) pa_nil)))))))) (pss_one (ps_ret (pe_op (op_addK (K := K) rfl) (pe_op (op_addK (K := K) rfl) (pe_slice (sl_anyK (K := K) rfl) (pv 1) po_none (po_some (pv 3))) (pe_tup (pa_cons (pe_op (op_addK (K := K) rfl) (pe_ix (ix_seqK (K := K) rfl) (pv 1) (pv 3) (fun _ _ => rfl)) (pe_ix (ix_seqK (K := K) rfl) (pe_lst (pa_cons pe_int (pa_cons (pe_un un_neg pe_int) pa_nil))) (pe_cb (c__law_take (K := K) T) (hr.mono (by decide)) (by rfl) pass0 (pa_cons (pv 0) (pa_cons pe_int pa_nil))) (fun _ _ => rfl))) pa_nil))) (pe_slice (sl_anyK (K := K) rfl) (pv 1) (po_some (pe_op (op_addK (K := K) rfl) (pv 3) pe_int)) po_none)))) pss_nil)
    (pss_one (ps_ret (pe_op (op_addK (K := K) rfl) (pe_op (op_addK (K := K) rfl) (pe_slice (sl_anyK (K := K) rfl) (pv 1) po_none (po_some (pv 3))) (pe_tup (pa_cons (pv 5) pa_nil))) (pe_slice (sl_anyK (K := K) rfl) (pv 1) (po_some (pe_op (op_addK (K := K) rfl) (pv 3) pe_int)) po_none)))))))))), ?_⟩), D.g, D.F.kp, D.b⟩
  · obtain ⟨_, rfl, _⟩ := h
    rfl
  · refine ⟨_, fun τ => inferInstance, fun ss Qd R h => ?_⟩
    obtain ⟨xs, rfl, hl, hxs, q⟩ := h
    have big : ∀ n, n ≤ 5000 → n ≤ sizeLine := fun n h => Nat.le_of_lt (line_1000 (by omega))
    have hx0 := OkE.weak hxs
    have put : ∀ (lo hi lo2 hi2 : Option Int) (y : PyData), (y ∈ xs ∨ y ∈ oddS ∨ ∃ i : Int, .int i ∈ xs ∧ (y = .int (i + 1) ∨ y = .int (i + -1))) → Qd (.d (.tuple (cutD xs lo hi ++ [y] ++ cutD xs lo2 hi2))) := fun lo hi lo2 hi2 y hy => by
      refine q _ (SpR.of0 (.inr ⟨_, rfl, ?_, fun u hu => ?_⟩))
      · have h1 := cut_len xs lo hi
        have h2 := cut_len xs lo2 hi2
        rw [List.length_append, List.length_append, List.length_singleton]
        omega
      · rcases List.mem_append.mp hu with z | z
        · rcases List.mem_append.mp z with z | z
          · exact .inl (cut_sub z)
          · rw [List.mem_singleton.mp z]
            exact hy
        · exact .inl (cut_sub z)
    have len3 : ∀ (lo hi lo2 hi2 : Option Int), (cutD xs lo hi).length + 1 + (cutD xs lo2 hi2).length ≤ 5000 := fun lo hi lo2 hi2 => by
      have h1 := cut_len xs lo hi
      have h2 := cut_len xs lo2 hi2
      omega
    rw [dSeq_c]
    try simp only [startD, iEn, cvs, cv, vS, Sl.dat, Sl.seq, Sl.sq, Sl.fz, dats, dSetI, dAug, wipeD, List.length_cons, List.length_nil, List.length_append, List.length_replicate, Nat.reduceAdd, Nat.reduceSub, Nat.zero_add, List.replicate_succ, List.replicate_zero, List.cons_append, List.nil_append, List.append_nil, List.set_cons_zero, List.set_cons_succ, List.set_nil, List.getElem?_cons_zero, List.getElem?_cons_succ, Option.getD_some, List.map_cons, List.map_nil, Option.bind_some, fI0_c, fI_c, fU_c, fAddX_i, fAddX_t, fAddX_s, fAddX_mm, fAddX_bm, fAddX_mb, fAddX_bb, fAddX_lm, fAddX_ll, fMulX_i, fMulX_m, fSlX_t, fSlX_m, fSlX_b, fSlX_l, fIs_n, fIs_i, fIs_b, fIs_s, fIs_l, fIs_t, fIs_m, fIs_bl, fLen_t, fLen_l, fLen_m, fLen_b, fLen_scr, fIsi_c, fEqD_c, fEqD_mm, fEqD_bm, fEqD_bb, fEqD_dm, fEq_ss, fInt_i, fInt_b, fTuple_m, fTuple_b, fTuple_t, fTuple_l, fList_m, fList_b, fList_t, fList_l, f2I_c, fRepr_c, fRepr_m, fRepr_b, fStr_c, Bool.not_true, Bool.not_false, true_and, netT, Road.dt, reduceIte, Bool.false_eq_true, decide_true, decide_false, tupK, lstK, dNext_c, dBreak_c, dCont_c, dDrop_c, dRet_c, retK_d, retK_m, retK_r, dRetN_c, dIfS_c, iteS_t, iteS_f, dSet_c, setK_d, setK_m, setK_s, setK_r, dAsg_c, asgK_d, asgK_m, dFz_c, dNever_c, dRaise_c, dC_c, dOp_c, dUn_c, dTst_c, tstK_c, dTru_c, truK_n, truK_b, truK_i, truK_t, truK_l, truK_m, truK_bl, dNot_c, dAnd_c, andK_t, andK_f, dOr_c, orK_t, orK_f, dAndV_c, andV_t, andV_f, dOrV_c, orV_t, orV_f, dNotV_c, dIf_c, iteE_t, iteE_f, dChain_c, chK_t, chK_f, dNil_c, dCons_c, dCB_c, dCall_c, dCall0_c, dTup_c, dLst_c, dFor_c, dLc_c, iTp_c, tpK_c, iLst_c, lsK_d, lsK_m, iSeq_c, sqK_d, sqK_m, sqK_b, dSl_c, dNo_c, dPt_c, ptK_c, dYes_c, dBack_k, backK_c, dTupRg_c, dLstRg_c, dRg1_c, dRg2_c, rg1K_c, rg2K_c, tupRg_c, lstRg_c, dDict0_c, dDict1_c, gdName_c, gdTup_c, gdCons_c, gdNil_c, dApp_c, appK_c, apK_d, apK_m, dVar_c, varK_d, varK_m, varK_b, varK_s, varK_sc, varK_r, dNew_c, varK_mo, varK_bo, setK_mo, retK_mo, dDIn_c, dinK_i, dinK_s, dDGet_c, dDGet1_c, isBo_c, dget1K_i, dDPut_c, dputV_d, dputK_i, val_mo, dOwn0_c, dDispV_c, dispK_i, fRepT_c, fIsB_c, dM0_c, dM1_c, isStr_c, fQ0_c, fQ1_c, fSplit_c, fLenS_c, iEnSD_c, dSetdIf_c, setdB_f, enSK_m, enSK_d, dOrT_c, dAndT_c, orTK_n, dCallK_c, dCallK0_c, dCallD_c, dCallD0_c, dSaid_c, toldK_d, toldK_m, iRg1_c, rgK_c, iRg2_c, rgK2_c, iEnT_c, enK_c, iZp_c, zpK_tt, zpK_mm, zpK_ll, zpK_lm, zpK_ml, dPar_c, parK_im, parK_nm, parK_sm, parK_dd, parK_md]
    refine ⟨_, rfl, by omega, by omega, fun a a0 a1 => ?_⟩
    try simp only [startD, iEn, cvs, cv, vS, Sl.dat, Sl.seq, Sl.sq, Sl.fz, dats, dSetI, dAug, wipeD, List.length_cons, List.length_nil, List.length_append, List.length_replicate, Nat.reduceAdd, Nat.reduceSub, Nat.zero_add, List.replicate_succ, List.replicate_zero, List.cons_append, List.nil_append, List.append_nil, List.set_cons_zero, List.set_cons_succ, List.set_nil, List.getElem?_cons_zero, List.getElem?_cons_succ, Option.getD_some, List.map_cons, List.map_nil, Option.bind_some, fI0_c, fI_c, fU_c, fAddX_i, fAddX_t, fAddX_s, fAddX_mm, fAddX_bm, fAddX_mb, fAddX_bb, fAddX_lm, fAddX_ll, fMulX_i, fMulX_m, fSlX_t, fSlX_m, fSlX_b, fSlX_l, fIs_n, fIs_i, fIs_b, fIs_s, fIs_l, fIs_t, fIs_m, fIs_bl, fLen_t, fLen_l, fLen_m, fLen_b, fLen_scr, fIsi_c, fEqD_c, fEqD_mm, fEqD_bm, fEqD_bb, fEqD_dm, fEq_ss, fInt_i, fInt_b, fTuple_m, fTuple_b, fTuple_t, fTuple_l, fList_m, fList_b, fList_t, fList_l, f2I_c, fRepr_c, fRepr_m, fRepr_b, fStr_c, Bool.not_true, Bool.not_false, true_and, netT, Road.dt, reduceIte, Bool.false_eq_true, decide_true, decide_false, tupK, lstK, dNext_c, dBreak_c, dCont_c, dDrop_c, dRet_c, retK_d, retK_m, retK_r, dRetN_c, dIfS_c, iteS_t, iteS_f, dSet_c, setK_d, setK_m, setK_s, setK_r, dAsg_c, asgK_d, asgK_m, dFz_c, dNever_c, dRaise_c, dC_c, dOp_c, dUn_c, dTst_c, tstK_c, dTru_c, truK_n, truK_b, truK_i, truK_t, truK_l, truK_m, truK_bl, dNot_c, dAnd_c, andK_t, andK_f, dOr_c, orK_t, orK_f, dAndV_c, andV_t, andV_f, dOrV_c, orV_t, orV_f, dNotV_c, dIf_c, iteE_t, iteE_f, dChain_c, chK_t, chK_f, dNil_c, dCons_c, dCB_c, dCall_c, dCall0_c, dTup_c, dLst_c, dFor_c, dLc_c, iTp_c, tpK_c, iLst_c, lsK_d, lsK_m, iSeq_c, sqK_d, sqK_m, sqK_b, dSl_c, dNo_c, dPt_c, ptK_c, dYes_c, dBack_k, backK_c, dTupRg_c, dLstRg_c, dRg1_c, dRg2_c, rg1K_c, rg2K_c, tupRg_c, lstRg_c, dDict0_c, dDict1_c, gdName_c, gdTup_c, gdCons_c, gdNil_c, dApp_c, appK_c, apK_d, apK_m, dVar_c, varK_d, varK_m, varK_b, varK_s, varK_sc, varK_r, dNew_c, varK_mo, varK_bo, setK_mo, retK_mo, dDIn_c, dinK_i, dinK_s, dDGet_c, dDGet1_c, isBo_c, dget1K_i, dDPut_c, dputV_d, dputK_i, val_mo, dOwn0_c, dDispV_c, dispK_i, fRepT_c, fIsB_c, dM0_c, dM1_c, isStr_c, fQ0_c, fQ1_c, fSplit_c, fLenS_c, iEnSD_c, dSetdIf_c, setdB_f, enSK_m, enSK_d, dOrT_c, dAndT_c, orTK_n, dCallK_c, dCallK0_c, dCallD_c, dCallD0_c, dSaid_c, toldK_d, toldK_m, iRg1_c, rgK_c, iRg2_c, rgK2_c, iEnT_c, enK_c, iZp_c, zpK_tt, zpK_mm, zpK_ll, zpK_lm, zpK_ml, dPar_c, parK_im, parK_nm, parK_sm, parK_dd, parK_md]
    refine ⟨7, rfl, by decide, by decide, fun w w0 w1 => ?_⟩
    try simp only [startD, iEn, cvs, cv, vS, Sl.dat, Sl.seq, Sl.sq, Sl.fz, dats, dSetI, dAug, wipeD, List.length_cons, List.length_nil, List.length_append, List.length_replicate, Nat.reduceAdd, Nat.reduceSub, Nat.zero_add, List.replicate_succ, List.replicate_zero, List.cons_append, List.nil_append, List.append_nil, List.set_cons_zero, List.set_cons_succ, List.set_nil, List.getElem?_cons_zero, List.getElem?_cons_succ, Option.getD_some, List.map_cons, List.map_nil, Option.bind_some, fI0_c, fI_c, fU_c, fAddX_i, fAddX_t, fAddX_s, fAddX_mm, fAddX_bm, fAddX_mb, fAddX_bb, fAddX_lm, fAddX_ll, fMulX_i, fMulX_m, fSlX_t, fSlX_m, fSlX_b, fSlX_l, fIs_n, fIs_i, fIs_b, fIs_s, fIs_l, fIs_t, fIs_m, fIs_bl, fLen_t, fLen_l, fLen_m, fLen_b, fLen_scr, fIsi_c, fEqD_c, fEqD_mm, fEqD_bm, fEqD_bb, fEqD_dm, fEq_ss, fInt_i, fInt_b, fTuple_m, fTuple_b, fTuple_t, fTuple_l, fList_m, fList_b, fList_t, fList_l, f2I_c, fRepr_c, fRepr_m, fRepr_b, fStr_c, Bool.not_true, Bool.not_false, true_and, netT, Road.dt, reduceIte, Bool.false_eq_true, decide_true, decide_false, tupK, lstK, dNext_c, dBreak_c, dCont_c, dDrop_c, dRet_c, retK_d, retK_m, retK_r, dRetN_c, dIfS_c, iteS_t, iteS_f, dSet_c, setK_d, setK_m, setK_s, setK_r, dAsg_c, asgK_d, asgK_m, dFz_c, dNever_c, dRaise_c, dC_c, dOp_c, dUn_c, dTst_c, tstK_c, dTru_c, truK_n, truK_b, truK_i, truK_t, truK_l, truK_m, truK_bl, dNot_c, dAnd_c, andK_t, andK_f, dOr_c, orK_t, orK_f, dAndV_c, andV_t, andV_f, dOrV_c, orV_t, orV_f, dNotV_c, dIf_c, iteE_t, iteE_f, dChain_c, chK_t, chK_f, dNil_c, dCons_c, dCB_c, dCall_c, dCall0_c, dTup_c, dLst_c, dFor_c, dLc_c, iTp_c, tpK_c, iLst_c, lsK_d, lsK_m, iSeq_c, sqK_d, sqK_m, sqK_b, dSl_c, dNo_c, dPt_c, ptK_c, dYes_c, dBack_k, backK_c, dTupRg_c, dLstRg_c, dRg1_c, dRg2_c, rg1K_c, rg2K_c, tupRg_c, lstRg_c, dDict0_c, dDict1_c, gdName_c, gdTup_c, gdCons_c, gdNil_c, dApp_c, appK_c, apK_d, apK_m, dVar_c, varK_d, varK_m, varK_b, varK_s, varK_sc, varK_r, dNew_c, varK_mo, varK_bo, setK_mo, retK_mo, dDIn_c, dinK_i, dinK_s, dDGet_c, dDGet1_c, isBo_c, dget1K_i, dDPut_c, dputV_d, dputK_i, val_mo, dOwn0_c, dDispV_c, dispK_i, fRepT_c, fIsB_c, dM0_c, dM1_c, isStr_c, fQ0_c, fQ1_c, fSplit_c, fLenS_c, iEnSD_c, dSetdIf_c, setdB_f, enSK_m, enSK_d, dOrT_c, dAndT_c, orTK_n, dCallK_c, dCallK0_c, dCallD_c, dCallD0_c, dSaid_c, toldK_d, toldK_m, iRg1_c, rgK_c, iRg2_c, rgK2_c, iEnT_c, enK_c, iZp_c, zpK_tt, zpK_mm, zpK_ll, zpK_lm, zpK_ml, dPar_c, parK_im, parK_nm, parK_sm, parK_dd, parK_md]
    rw [dSeq_c]
    try simp only [startD, iEn, cvs, cv, vS, Sl.dat, Sl.seq, Sl.sq, Sl.fz, dats, dSetI, dAug, wipeD, List.length_cons, List.length_nil, List.length_append, List.length_replicate, Nat.reduceAdd, Nat.reduceSub, Nat.zero_add, List.replicate_succ, List.replicate_zero, List.cons_append, List.nil_append, List.append_nil, List.set_cons_zero, List.set_cons_succ, List.set_nil, List.getElem?_cons_zero, List.getElem?_cons_succ, Option.getD_some, List.map_cons, List.map_nil, Option.bind_some, fI0_c, fI_c, fU_c, fAddX_i, fAddX_t, fAddX_s, fAddX_mm, fAddX_bm, fAddX_mb, fAddX_bb, fAddX_lm, fAddX_ll, fMulX_i, fMulX_m, fSlX_t, fSlX_m, fSlX_b, fSlX_l, fIs_n, fIs_i, fIs_b, fIs_s, fIs_l, fIs_t, fIs_m, fIs_bl, fLen_t, fLen_l, fLen_m, fLen_b, fLen_scr, fIsi_c, fEqD_c, fEqD_mm, fEqD_bm, fEqD_bb, fEqD_dm, fEq_ss, fInt_i, fInt_b, fTuple_m, fTuple_b, fTuple_t, fTuple_l, fList_m, fList_b, fList_t, fList_l, f2I_c, fRepr_c, fRepr_m, fRepr_b, fStr_c, Bool.not_true, Bool.not_false, true_and, netT, Road.dt, reduceIte, Bool.false_eq_true, decide_true, decide_false, tupK, lstK, dNext_c, dBreak_c, dCont_c, dDrop_c, dRet_c, retK_d, retK_m, retK_r, dRetN_c, dIfS_c, iteS_t, iteS_f, dSet_c, setK_d, setK_m, setK_s, setK_r, dAsg_c, asgK_d, asgK_m, dFz_c, dNever_c, dRaise_c, dC_c, dOp_c, dUn_c, dTst_c, tstK_c, dTru_c, truK_n, truK_b, truK_i, truK_t, truK_l, truK_m, truK_bl, dNot_c, dAnd_c, andK_t, andK_f, dOr_c, orK_t, orK_f, dAndV_c, andV_t, andV_f, dOrV_c, orV_t, orV_f, dNotV_c, dIf_c, iteE_t, iteE_f, dChain_c, chK_t, chK_f, dNil_c, dCons_c, dCB_c, dCall_c, dCall0_c, dTup_c, dLst_c, dFor_c, dLc_c, iTp_c, tpK_c, iLst_c, lsK_d, lsK_m, iSeq_c, sqK_d, sqK_m, sqK_b, dSl_c, dNo_c, dPt_c, ptK_c, dYes_c, dBack_k, backK_c, dTupRg_c, dLstRg_c, dRg1_c, dRg2_c, rg1K_c, rg2K_c, tupRg_c, lstRg_c, dDict0_c, dDict1_c, gdName_c, gdTup_c, gdCons_c, gdNil_c, dApp_c, appK_c, apK_d, apK_m, dVar_c, varK_d, varK_m, varK_b, varK_s, varK_sc, varK_r, dNew_c, varK_mo, varK_bo, setK_mo, retK_mo, dDIn_c, dinK_i, dinK_s, dDGet_c, dDGet1_c, isBo_c, dget1K_i, dDPut_c, dputV_d, dputK_i, val_mo, dOwn0_c, dDispV_c, dispK_i, fRepT_c, fIsB_c, dM0_c, dM1_c, isStr_c, fQ0_c, fQ1_c, fSplit_c, fLenS_c, iEnSD_c, dSetdIf_c, setdB_f, enSK_m, enSK_d, dOrT_c, dAndT_c, orTK_n, dCallK_c, dCallK0_c, dCallD_c, dCallD0_c, dSaid_c, toldK_d, toldK_m, iRg1_c, rgK_c, iRg2_c, rgK2_c, iEnT_c, enK_c, iZp_c, zpK_tt, zpK_mm, zpK_ll, zpK_lm, zpK_ml, dPar_c, parK_im, parK_nm, parK_sm, parK_dd, parK_md]
    try simp only [show ((0 : Nat) ≤ sizeLine) = True from eq_true (by decide), show ((1 : Nat) ≤ sizeLine) = True from eq_true (by decide), show ((2 : Nat) ≤ sizeLine) = True from eq_true (by decide), show ((3 : Nat) ≤ sizeLine) = True from eq_true (by decide), show ((4 : Nat) ≤ sizeLine) = True from eq_true (by decide), show ((5 : Nat) ≤ sizeLine) = True from eq_true (by decide), show ((6 : Nat) ≤ sizeLine) = True from eq_true (by decide), show ((7 : Nat) ≤ sizeLine) = True from eq_true (by decide), show ((8 : Nat) ≤ sizeLine) = True from eq_true (by decide), show ((9 : Nat) ≤ sizeLine) = True from eq_true (by decide), show ((10 : Nat) ≤ sizeLine) = True from eq_true (by decide), show ((11 : Nat) ≤ sizeLine) = True from eq_true (by decide), show ((12 : Nat) ≤ sizeLine) = True from eq_true (by decide), show ((13 : Nat) ≤ sizeLine) = True from eq_true (by decide), show ((14 : Nat) ≤ sizeLine) = True from eq_true (by decide), show ((15 : Nat) ≤ sizeLine) = True from eq_true (by decide), show ((16 : Nat) ≤ sizeLine) = True from eq_true (by decide), show ((17 : Nat) ≤ sizeLine) = True from eq_true (by decide), show ((18 : Nat) ≤ sizeLine) = True from eq_true (by decide), show ((19 : Nat) ≤ sizeLine) = True from eq_true (by decide), show ((20 : Nat) ≤ sizeLine) = True from eq_true (by decide), show ((21 : Nat) ≤ sizeLine) = True from eq_true (by decide), show ((22 : Nat) ≤ sizeLine) = True from eq_true (by decide), show ((23 : Nat) ≤ sizeLine) = True from eq_true (by decide), show ((24 : Nat) ≤ sizeLine) = True from eq_true (by decide), show ((25 : Nat) ≤ sizeLine) = True from eq_true (by decide), show ((26 : Nat) ≤ sizeLine) = True from eq_true (by decide), show ((27 : Nat) ≤ sizeLine) = True from eq_true (by decide), show ((28 : Nat) ≤ sizeLine) = True from eq_true (by decide), show ((29 : Nat) ≤ sizeLine) = True from eq_true (by decide), show ((30 : Nat) ≤ sizeLine) = True from eq_true (by decide), show ((31 : Nat) ≤ sizeLine) = True from eq_true (by decide), show ((32 : Nat) ≤ sizeLine) = True from eq_true (by decide), show ((33 : Nat) ≤ sizeLine) = True from eq_true (by decide), show ((34 : Nat) ≤ sizeLine) = True from eq_true (by decide), show ((35 : Nat) ≤ sizeLine) = True from eq_true (by decide), show ((36 : Nat) ≤ sizeLine) = True from eq_true (by decide), show ((37 : Nat) ≤ sizeLine) = True from eq_true (by decide), show ((38 : Nat) ≤ sizeLine) = True from eq_true (by decide), show ((39 : Nat) ≤ sizeLine) = True from eq_true (by decide), show ((40 : Nat) ≤ sizeLine) = True from eq_true (by decide), true_and]
    refine ⟨⟨by decide, by decide, by decide⟩, 14, rfl, by decide, by decide, fun b b0 b1 => ?_⟩
    refine fIx_pick b0 b1 fun od hod => ?_
    have hod : od ∈ oddS := hod
    try simp only [startD, iEn, cvs, cv, vS, Sl.dat, Sl.seq, Sl.sq, Sl.fz, dats, dSetI, dAug, wipeD, List.length_cons, List.length_nil, List.length_append, List.length_replicate, Nat.reduceAdd, Nat.reduceSub, Nat.zero_add, List.replicate_succ, List.replicate_zero, List.cons_append, List.nil_append, List.append_nil, List.set_cons_zero, List.set_cons_succ, List.set_nil, List.getElem?_cons_zero, List.getElem?_cons_succ, Option.getD_some, List.map_cons, List.map_nil, Option.bind_some, fI0_c, fI_c, fU_c, fAddX_i, fAddX_t, fAddX_s, fAddX_mm, fAddX_bm, fAddX_mb, fAddX_bb, fAddX_lm, fAddX_ll, fMulX_i, fMulX_m, fSlX_t, fSlX_m, fSlX_b, fSlX_l, fIs_n, fIs_i, fIs_b, fIs_s, fIs_l, fIs_t, fIs_m, fIs_bl, fLen_t, fLen_l, fLen_m, fLen_b, fLen_scr, fIsi_c, fEqD_c, fEqD_mm, fEqD_bm, fEqD_bb, fEqD_dm, fEq_ss, fInt_i, fInt_b, fTuple_m, fTuple_b, fTuple_t, fTuple_l, fList_m, fList_b, fList_t, fList_l, f2I_c, fRepr_c, fRepr_m, fRepr_b, fStr_c, Bool.not_true, Bool.not_false, true_and, netT, Road.dt, reduceIte, Bool.false_eq_true, decide_true, decide_false, tupK, lstK, dNext_c, dBreak_c, dCont_c, dDrop_c, dRet_c, retK_d, retK_m, retK_r, dRetN_c, dIfS_c, iteS_t, iteS_f, dSet_c, setK_d, setK_m, setK_s, setK_r, dAsg_c, asgK_d, asgK_m, dFz_c, dNever_c, dRaise_c, dC_c, dOp_c, dUn_c, dTst_c, tstK_c, dTru_c, truK_n, truK_b, truK_i, truK_t, truK_l, truK_m, truK_bl, dNot_c, dAnd_c, andK_t, andK_f, dOr_c, orK_t, orK_f, dAndV_c, andV_t, andV_f, dOrV_c, orV_t, orV_f, dNotV_c, dIf_c, iteE_t, iteE_f, dChain_c, chK_t, chK_f, dNil_c, dCons_c, dCB_c, dCall_c, dCall0_c, dTup_c, dLst_c, dFor_c, dLc_c, iTp_c, tpK_c, iLst_c, lsK_d, lsK_m, iSeq_c, sqK_d, sqK_m, sqK_b, dSl_c, dNo_c, dPt_c, ptK_c, dYes_c, dBack_k, backK_c, dTupRg_c, dLstRg_c, dRg1_c, dRg2_c, rg1K_c, rg2K_c, tupRg_c, lstRg_c, dDict0_c, dDict1_c, gdName_c, gdTup_c, gdCons_c, gdNil_c, dApp_c, appK_c, apK_d, apK_m, dVar_c, varK_d, varK_m, varK_b, varK_s, varK_sc, varK_r, dNew_c, varK_mo, varK_bo, setK_mo, retK_mo, dDIn_c, dinK_i, dinK_s, dDGet_c, dDGet1_c, isBo_c, dget1K_i, dDPut_c, dputV_d, dputK_i, val_mo, dOwn0_c, dDispV_c, dispK_i, fRepT_c, fIsB_c, dM0_c, dM1_c, isStr_c, fQ0_c, fQ1_c, fSplit_c, fLenS_c, iEnSD_c, dSetdIf_c, setdB_f, enSK_m, enSK_d, dOrT_c, dAndT_c, orTK_n, dCallK_c, dCallK0_c, dCallD_c, dCallD0_c, dSaid_c, toldK_d, toldK_m, iRg1_c, rgK_c, iRg2_c, rgK2_c, iEnT_c, enK_c, iZp_c, zpK_tt, zpK_mm, zpK_ll, zpK_lm, zpK_ml, dPar_c, parK_im, parK_nm, parK_sm, parK_dd, parK_md]
    refine seqIf ?_ fun NN hNN => ?_
    · try simp only [startD, iEn, cvs, cv, vS, Sl.dat, Sl.seq, Sl.sq, Sl.fz, dats, dSetI, dAug, wipeD, List.length_cons, List.length_nil, List.length_append, List.length_replicate, Nat.reduceAdd, Nat.reduceSub, Nat.zero_add, List.replicate_succ, List.replicate_zero, List.cons_append, List.nil_append, List.append_nil, List.set_cons_zero, List.set_cons_succ, List.set_nil, List.getElem?_cons_zero, List.getElem?_cons_succ, Option.getD_some, List.map_cons, List.map_nil, Option.bind_some, fI0_c, fI_c, fU_c, fAddX_i, fAddX_t, fAddX_s, fAddX_mm, fAddX_bm, fAddX_mb, fAddX_bb, fAddX_lm, fAddX_ll, fMulX_i, fMulX_m, fSlX_t, fSlX_m, fSlX_b, fSlX_l, fIs_n, fIs_i, fIs_b, fIs_s, fIs_l, fIs_t, fIs_m, fIs_bl, fLen_t, fLen_l, fLen_m, fLen_b, fLen_scr, fIsi_c, fEqD_c, fEqD_mm, fEqD_bm, fEqD_bb, fEqD_dm, fEq_ss, fInt_i, fInt_b, fTuple_m, fTuple_b, fTuple_t, fTuple_l, fList_m, fList_b, fList_t, fList_l, f2I_c, fRepr_c, fRepr_m, fRepr_b, fStr_c, Bool.not_true, Bool.not_false, true_and, netT, Road.dt, reduceIte, Bool.false_eq_true, decide_true, decide_false, tupK, lstK, dNext_c, dBreak_c, dCont_c, dSeq_c, dDrop_c, dRet_c, retK_d, retK_m, retK_r, dRetN_c, dIfS_c, iteS_t, iteS_f, dSet_c, setK_d, setK_m, setK_s, setK_r, dAsg_c, asgK_d, asgK_m, dFz_c, dNever_c, dRaise_c, dC_c, dOp_c, dUn_c, dTst_c, tstK_c, dTru_c, truK_n, truK_b, truK_i, truK_t, truK_l, truK_m, truK_bl, dNot_c, dAnd_c, andK_t, andK_f, dOr_c, orK_t, orK_f, dAndV_c, andV_t, andV_f, dOrV_c, orV_t, orV_f, dNotV_c, dIf_c, iteE_t, iteE_f, dChain_c, chK_t, chK_f, dNil_c, dCons_c, dCB_c, dCall_c, dCall0_c, dTup_c, dLst_c, dFor_c, dLc_c, iTp_c, tpK_c, iLst_c, lsK_d, lsK_m, iSeq_c, sqK_d, sqK_m, sqK_b, dSl_c, dNo_c, dPt_c, ptK_c, dYes_c, dBack_k, backK_c, dTupRg_c, dLstRg_c, dRg1_c, dRg2_c, rg1K_c, rg2K_c, tupRg_c, lstRg_c, dDict0_c, dDict1_c, gdName_c, gdTup_c, gdCons_c, gdNil_c, dApp_c, appK_c, apK_d, apK_m, dVar_c, varK_d, varK_m, varK_b, varK_s, varK_sc, varK_r, dNew_c, varK_mo, varK_bo, setK_mo, retK_mo, dDIn_c, dinK_i, dinK_s, dDGet_c, dDGet1_c, isBo_c, dget1K_i, dDPut_c, dputV_d, dputK_i, val_mo, dOwn0_c, dDispV_c, dispK_i, fRepT_c, fIsB_c, dM0_c, dM1_c, isStr_c, fQ0_c, fQ1_c, fSplit_c, fLenS_c, iEnSD_c, dSetdIf_c, setdB_f, enSK_m, enSK_d, dOrT_c, dAndT_c, orTK_n, dCallK_c, dCallK0_c, dCallD_c, dCallD0_c, dSaid_c, toldK_d, toldK_m, iRg1_c, rgK_c, iRg2_c, rgK2_c, iEnT_c, enK_c, iZp_c, zpK_tt, zpK_mm, zpK_ll, zpK_lm, zpK_ml, dPar_c, parK_im, parK_nm, parK_sm, parK_dd, parK_md]
      refine ⟨sh_int _, sh_int _, ?_⟩
      rw [eqv_int]
      cases decide (w = 0) with
      | true =>
        try simp only [startD, iEn, cvs, cv, vS, Sl.dat, Sl.seq, Sl.sq, Sl.fz, dats, dSetI, dAug, wipeD, List.length_cons, List.length_nil, List.length_append, List.length_replicate, Nat.reduceAdd, Nat.reduceSub, Nat.zero_add, List.replicate_succ, List.replicate_zero, List.cons_append, List.nil_append, List.append_nil, List.set_cons_zero, List.set_cons_succ, List.set_nil, List.getElem?_cons_zero, List.getElem?_cons_succ, Option.getD_some, List.map_cons, List.map_nil, Option.bind_some, fI0_c, fI_c, fU_c, fAddX_i, fAddX_t, fAddX_s, fAddX_mm, fAddX_bm, fAddX_mb, fAddX_bb, fAddX_lm, fAddX_ll, fMulX_i, fMulX_m, fSlX_t, fSlX_m, fSlX_b, fSlX_l, fIs_n, fIs_i, fIs_b, fIs_s, fIs_l, fIs_t, fIs_m, fIs_bl, fLen_t, fLen_l, fLen_m, fLen_b, fLen_scr, fIsi_c, fEqD_c, fEqD_mm, fEqD_bm, fEqD_bb, fEqD_dm, fEq_ss, fInt_i, fInt_b, fTuple_m, fTuple_b, fTuple_t, fTuple_l, fList_m, fList_b, fList_t, fList_l, f2I_c, fRepr_c, fRepr_m, fRepr_b, fStr_c, Bool.not_true, Bool.not_false, true_and, netT, Road.dt, reduceIte, Bool.false_eq_true, decide_true, decide_false, tupK, lstK, dNext_c, dBreak_c, dCont_c, dSeq_c, dDrop_c, dRet_c, retK_d, retK_m, retK_r, dRetN_c, dIfS_c, iteS_t, iteS_f, dSet_c, setK_d, setK_m, setK_s, setK_r, dAsg_c, asgK_d, asgK_m, dFz_c, dNever_c, dRaise_c, dC_c, dOp_c, dUn_c, dTst_c, tstK_c, dTru_c, truK_n, truK_b, truK_i, truK_t, truK_l, truK_m, truK_bl, dNot_c, dAnd_c, andK_t, andK_f, dOr_c, orK_t, orK_f, dAndV_c, andV_t, andV_f, dOrV_c, orV_t, orV_f, dNotV_c, dIf_c, iteE_t, iteE_f, dChain_c, chK_t, chK_f, dNil_c, dCons_c, dCB_c, dCall_c, dCall0_c, dTup_c, dLst_c, dFor_c, dLc_c, iTp_c, tpK_c, iLst_c, lsK_d, lsK_m, iSeq_c, sqK_d, sqK_m, sqK_b, dSl_c, dNo_c, dPt_c, ptK_c, dYes_c, dBack_k, backK_c, dTupRg_c, dLstRg_c, dRg1_c, dRg2_c, rg1K_c, rg2K_c, tupRg_c, lstRg_c, dDict0_c, dDict1_c, gdName_c, gdTup_c, gdCons_c, gdNil_c, dApp_c, appK_c, apK_d, apK_m, dVar_c, varK_d, varK_m, varK_b, varK_s, varK_sc, varK_r, dNew_c, varK_mo, varK_bo, setK_mo, retK_mo, dDIn_c, dinK_i, dinK_s, dDGet_c, dDGet1_c, isBo_c, dget1K_i, dDPut_c, dputV_d, dputK_i, val_mo, dOwn0_c, dDispV_c, dispK_i, fRepT_c, fIsB_c, dM0_c, dM1_c, isStr_c, fQ0_c, fQ1_c, fSplit_c, fLenS_c, iEnSD_c, dSetdIf_c, setdB_f, enSK_m, enSK_d, dOrT_c, dAndT_c, orTK_n, dCallK_c, dCallK0_c, dCallD_c, dCallD0_c, dSaid_c, toldK_d, toldK_m, iRg1_c, rgK_c, iRg2_c, rgK2_c, iEnT_c, enK_c, iZp_c, zpK_tt, zpK_mm, zpK_ll, zpK_lm, zpK_ml, dPar_c, parK_im, parK_nm, parK_sm, parK_dd, parK_md]
        try simp only [show ((0 : Nat) ≤ sizeLine) = True from eq_true (by decide), show ((1 : Nat) ≤ sizeLine) = True from eq_true (by decide), show ((2 : Nat) ≤ sizeLine) = True from eq_true (by decide), show ((3 : Nat) ≤ sizeLine) = True from eq_true (by decide), show ((4 : Nat) ≤ sizeLine) = True from eq_true (by decide), show ((5 : Nat) ≤ sizeLine) = True from eq_true (by decide), show ((6 : Nat) ≤ sizeLine) = True from eq_true (by decide), show ((7 : Nat) ≤ sizeLine) = True from eq_true (by decide), show ((8 : Nat) ≤ sizeLine) = True from eq_true (by decide), show ((9 : Nat) ≤ sizeLine) = True from eq_true (by decide), show ((10 : Nat) ≤ sizeLine) = True from eq_true (by decide), show ((11 : Nat) ≤ sizeLine) = True from eq_true (by decide), show ((12 : Nat) ≤ sizeLine) = True from eq_true (by decide), show ((13 : Nat) ≤ sizeLine) = True from eq_true (by decide), show ((14 : Nat) ≤ sizeLine) = True from eq_true (by decide), show ((15 : Nat) ≤ sizeLine) = True from eq_true (by decide), show ((16 : Nat) ≤ sizeLine) = True from eq_true (by decide), show ((17 : Nat) ≤ sizeLine) = True from eq_true (by decide), show ((18 : Nat) ≤ sizeLine) = True from eq_true (by decide), show ((19 : Nat) ≤ sizeLine) = True from eq_true (by decide), show ((20 : Nat) ≤ sizeLine) = True from eq_true (by decide), show ((21 : Nat) ≤ sizeLine) = True from eq_true (by decide), show ((22 : Nat) ≤ sizeLine) = True from eq_true (by decide), show ((23 : Nat) ≤ sizeLine) = True from eq_true (by decide), show ((24 : Nat) ≤ sizeLine) = True from eq_true (by decide), show ((25 : Nat) ≤ sizeLine) = True from eq_true (by decide), show ((26 : Nat) ≤ sizeLine) = True from eq_true (by decide), show ((27 : Nat) ≤ sizeLine) = True from eq_true (by decide), show ((28 : Nat) ≤ sizeLine) = True from eq_true (by decide), show ((29 : Nat) ≤ sizeLine) = True from eq_true (by decide), show ((30 : Nat) ≤ sizeLine) = True from eq_true (by decide), show ((31 : Nat) ≤ sizeLine) = True from eq_true (by decide), show ((32 : Nat) ≤ sizeLine) = True from eq_true (by decide), show ((33 : Nat) ≤ sizeLine) = True from eq_true (by decide), show ((34 : Nat) ≤ sizeLine) = True from eq_true (by decide), show ((35 : Nat) ≤ sizeLine) = True from eq_true (by decide), show ((36 : Nat) ≤ sizeLine) = True from eq_true (by decide), show ((37 : Nat) ≤ sizeLine) = True from eq_true (by decide), show ((38 : Nat) ≤ sizeLine) = True from eq_true (by decide), show ((39 : Nat) ≤ sizeLine) = True from eq_true (by decide), show ((40 : Nat) ≤ sizeLine) = True from eq_true (by decide), true_and]
        refine ⟨big _ (by have := cut_len xs (some (-1)) none; omega), 4, rfl, by decide, by decide, fun e e0 e1 => ?_⟩
        refine fIx_pick e0 e1 fun d hd => ?_
        try simp only [startD, iEn, cvs, cv, vS, Sl.dat, Sl.seq, Sl.sq, Sl.fz, dats, dSetI, dAug, wipeD, List.length_cons, List.length_nil, List.length_append, List.length_replicate, Nat.reduceAdd, Nat.reduceSub, Nat.zero_add, List.replicate_succ, List.replicate_zero, List.cons_append, List.nil_append, List.append_nil, List.set_cons_zero, List.set_cons_succ, List.set_nil, List.getElem?_cons_zero, List.getElem?_cons_succ, Option.getD_some, List.map_cons, List.map_nil, Option.bind_some, fI0_c, fI_c, fU_c, fAddX_i, fAddX_t, fAddX_s, fAddX_mm, fAddX_bm, fAddX_mb, fAddX_bb, fAddX_lm, fAddX_ll, fMulX_i, fMulX_m, fSlX_t, fSlX_m, fSlX_b, fSlX_l, fIs_n, fIs_i, fIs_b, fIs_s, fIs_l, fIs_t, fIs_m, fIs_bl, fLen_t, fLen_l, fLen_m, fLen_b, fLen_scr, fIsi_c, fEqD_c, fEqD_mm, fEqD_bm, fEqD_bb, fEqD_dm, fEq_ss, fInt_i, fInt_b, fTuple_m, fTuple_b, fTuple_t, fTuple_l, fList_m, fList_b, fList_t, fList_l, f2I_c, fRepr_c, fRepr_m, fRepr_b, fStr_c, Bool.not_true, Bool.not_false, true_and, netT, Road.dt, reduceIte, Bool.false_eq_true, decide_true, decide_false, tupK, lstK, dNext_c, dBreak_c, dCont_c, dSeq_c, dDrop_c, dRet_c, retK_d, retK_m, retK_r, dRetN_c, dIfS_c, iteS_t, iteS_f, dSet_c, setK_d, setK_m, setK_s, setK_r, dAsg_c, asgK_d, asgK_m, dFz_c, dNever_c, dRaise_c, dC_c, dOp_c, dUn_c, dTst_c, tstK_c, dTru_c, truK_n, truK_b, truK_i, truK_t, truK_l, truK_m, truK_bl, dNot_c, dAnd_c, andK_t, andK_f, dOr_c, orK_t, orK_f, dAndV_c, andV_t, andV_f, dOrV_c, orV_t, orV_f, dNotV_c, dIf_c, iteE_t, iteE_f, dChain_c, chK_t, chK_f, dNil_c, dCons_c, dCB_c, dCall_c, dCall0_c, dTup_c, dLst_c, dFor_c, dLc_c, iTp_c, tpK_c, iLst_c, lsK_d, lsK_m, iSeq_c, sqK_d, sqK_m, sqK_b, dSl_c, dNo_c, dPt_c, ptK_c, dYes_c, dBack_k, backK_c, dTupRg_c, dLstRg_c, dRg1_c, dRg2_c, rg1K_c, rg2K_c, tupRg_c, lstRg_c, dDict0_c, dDict1_c, gdName_c, gdTup_c, gdCons_c, gdNil_c, dApp_c, appK_c, apK_d, apK_m, dVar_c, varK_d, varK_m, varK_b, varK_s, varK_sc, varK_r, dNew_c, varK_mo, varK_bo, setK_mo, retK_mo, dDIn_c, dinK_i, dinK_s, dDGet_c, dDGet1_c, isBo_c, dget1K_i, dDPut_c, dputV_d, dputK_i, val_mo, dOwn0_c, dDispV_c, dispK_i, fRepT_c, fIsB_c, dM0_c, dM1_c, isStr_c, fQ0_c, fQ1_c, fSplit_c, fLenS_c, iEnSD_c, dSetdIf_c, setdB_f, enSK_m, enSK_d, dOrT_c, dAndT_c, orTK_n, dCallK_c, dCallK0_c, dCallD_c, dCallD0_c, dSaid_c, toldK_d, toldK_m, iRg1_c, rgK_c, iRg2_c, rgK2_c, iEnT_c, enK_c, iZp_c, zpK_tt, zpK_mm, zpK_ll, zpK_lm, zpK_ml, dPar_c, parK_im, parK_nm, parK_sm, parK_dd, parK_md]
        refine q _ (SpR.of0 ?_)
        simp only [List.mem_cons, List.not_mem_nil, or_false] at hd
        rcases hd with rfl | rfl | rfl | rfl
        · exact .inl rfl
        · exact .inr ⟨_, rfl, by rw [List.length_reverse]; omega, fun y hy => .inl (List.mem_reverse.mp hy)⟩
        · refine .inr ⟨_, rfl, ?_, fun y hy => ?_⟩
          · have := cut_len xs (some (-1)) none
            rw [List.length_append]
            omega
          · rcases List.mem_append.mp hy with z | z
            · exact .inl z
            · exact .inl (cut_sub z)
        · exact .inr ⟨_, rfl, by have := cut_len xs none (some (-1)); omega, fun y hy => .inl (cut_sub hy)⟩
      | false =>
        try simp only [startD, iEn, cvs, cv, vS, Sl.dat, Sl.seq, Sl.sq, Sl.fz, dats, dSetI, dAug, wipeD, List.length_cons, List.length_nil, List.length_append, List.length_replicate, Nat.reduceAdd, Nat.reduceSub, Nat.zero_add, List.replicate_succ, List.replicate_zero, List.cons_append, List.nil_append, List.append_nil, List.set_cons_zero, List.set_cons_succ, List.set_nil, List.getElem?_cons_zero, List.getElem?_cons_succ, Option.getD_some, List.map_cons, List.map_nil, Option.bind_some, fI0_c, fI_c, fU_c, fAddX_i, fAddX_t, fAddX_s, fAddX_mm, fAddX_bm, fAddX_mb, fAddX_bb, fAddX_lm, fAddX_ll, fMulX_i, fMulX_m, fSlX_t, fSlX_m, fSlX_b, fSlX_l, fIs_n, fIs_i, fIs_b, fIs_s, fIs_l, fIs_t, fIs_m, fIs_bl, fLen_t, fLen_l, fLen_m, fLen_b, fLen_scr, fIsi_c, fEqD_c, fEqD_mm, fEqD_bm, fEqD_bb, fEqD_dm, fEq_ss, fInt_i, fInt_b, fTuple_m, fTuple_b, fTuple_t, fTuple_l, fList_m, fList_b, fList_t, fList_l, f2I_c, fRepr_c, fRepr_m, fRepr_b, fStr_c, Bool.not_true, Bool.not_false, true_and, netT, Road.dt, reduceIte, Bool.false_eq_true, decide_true, decide_false, tupK, lstK, dNext_c, dBreak_c, dCont_c, dSeq_c, dDrop_c, dRet_c, retK_d, retK_m, retK_r, dRetN_c, dIfS_c, iteS_t, iteS_f, dSet_c, setK_d, setK_m, setK_s, setK_r, dAsg_c, asgK_d, asgK_m, dFz_c, dNever_c, dRaise_c, dC_c, dOp_c, dUn_c, dTst_c, tstK_c, dTru_c, truK_n, truK_b, truK_i, truK_t, truK_l, truK_m, truK_bl, dNot_c, dAnd_c, andK_t, andK_f, dOr_c, orK_t, orK_f, dAndV_c, andV_t, andV_f, dOrV_c, orV_t, orV_f, dNotV_c, dIf_c, iteE_t, iteE_f, dChain_c, chK_t, chK_f, dNil_c, dCons_c, dCB_c, dCall_c, dCall0_c, dTup_c, dLst_c, dFor_c, dLc_c, iTp_c, tpK_c, iLst_c, lsK_d, lsK_m, iSeq_c, sqK_d, sqK_m, sqK_b, dSl_c, dNo_c, dPt_c, ptK_c, dYes_c, dBack_k, backK_c, dTupRg_c, dLstRg_c, dRg1_c, dRg2_c, rg1K_c, rg2K_c, tupRg_c, lstRg_c, dDict0_c, dDict1_c, gdName_c, gdTup_c, gdCons_c, gdNil_c, dApp_c, appK_c, apK_d, apK_m, dVar_c, varK_d, varK_m, varK_b, varK_s, varK_sc, varK_r, dNew_c, varK_mo, varK_bo, setK_mo, retK_mo, dDIn_c, dinK_i, dinK_s, dDGet_c, dDGet1_c, isBo_c, dget1K_i, dDPut_c, dputV_d, dputK_i, val_mo, dOwn0_c, dDispV_c, dispK_i, fRepT_c, fIsB_c, dM0_c, dM1_c, isStr_c, fQ0_c, fQ1_c, fSplit_c, fLenS_c, iEnSD_c, dSetdIf_c, setdB_f, enSK_m, enSK_d, dOrT_c, dAndT_c, orTK_n, dCallK_c, dCallK0_c, dCallD_c, dCallD0_c, dSaid_c, toldK_d, toldK_m, iRg1_c, rgK_c, iRg2_c, rgK2_c, iEnT_c, enK_c, iZp_c, zpK_tt, zpK_mm, zpK_ll, zpK_lm, zpK_ml, dPar_c, parK_im, parK_nm, parK_sm, parK_dd, parK_md]
        refine ⟨sh_int _, sh_int _, ?_⟩
        rw [eqv_int]
        cases decide (w = 1) with
        | true =>
          try simp only [startD, iEn, cvs, cv, vS, Sl.dat, Sl.seq, Sl.sq, Sl.fz, dats, dSetI, dAug, wipeD, List.length_cons, List.length_nil, List.length_append, List.length_replicate, Nat.reduceAdd, Nat.reduceSub, Nat.zero_add, List.replicate_succ, List.replicate_zero, List.cons_append, List.nil_append, List.append_nil, List.set_cons_zero, List.set_cons_succ, List.set_nil, List.getElem?_cons_zero, List.getElem?_cons_succ, Option.getD_some, List.map_cons, List.map_nil, Option.bind_some, fI0_c, fI_c, fU_c, fAddX_i, fAddX_t, fAddX_s, fAddX_mm, fAddX_bm, fAddX_mb, fAddX_bb, fAddX_lm, fAddX_ll, fMulX_i, fMulX_m, fSlX_t, fSlX_m, fSlX_b, fSlX_l, fIs_n, fIs_i, fIs_b, fIs_s, fIs_l, fIs_t, fIs_m, fIs_bl, fLen_t, fLen_l, fLen_m, fLen_b, fLen_scr, fIsi_c, fEqD_c, fEqD_mm, fEqD_bm, fEqD_bb, fEqD_dm, fEq_ss, fInt_i, fInt_b, fTuple_m, fTuple_b, fTuple_t, fTuple_l, fList_m, fList_b, fList_t, fList_l, f2I_c, fRepr_c, fRepr_m, fRepr_b, fStr_c, Bool.not_true, Bool.not_false, true_and, netT, Road.dt, reduceIte, Bool.false_eq_true, decide_true, decide_false, tupK, lstK, dNext_c, dBreak_c, dCont_c, dSeq_c, dDrop_c, dRet_c, retK_d, retK_m, retK_r, dRetN_c, dIfS_c, iteS_t, iteS_f, dSet_c, setK_d, setK_m, setK_s, setK_r, dAsg_c, asgK_d, asgK_m, dFz_c, dNever_c, dRaise_c, dC_c, dOp_c, dUn_c, dTst_c, tstK_c, dTru_c, truK_n, truK_b, truK_i, truK_t, truK_l, truK_m, truK_bl, dNot_c, dAnd_c, andK_t, andK_f, dOr_c, orK_t, orK_f, dAndV_c, andV_t, andV_f, dOrV_c, orV_t, orV_f, dNotV_c, dIf_c, iteE_t, iteE_f, dChain_c, chK_t, chK_f, dNil_c, dCons_c, dCB_c, dCall_c, dCall0_c, dTup_c, dLst_c, dFor_c, dLc_c, iTp_c, tpK_c, iLst_c, lsK_d, lsK_m, iSeq_c, sqK_d, sqK_m, sqK_b, dSl_c, dNo_c, dPt_c, ptK_c, dYes_c, dBack_k, backK_c, dTupRg_c, dLstRg_c, dRg1_c, dRg2_c, rg1K_c, rg2K_c, tupRg_c, lstRg_c, dDict0_c, dDict1_c, gdName_c, gdTup_c, gdCons_c, gdNil_c, dApp_c, appK_c, apK_d, apK_m, dVar_c, varK_d, varK_m, varK_b, varK_s, varK_sc, varK_r, dNew_c, varK_mo, varK_bo, setK_mo, retK_mo, dDIn_c, dinK_i, dinK_s, dDGet_c, dDGet1_c, isBo_c, dget1K_i, dDPut_c, dputV_d, dputK_i, val_mo, dOwn0_c, dDispV_c, dispK_i, fRepT_c, fIsB_c, dM0_c, dM1_c, isStr_c, fQ0_c, fQ1_c, fSplit_c, fLenS_c, iEnSD_c, dSetdIf_c, setdB_f, enSK_m, enSK_d, dOrT_c, dAndT_c, orTK_n, dCallK_c, dCallK0_c, dCallD_c, dCallD0_c, dSaid_c, toldK_d, toldK_m, iRg1_c, rgK_c, iRg2_c, rgK2_c, iEnT_c, enK_c, iZp_c, zpK_tt, zpK_mm, zpK_ll, zpK_lm, zpK_ml, dPar_c, parK_im, parK_nm, parK_sm, parK_dd, parK_md]
          try simp only [show ((0 : Nat) ≤ sizeLine) = True from eq_true (by decide), show ((1 : Nat) ≤ sizeLine) = True from eq_true (by decide), show ((2 : Nat) ≤ sizeLine) = True from eq_true (by decide), show ((3 : Nat) ≤ sizeLine) = True from eq_true (by decide), show ((4 : Nat) ≤ sizeLine) = True from eq_true (by decide), show ((5 : Nat) ≤ sizeLine) = True from eq_true (by decide), show ((6 : Nat) ≤ sizeLine) = True from eq_true (by decide), show ((7 : Nat) ≤ sizeLine) = True from eq_true (by decide), show ((8 : Nat) ≤ sizeLine) = True from eq_true (by decide), show ((9 : Nat) ≤ sizeLine) = True from eq_true (by decide), show ((10 : Nat) ≤ sizeLine) = True from eq_true (by decide), show ((11 : Nat) ≤ sizeLine) = True from eq_true (by decide), show ((12 : Nat) ≤ sizeLine) = True from eq_true (by decide), show ((13 : Nat) ≤ sizeLine) = True from eq_true (by decide), show ((14 : Nat) ≤ sizeLine) = True from eq_true (by decide), show ((15 : Nat) ≤ sizeLine) = True from eq_true (by decide), show ((16 : Nat) ≤ sizeLine) = True from eq_true (by decide), show ((17 : Nat) ≤ sizeLine) = True from eq_true (by decide), show ((18 : Nat) ≤ sizeLine) = True from eq_true (by decide), show ((19 : Nat) ≤ sizeLine) = True from eq_true (by decide), show ((20 : Nat) ≤ sizeLine) = True from eq_true (by decide), show ((21 : Nat) ≤ sizeLine) = True from eq_true (by decide), show ((22 : Nat) ≤ sizeLine) = True from eq_true (by decide), show ((23 : Nat) ≤ sizeLine) = True from eq_true (by decide), show ((24 : Nat) ≤ sizeLine) = True from eq_true (by decide), show ((25 : Nat) ≤ sizeLine) = True from eq_true (by decide), show ((26 : Nat) ≤ sizeLine) = True from eq_true (by decide), show ((27 : Nat) ≤ sizeLine) = True from eq_true (by decide), show ((28 : Nat) ≤ sizeLine) = True from eq_true (by decide), show ((29 : Nat) ≤ sizeLine) = True from eq_true (by decide), show ((30 : Nat) ≤ sizeLine) = True from eq_true (by decide), show ((31 : Nat) ≤ sizeLine) = True from eq_true (by decide), show ((32 : Nat) ≤ sizeLine) = True from eq_true (by decide), show ((33 : Nat) ≤ sizeLine) = True from eq_true (by decide), show ((34 : Nat) ≤ sizeLine) = True from eq_true (by decide), show ((35 : Nat) ≤ sizeLine) = True from eq_true (by decide), show ((36 : Nat) ≤ sizeLine) = True from eq_true (by decide), show ((37 : Nat) ≤ sizeLine) = True from eq_true (by decide), show ((38 : Nat) ≤ sizeLine) = True from eq_true (by decide), show ((39 : Nat) ≤ sizeLine) = True from eq_true (by decide), show ((40 : Nat) ≤ sizeLine) = True from eq_true (by decide), true_and]
          refine ⟨big _ (by have := len3 none (some a) (some a) none; omega), big _ (len3 _ _ _ _), put _ _ _ _ _ (.inr (.inl hod))⟩
        | false =>
          try simp only [startD, iEn, cvs, cv, vS, Sl.dat, Sl.seq, Sl.sq, Sl.fz, dats, dSetI, dAug, wipeD, List.length_cons, List.length_nil, List.length_append, List.length_replicate, Nat.reduceAdd, Nat.reduceSub, Nat.zero_add, List.replicate_succ, List.replicate_zero, List.cons_append, List.nil_append, List.append_nil, List.set_cons_zero, List.set_cons_succ, List.set_nil, List.getElem?_cons_zero, List.getElem?_cons_succ, Option.getD_some, List.map_cons, List.map_nil, Option.bind_some, fI0_c, fI_c, fU_c, fAddX_i, fAddX_t, fAddX_s, fAddX_mm, fAddX_bm, fAddX_mb, fAddX_bb, fAddX_lm, fAddX_ll, fMulX_i, fMulX_m, fSlX_t, fSlX_m, fSlX_b, fSlX_l, fIs_n, fIs_i, fIs_b, fIs_s, fIs_l, fIs_t, fIs_m, fIs_bl, fLen_t, fLen_l, fLen_m, fLen_b, fLen_scr, fIsi_c, fEqD_c, fEqD_mm, fEqD_bm, fEqD_bb, fEqD_dm, fEq_ss, fInt_i, fInt_b, fTuple_m, fTuple_b, fTuple_t, fTuple_l, fList_m, fList_b, fList_t, fList_l, f2I_c, fRepr_c, fRepr_m, fRepr_b, fStr_c, Bool.not_true, Bool.not_false, true_and, netT, Road.dt, reduceIte, Bool.false_eq_true, decide_true, decide_false, tupK, lstK, dNext_c, dBreak_c, dCont_c, dSeq_c, dDrop_c, dRet_c, retK_d, retK_m, retK_r, dRetN_c, dIfS_c, iteS_t, iteS_f, dSet_c, setK_d, setK_m, setK_s, setK_r, dAsg_c, asgK_d, asgK_m, dFz_c, dNever_c, dRaise_c, dC_c, dOp_c, dUn_c, dTst_c, tstK_c, dTru_c, truK_n, truK_b, truK_i, truK_t, truK_l, truK_m, truK_bl, dNot_c, dAnd_c, andK_t, andK_f, dOr_c, orK_t, orK_f, dAndV_c, andV_t, andV_f, dOrV_c, orV_t, orV_f, dNotV_c, dIf_c, iteE_t, iteE_f, dChain_c, chK_t, chK_f, dNil_c, dCons_c, dCB_c, dCall_c, dCall0_c, dTup_c, dLst_c, dFor_c, dLc_c, iTp_c, tpK_c, iLst_c, lsK_d, lsK_m, iSeq_c, sqK_d, sqK_m, sqK_b, dSl_c, dNo_c, dPt_c, ptK_c, dYes_c, dBack_k, backK_c, dTupRg_c, dLstRg_c, dRg1_c, dRg2_c, rg1K_c, rg2K_c, tupRg_c, lstRg_c, dDict0_c, dDict1_c, gdName_c, gdTup_c, gdCons_c, gdNil_c, dApp_c, appK_c, apK_d, apK_m, dVar_c, varK_d, varK_m, varK_b, varK_s, varK_sc, varK_r, dNew_c, varK_mo, varK_bo, setK_mo, retK_mo, dDIn_c, dinK_i, dinK_s, dDGet_c, dDGet1_c, isBo_c, dget1K_i, dDPut_c, dputV_d, dputK_i, val_mo, dOwn0_c, dDispV_c, dispK_i, fRepT_c, fIsB_c, dM0_c, dM1_c, isStr_c, fQ0_c, fQ1_c, fSplit_c, fLenS_c, iEnSD_c, dSetdIf_c, setdB_f, enSK_m, enSK_d, dOrT_c, dAndT_c, orTK_n, dCallK_c, dCallK0_c, dCallD_c, dCallD0_c, dSaid_c, toldK_d, toldK_m, iRg1_c, rgK_c, iRg2_c, rgK2_c, iEnT_c, enK_c, iZp_c, zpK_tt, zpK_mm, zpK_ll, zpK_lm, zpK_ml, dPar_c, parK_im, parK_nm, parK_sm, parK_dd, parK_md]
          have last : Qd (.d (.tuple (Dl.cutD xs none (some a) ++ [od] ++ Dl.cutD xs (some (a + 1)) none))) := put _ _ _ _ _ (.inr (.inl hod))
          have z1 : (Dl.cutD xs none (some a)).length + 1 ≤ sizeLine := big _ (by have := len3 none (some a) (some a) none; omega)
          have z2 : (Dl.cutD xs none (some a)).length + 1 + (Dl.cutD xs (some (a + 1)) none).length ≤ sizeLine := big _ (len3 _ _ _ _)
          cases decide (w < 4) with
          | false =>
            try simp only [startD, iEn, cvs, cv, vS, Sl.dat, Sl.seq, Sl.sq, Sl.fz, dats, dSetI, dAug, wipeD, List.length_cons, List.length_nil, List.length_append, List.length_replicate, Nat.reduceAdd, Nat.reduceSub, Nat.zero_add, List.replicate_succ, List.replicate_zero, List.cons_append, List.nil_append, List.append_nil, List.set_cons_zero, List.set_cons_succ, List.set_nil, List.getElem?_cons_zero, List.getElem?_cons_succ, Option.getD_some, List.map_cons, List.map_nil, Option.bind_some, fI0_c, fI_c, fU_c, fAddX_i, fAddX_t, fAddX_s, fAddX_mm, fAddX_bm, fAddX_mb, fAddX_bb, fAddX_lm, fAddX_ll, fMulX_i, fMulX_m, fSlX_t, fSlX_m, fSlX_b, fSlX_l, fIs_n, fIs_i, fIs_b, fIs_s, fIs_l, fIs_t, fIs_m, fIs_bl, fLen_t, fLen_l, fLen_m, fLen_b, fLen_scr, fIsi_c, fEqD_c, fEqD_mm, fEqD_bm, fEqD_bb, fEqD_dm, fEq_ss, fInt_i, fInt_b, fTuple_m, fTuple_b, fTuple_t, fTuple_l, fList_m, fList_b, fList_t, fList_l, f2I_c, fRepr_c, fRepr_m, fRepr_b, fStr_c, Bool.not_true, Bool.not_false, true_and, netT, Road.dt, reduceIte, Bool.false_eq_true, decide_true, decide_false, tupK, lstK, dNext_c, dBreak_c, dCont_c, dSeq_c, dDrop_c, dRet_c, retK_d, retK_m, retK_r, dRetN_c, dIfS_c, iteS_t, iteS_f, dSet_c, setK_d, setK_m, setK_s, setK_r, dAsg_c, asgK_d, asgK_m, dFz_c, dNever_c, dRaise_c, dC_c, dOp_c, dUn_c, dTst_c, tstK_c, dTru_c, truK_n, truK_b, truK_i, truK_t, truK_l, truK_m, truK_bl, dNot_c, dAnd_c, andK_t, andK_f, dOr_c, orK_t, orK_f, dAndV_c, andV_t, andV_f, dOrV_c, orV_t, orV_f, dNotV_c, dIf_c, iteE_t, iteE_f, dChain_c, chK_t, chK_f, dNil_c, dCons_c, dCB_c, dCall_c, dCall0_c, dTup_c, dLst_c, dFor_c, dLc_c, iTp_c, tpK_c, iLst_c, lsK_d, lsK_m, iSeq_c, sqK_d, sqK_m, sqK_b, dSl_c, dNo_c, dPt_c, ptK_c, dYes_c, dBack_k, backK_c, dTupRg_c, dLstRg_c, dRg1_c, dRg2_c, rg1K_c, rg2K_c, tupRg_c, lstRg_c, dDict0_c, dDict1_c, gdName_c, gdTup_c, gdCons_c, gdNil_c, dApp_c, appK_c, apK_d, apK_m, dVar_c, varK_d, varK_m, varK_b, varK_s, varK_sc, varK_r, dNew_c, varK_mo, varK_bo, setK_mo, retK_mo, dDIn_c, dinK_i, dinK_s, dDGet_c, dDGet1_c, isBo_c, dget1K_i, dDPut_c, dputV_d, dputK_i, val_mo, dOwn0_c, dDispV_c, dispK_i, fRepT_c, fIsB_c, dM0_c, dM1_c, isStr_c, fQ0_c, fQ1_c, fSplit_c, fLenS_c, iEnSD_c, dSetdIf_c, setdB_f, enSK_m, enSK_d, dOrT_c, dAndT_c, orTK_n, dCallK_c, dCallK0_c, dCallD_c, dCallD0_c, dSaid_c, toldK_d, toldK_m, iRg1_c, rgK_c, iRg2_c, rgK2_c, iEnT_c, enK_c, iZp_c, zpK_tt, zpK_mm, zpK_ll, zpK_lm, zpK_ml, dPar_c, parK_im, parK_nm, parK_sm, parK_dd, parK_md]
            try simp only [show ((0 : Nat) ≤ sizeLine) = True from eq_true (by decide), show ((1 : Nat) ≤ sizeLine) = True from eq_true (by decide), show ((2 : Nat) ≤ sizeLine) = True from eq_true (by decide), show ((3 : Nat) ≤ sizeLine) = True from eq_true (by decide), show ((4 : Nat) ≤ sizeLine) = True from eq_true (by decide), show ((5 : Nat) ≤ sizeLine) = True from eq_true (by decide), show ((6 : Nat) ≤ sizeLine) = True from eq_true (by decide), show ((7 : Nat) ≤ sizeLine) = True from eq_true (by decide), show ((8 : Nat) ≤ sizeLine) = True from eq_true (by decide), show ((9 : Nat) ≤ sizeLine) = True from eq_true (by decide), show ((10 : Nat) ≤ sizeLine) = True from eq_true (by decide), show ((11 : Nat) ≤ sizeLine) = True from eq_true (by decide), show ((12 : Nat) ≤ sizeLine) = True from eq_true (by decide), show ((13 : Nat) ≤ sizeLine) = True from eq_true (by decide), show ((14 : Nat) ≤ sizeLine) = True from eq_true (by decide), show ((15 : Nat) ≤ sizeLine) = True from eq_true (by decide), show ((16 : Nat) ≤ sizeLine) = True from eq_true (by decide), show ((17 : Nat) ≤ sizeLine) = True from eq_true (by decide), show ((18 : Nat) ≤ sizeLine) = True from eq_true (by decide), show ((19 : Nat) ≤ sizeLine) = True from eq_true (by decide), show ((20 : Nat) ≤ sizeLine) = True from eq_true (by decide), show ((21 : Nat) ≤ sizeLine) = True from eq_true (by decide), show ((22 : Nat) ≤ sizeLine) = True from eq_true (by decide), show ((23 : Nat) ≤ sizeLine) = True from eq_true (by decide), show ((24 : Nat) ≤ sizeLine) = True from eq_true (by decide), show ((25 : Nat) ≤ sizeLine) = True from eq_true (by decide), show ((26 : Nat) ≤ sizeLine) = True from eq_true (by decide), show ((27 : Nat) ≤ sizeLine) = True from eq_true (by decide), show ((28 : Nat) ≤ sizeLine) = True from eq_true (by decide), show ((29 : Nat) ≤ sizeLine) = True from eq_true (by decide), show ((30 : Nat) ≤ sizeLine) = True from eq_true (by decide), show ((31 : Nat) ≤ sizeLine) = True from eq_true (by decide), show ((32 : Nat) ≤ sizeLine) = True from eq_true (by decide), show ((33 : Nat) ≤ sizeLine) = True from eq_true (by decide), show ((34 : Nat) ≤ sizeLine) = True from eq_true (by decide), show ((35 : Nat) ≤ sizeLine) = True from eq_true (by decide), show ((36 : Nat) ≤ sizeLine) = True from eq_true (by decide), show ((37 : Nat) ≤ sizeLine) = True from eq_true (by decide), show ((38 : Nat) ≤ sizeLine) = True from eq_true (by decide), show ((39 : Nat) ≤ sizeLine) = True from eq_true (by decide), show ((40 : Nat) ≤ sizeLine) = True from eq_true (by decide), true_and]
            exact ⟨z1, z2, last⟩
          | true =>
            try simp only [startD, iEn, cvs, cv, vS, Sl.dat, Sl.seq, Sl.sq, Sl.fz, dats, dSetI, dAug, wipeD, List.length_cons, List.length_nil, List.length_append, List.length_replicate, Nat.reduceAdd, Nat.reduceSub, Nat.zero_add, List.replicate_succ, List.replicate_zero, List.cons_append, List.nil_append, List.append_nil, List.set_cons_zero, List.set_cons_succ, List.set_nil, List.getElem?_cons_zero, List.getElem?_cons_succ, Option.getD_some, List.map_cons, List.map_nil, Option.bind_some, fI0_c, fI_c, fU_c, fAddX_i, fAddX_t, fAddX_s, fAddX_mm, fAddX_bm, fAddX_mb, fAddX_bb, fAddX_lm, fAddX_ll, fMulX_i, fMulX_m, fSlX_t, fSlX_m, fSlX_b, fSlX_l, fIs_n, fIs_i, fIs_b, fIs_s, fIs_l, fIs_t, fIs_m, fIs_bl, fLen_t, fLen_l, fLen_m, fLen_b, fLen_scr, fIsi_c, fEqD_c, fEqD_mm, fEqD_bm, fEqD_bb, fEqD_dm, fEq_ss, fInt_i, fInt_b, fTuple_m, fTuple_b, fTuple_t, fTuple_l, fList_m, fList_b, fList_t, fList_l, f2I_c, fRepr_c, fRepr_m, fRepr_b, fStr_c, Bool.not_true, Bool.not_false, true_and, netT, Road.dt, reduceIte, Bool.false_eq_true, decide_true, decide_false, tupK, lstK, dNext_c, dBreak_c, dCont_c, dSeq_c, dDrop_c, dRet_c, retK_d, retK_m, retK_r, dRetN_c, dIfS_c, iteS_t, iteS_f, dSet_c, setK_d, setK_m, setK_s, setK_r, dAsg_c, asgK_d, asgK_m, dFz_c, dNever_c, dRaise_c, dC_c, dOp_c, dUn_c, dTst_c, tstK_c, dTru_c, truK_n, truK_b, truK_i, truK_t, truK_l, truK_m, truK_bl, dNot_c, dAnd_c, andK_t, andK_f, dOr_c, orK_t, orK_f, dAndV_c, andV_t, andV_f, dOrV_c, orV_t, orV_f, dNotV_c, dIf_c, iteE_t, iteE_f, dChain_c, chK_t, chK_f, dNil_c, dCons_c, dCB_c, dCall_c, dCall0_c, dTup_c, dLst_c, dFor_c, dLc_c, iTp_c, tpK_c, iLst_c, lsK_d, lsK_m, iSeq_c, sqK_d, sqK_m, sqK_b, dSl_c, dNo_c, dPt_c, ptK_c, dYes_c, dBack_k, backK_c, dTupRg_c, dLstRg_c, dRg1_c, dRg2_c, rg1K_c, rg2K_c, tupRg_c, lstRg_c, dDict0_c, dDict1_c, gdName_c, gdTup_c, gdCons_c, gdNil_c, dApp_c, appK_c, apK_d, apK_m, dVar_c, varK_d, varK_m, varK_b, varK_s, varK_sc, varK_r, dNew_c, varK_mo, varK_bo, setK_mo, retK_mo, dDIn_c, dinK_i, dinK_s, dDGet_c, dDGet1_c, isBo_c, dget1K_i, dDPut_c, dputV_d, dputK_i, val_mo, dOwn0_c, dDispV_c, dispK_i, fRepT_c, fIsB_c, dM0_c, dM1_c, isStr_c, fQ0_c, fQ1_c, fSplit_c, fLenS_c, iEnSD_c, dSetdIf_c, setdB_f, enSK_m, enSK_d, dOrT_c, dAndT_c, orTK_n, dCallK_c, dCallK0_c, dCallD_c, dCallD0_c, dSaid_c, toldK_d, toldK_m, iRg1_c, rgK_c, iRg2_c, rgK2_c, iEnT_c, enK_c, iZp_c, zpK_tt, zpK_mm, zpK_ll, zpK_lm, zpK_ml, dPar_c, parK_im, parK_nm, parK_sm, parK_dd, parK_md]
            by_cases ha : a < (xs.length : Int)
            · rw [decide_eq_true ha]
              obtain ⟨m, rfl⟩ := Int.eq_ofNat_of_zero_le a0
              have hm : m < xs.length := by omega
              have em : xs[m]? = some xs[m] := List.getElem?_eq_getElem hm
              try simp only [startD, iEn, cvs, cv, vS, Sl.dat, Sl.seq, Sl.sq, Sl.fz, dats, dSetI, dAug, wipeD, List.length_cons, List.length_nil, List.length_append, List.length_replicate, Nat.reduceAdd, Nat.reduceSub, Nat.zero_add, List.replicate_succ, List.replicate_zero, List.cons_append, List.nil_append, List.append_nil, List.set_cons_zero, List.set_cons_succ, List.set_nil, List.getElem?_cons_zero, List.getElem?_cons_succ, Option.getD_some, List.map_cons, List.map_nil, Option.bind_some, fI0_c, fI_c, fU_c, fAddX_i, fAddX_t, fAddX_s, fAddX_mm, fAddX_bm, fAddX_mb, fAddX_bb, fAddX_lm, fAddX_ll, fMulX_i, fMulX_m, fSlX_t, fSlX_m, fSlX_b, fSlX_l, fIs_n, fIs_i, fIs_b, fIs_s, fIs_l, fIs_t, fIs_m, fIs_bl, fLen_t, fLen_l, fLen_m, fLen_b, fLen_scr, fIsi_c, fEqD_c, fEqD_mm, fEqD_bm, fEqD_bb, fEqD_dm, fEq_ss, fInt_i, fInt_b, fTuple_m, fTuple_b, fTuple_t, fTuple_l, fList_m, fList_b, fList_t, fList_l, f2I_c, fRepr_c, fRepr_m, fRepr_b, fStr_c, Bool.not_true, Bool.not_false, true_and, netT, Road.dt, reduceIte, Bool.false_eq_true, decide_true, decide_false, tupK, lstK, dNext_c, dBreak_c, dCont_c, dSeq_c, dDrop_c, dRet_c, retK_d, retK_m, retK_r, dRetN_c, dIfS_c, iteS_t, iteS_f, dSet_c, setK_d, setK_m, setK_s, setK_r, dAsg_c, asgK_d, asgK_m, dFz_c, dNever_c, dRaise_c, dC_c, dOp_c, dUn_c, dTst_c, tstK_c, dTru_c, truK_n, truK_b, truK_i, truK_t, truK_l, truK_m, truK_bl, dNot_c, dAnd_c, andK_t, andK_f, dOr_c, orK_t, orK_f, dAndV_c, andV_t, andV_f, dOrV_c, orV_t, orV_f, dNotV_c, dIf_c, iteE_t, iteE_f, dChain_c, chK_t, chK_f, dNil_c, dCons_c, dCB_c, dCall_c, dCall0_c, dTup_c, dLst_c, dFor_c, dLc_c, iTp_c, tpK_c, iLst_c, lsK_d, lsK_m, iSeq_c, sqK_d, sqK_m, sqK_b, dSl_c, dNo_c, dPt_c, ptK_c, dYes_c, dBack_k, backK_c, dTupRg_c, dLstRg_c, dRg1_c, dRg2_c, rg1K_c, rg2K_c, tupRg_c, lstRg_c, dDict0_c, dDict1_c, gdName_c, gdTup_c, gdCons_c, gdNil_c, dApp_c, appK_c, apK_d, apK_m, dVar_c, varK_d, varK_m, varK_b, varK_s, varK_sc, varK_r, dNew_c, varK_mo, varK_bo, setK_mo, retK_mo, dDIn_c, dinK_i, dinK_s, dDGet_c, dDGet1_c, isBo_c, dget1K_i, dDPut_c, dputV_d, dputK_i, val_mo, dOwn0_c, dDispV_c, dispK_i, fRepT_c, fIsB_c, dM0_c, dM1_c, isStr_c, fQ0_c, fQ1_c, fSplit_c, fLenS_c, iEnSD_c, dSetdIf_c, setdB_f, enSK_m, enSK_d, dOrT_c, dAndT_c, orTK_n, dCallK_c, dCallK0_c, dCallD_c, dCallD0_c, dSaid_c, toldK_d, toldK_m, iRg1_c, rgK_c, iRg2_c, rgK2_c, iEnT_c, enK_c, iZp_c, zpK_tt, zpK_mm, zpK_ll, zpK_lm, zpK_ml, dPar_c, parK_im, parK_nm, parK_sm, parK_dd, parK_md]
              refine fIx_at em ?_
              rcases hx0 _ (List.getElem_mem hm) with e | ⟨i, e⟩ | ⟨zs, e⟩
              · rw [e]
                refine ⟨.inl rfl, ?_⟩
                rw [show isiD (tyD PyData.none) "int" = false from rfl]
                try simp only [startD, iEn, cvs, cv, vS, Sl.dat, Sl.seq, Sl.sq, Sl.fz, dats, dSetI, dAug, wipeD, List.length_cons, List.length_nil, List.length_append, List.length_replicate, Nat.reduceAdd, Nat.reduceSub, Nat.zero_add, List.replicate_succ, List.replicate_zero, List.cons_append, List.nil_append, List.append_nil, List.set_cons_zero, List.set_cons_succ, List.set_nil, List.getElem?_cons_zero, List.getElem?_cons_succ, Option.getD_some, List.map_cons, List.map_nil, Option.bind_some, fI0_c, fI_c, fU_c, fAddX_i, fAddX_t, fAddX_s, fAddX_mm, fAddX_bm, fAddX_mb, fAddX_bb, fAddX_lm, fAddX_ll, fMulX_i, fMulX_m, fSlX_t, fSlX_m, fSlX_b, fSlX_l, fIs_n, fIs_i, fIs_b, fIs_s, fIs_l, fIs_t, fIs_m, fIs_bl, fLen_t, fLen_l, fLen_m, fLen_b, fLen_scr, fIsi_c, fEqD_c, fEqD_mm, fEqD_bm, fEqD_bb, fEqD_dm, fEq_ss, fInt_i, fInt_b, fTuple_m, fTuple_b, fTuple_t, fTuple_l, fList_m, fList_b, fList_t, fList_l, f2I_c, fRepr_c, fRepr_m, fRepr_b, fStr_c, Bool.not_true, Bool.not_false, true_and, netT, Road.dt, reduceIte, Bool.false_eq_true, decide_true, decide_false, tupK, lstK, dNext_c, dBreak_c, dCont_c, dSeq_c, dDrop_c, dRet_c, retK_d, retK_m, retK_r, dRetN_c, dIfS_c, iteS_t, iteS_f, dSet_c, setK_d, setK_m, setK_s, setK_r, dAsg_c, asgK_d, asgK_m, dFz_c, dNever_c, dRaise_c, dC_c, dOp_c, dUn_c, dTst_c, tstK_c, dTru_c, truK_n, truK_b, truK_i, truK_t, truK_l, truK_m, truK_bl, dNot_c, dAnd_c, andK_t, andK_f, dOr_c, orK_t, orK_f, dAndV_c, andV_t, andV_f, dOrV_c, orV_t, orV_f, dNotV_c, dIf_c, iteE_t, iteE_f, dChain_c, chK_t, chK_f, dNil_c, dCons_c, dCB_c, dCall_c, dCall0_c, dTup_c, dLst_c, dFor_c, dLc_c, iTp_c, tpK_c, iLst_c, lsK_d, lsK_m, iSeq_c, sqK_d, sqK_m, sqK_b, dSl_c, dNo_c, dPt_c, ptK_c, dYes_c, dBack_k, backK_c, dTupRg_c, dLstRg_c, dRg1_c, dRg2_c, rg1K_c, rg2K_c, tupRg_c, lstRg_c, dDict0_c, dDict1_c, gdName_c, gdTup_c, gdCons_c, gdNil_c, dApp_c, appK_c, apK_d, apK_m, dVar_c, varK_d, varK_m, varK_b, varK_s, varK_sc, varK_r, dNew_c, varK_mo, varK_bo, setK_mo, retK_mo, dDIn_c, dinK_i, dinK_s, dDGet_c, dDGet1_c, isBo_c, dget1K_i, dDPut_c, dputV_d, dputK_i, val_mo, dOwn0_c, dDispV_c, dispK_i, fRepT_c, fIsB_c, dM0_c, dM1_c, isStr_c, fQ0_c, fQ1_c, fSplit_c, fLenS_c, iEnSD_c, dSetdIf_c, setdB_f, enSK_m, enSK_d, dOrT_c, dAndT_c, orTK_n, dCallK_c, dCallK0_c, dCallD_c, dCallD0_c, dSaid_c, toldK_d, toldK_m, iRg1_c, rgK_c, iRg2_c, rgK2_c, iEnT_c, enK_c, iZp_c, zpK_tt, zpK_mm, zpK_ll, zpK_lm, zpK_ml, dPar_c, parK_im, parK_nm, parK_sm, parK_dd, parK_md]
                try simp only [show ((0 : Nat) ≤ sizeLine) = True from eq_true (by decide), show ((1 : Nat) ≤ sizeLine) = True from eq_true (by decide), show ((2 : Nat) ≤ sizeLine) = True from eq_true (by decide), show ((3 : Nat) ≤ sizeLine) = True from eq_true (by decide), show ((4 : Nat) ≤ sizeLine) = True from eq_true (by decide), show ((5 : Nat) ≤ sizeLine) = True from eq_true (by decide), show ((6 : Nat) ≤ sizeLine) = True from eq_true (by decide), show ((7 : Nat) ≤ sizeLine) = True from eq_true (by decide), show ((8 : Nat) ≤ sizeLine) = True from eq_true (by decide), show ((9 : Nat) ≤ sizeLine) = True from eq_true (by decide), show ((10 : Nat) ≤ sizeLine) = True from eq_true (by decide), show ((11 : Nat) ≤ sizeLine) = True from eq_true (by decide), show ((12 : Nat) ≤ sizeLine) = True from eq_true (by decide), show ((13 : Nat) ≤ sizeLine) = True from eq_true (by decide), show ((14 : Nat) ≤ sizeLine) = True from eq_true (by decide), show ((15 : Nat) ≤ sizeLine) = True from eq_true (by decide), show ((16 : Nat) ≤ sizeLine) = True from eq_true (by decide), show ((17 : Nat) ≤ sizeLine) = True from eq_true (by decide), show ((18 : Nat) ≤ sizeLine) = True from eq_true (by decide), show ((19 : Nat) ≤ sizeLine) = True from eq_true (by decide), show ((20 : Nat) ≤ sizeLine) = True from eq_true (by decide), show ((21 : Nat) ≤ sizeLine) = True from eq_true (by decide), show ((22 : Nat) ≤ sizeLine) = True from eq_true (by decide), show ((23 : Nat) ≤ sizeLine) = True from eq_true (by decide), show ((24 : Nat) ≤ sizeLine) = True from eq_true (by decide), show ((25 : Nat) ≤ sizeLine) = True from eq_true (by decide), show ((26 : Nat) ≤ sizeLine) = True from eq_true (by decide), show ((27 : Nat) ≤ sizeLine) = True from eq_true (by decide), show ((28 : Nat) ≤ sizeLine) = True from eq_true (by decide), show ((29 : Nat) ≤ sizeLine) = True from eq_true (by decide), show ((30 : Nat) ≤ sizeLine) = True from eq_true (by decide), show ((31 : Nat) ≤ sizeLine) = True from eq_true (by decide), show ((32 : Nat) ≤ sizeLine) = True from eq_true (by decide), show ((33 : Nat) ≤ sizeLine) = True from eq_true (by decide), show ((34 : Nat) ≤ sizeLine) = True from eq_true (by decide), show ((35 : Nat) ≤ sizeLine) = True from eq_true (by decide), show ((36 : Nat) ≤ sizeLine) = True from eq_true (by decide), show ((37 : Nat) ≤ sizeLine) = True from eq_true (by decide), show ((38 : Nat) ≤ sizeLine) = True from eq_true (by decide), show ((39 : Nat) ≤ sizeLine) = True from eq_true (by decide), show ((40 : Nat) ≤ sizeLine) = True from eq_true (by decide), true_and]
                exact ⟨z1, z2, last⟩
              · have hi : PyData.int i ∈ xs := e ▸ List.getElem_mem hm
                rw [e]
                refine ⟨.inl rfl, ?_⟩
                rw [show isiD (tyD (PyData.int i)) "int" = true from rfl]
                try simp only [startD, iEn, cvs, cv, vS, Sl.dat, Sl.seq, Sl.sq, Sl.fz, dats, dSetI, dAug, wipeD, List.length_cons, List.length_nil, List.length_append, List.length_replicate, Nat.reduceAdd, Nat.reduceSub, Nat.zero_add, List.replicate_succ, List.replicate_zero, List.cons_append, List.nil_append, List.append_nil, List.set_cons_zero, List.set_cons_succ, List.set_nil, List.getElem?_cons_zero, List.getElem?_cons_succ, Option.getD_some, List.map_cons, List.map_nil, Option.bind_some, fI0_c, fI_c, fU_c, fAddX_i, fAddX_t, fAddX_s, fAddX_mm, fAddX_bm, fAddX_mb, fAddX_bb, fAddX_lm, fAddX_ll, fMulX_i, fMulX_m, fSlX_t, fSlX_m, fSlX_b, fSlX_l, fIs_n, fIs_i, fIs_b, fIs_s, fIs_l, fIs_t, fIs_m, fIs_bl, fLen_t, fLen_l, fLen_m, fLen_b, fLen_scr, fIsi_c, fEqD_c, fEqD_mm, fEqD_bm, fEqD_bb, fEqD_dm, fEq_ss, fInt_i, fInt_b, fTuple_m, fTuple_b, fTuple_t, fTuple_l, fList_m, fList_b, fList_t, fList_l, f2I_c, fRepr_c, fRepr_m, fRepr_b, fStr_c, Bool.not_true, Bool.not_false, true_and, netT, Road.dt, reduceIte, Bool.false_eq_true, decide_true, decide_false, tupK, lstK, dNext_c, dBreak_c, dCont_c, dSeq_c, dDrop_c, dRet_c, retK_d, retK_m, retK_r, dRetN_c, dIfS_c, iteS_t, iteS_f, dSet_c, setK_d, setK_m, setK_s, setK_r, dAsg_c, asgK_d, asgK_m, dFz_c, dNever_c, dRaise_c, dC_c, dOp_c, dUn_c, dTst_c, tstK_c, dTru_c, truK_n, truK_b, truK_i, truK_t, truK_l, truK_m, truK_bl, dNot_c, dAnd_c, andK_t, andK_f, dOr_c, orK_t, orK_f, dAndV_c, andV_t, andV_f, dOrV_c, orV_t, orV_f, dNotV_c, dIf_c, iteE_t, iteE_f, dChain_c, chK_t, chK_f, dNil_c, dCons_c, dCB_c, dCall_c, dCall0_c, dTup_c, dLst_c, dFor_c, dLc_c, iTp_c, tpK_c, iLst_c, lsK_d, lsK_m, iSeq_c, sqK_d, sqK_m, sqK_b, dSl_c, dNo_c, dPt_c, ptK_c, dYes_c, dBack_k, backK_c, dTupRg_c, dLstRg_c, dRg1_c, dRg2_c, rg1K_c, rg2K_c, tupRg_c, lstRg_c, dDict0_c, dDict1_c, gdName_c, gdTup_c, gdCons_c, gdNil_c, dApp_c, appK_c, apK_d, apK_m, dVar_c, varK_d, varK_m, varK_b, varK_s, varK_sc, varK_r, dNew_c, varK_mo, varK_bo, setK_mo, retK_mo, dDIn_c, dinK_i, dinK_s, dDGet_c, dDGet1_c, isBo_c, dget1K_i, dDPut_c, dputV_d, dputK_i, val_mo, dOwn0_c, dDispV_c, dispK_i, fRepT_c, fIsB_c, dM0_c, dM1_c, isStr_c, fQ0_c, fQ1_c, fSplit_c, fLenS_c, iEnSD_c, dSetdIf_c, setdB_f, enSK_m, enSK_d, dOrT_c, dAndT_c, orTK_n, dCallK_c, dCallK0_c, dCallD_c, dCallD0_c, dSaid_c, toldK_d, toldK_m, iRg1_c, rgK_c, iRg2_c, rgK2_c, iEnT_c, enK_c, iZp_c, zpK_tt, zpK_mm, zpK_ll, zpK_lm, zpK_ml, dPar_c, parK_im, parK_nm, parK_sm, parK_dd, parK_md]
                refine fIx_at em ?_
                rw [e]
                try simp only [startD, iEn, cvs, cv, vS, Sl.dat, Sl.seq, Sl.sq, Sl.fz, dats, dSetI, dAug, wipeD, List.length_cons, List.length_nil, List.length_append, List.length_replicate, Nat.reduceAdd, Nat.reduceSub, Nat.zero_add, List.replicate_succ, List.replicate_zero, List.cons_append, List.nil_append, List.append_nil, List.set_cons_zero, List.set_cons_succ, List.set_nil, List.getElem?_cons_zero, List.getElem?_cons_succ, Option.getD_some, List.map_cons, List.map_nil, Option.bind_some, fI0_c, fI_c, fU_c, fAddX_i, fAddX_t, fAddX_s, fAddX_mm, fAddX_bm, fAddX_mb, fAddX_bb, fAddX_lm, fAddX_ll, fMulX_i, fMulX_m, fSlX_t, fSlX_m, fSlX_b, fSlX_l, fIs_n, fIs_i, fIs_b, fIs_s, fIs_l, fIs_t, fIs_m, fIs_bl, fLen_t, fLen_l, fLen_m, fLen_b, fLen_scr, fIsi_c, fEqD_c, fEqD_mm, fEqD_bm, fEqD_bb, fEqD_dm, fEq_ss, fInt_i, fInt_b, fTuple_m, fTuple_b, fTuple_t, fTuple_l, fList_m, fList_b, fList_t, fList_l, f2I_c, fRepr_c, fRepr_m, fRepr_b, fStr_c, Bool.not_true, Bool.not_false, true_and, netT, Road.dt, reduceIte, Bool.false_eq_true, decide_true, decide_false, tupK, lstK, dNext_c, dBreak_c, dCont_c, dSeq_c, dDrop_c, dRet_c, retK_d, retK_m, retK_r, dRetN_c, dIfS_c, iteS_t, iteS_f, dSet_c, setK_d, setK_m, setK_s, setK_r, dAsg_c, asgK_d, asgK_m, dFz_c, dNever_c, dRaise_c, dC_c, dOp_c, dUn_c, dTst_c, tstK_c, dTru_c, truK_n, truK_b, truK_i, truK_t, truK_l, truK_m, truK_bl, dNot_c, dAnd_c, andK_t, andK_f, dOr_c, orK_t, orK_f, dAndV_c, andV_t, andV_f, dOrV_c, orV_t, orV_f, dNotV_c, dIf_c, iteE_t, iteE_f, dChain_c, chK_t, chK_f, dNil_c, dCons_c, dCB_c, dCall_c, dCall0_c, dTup_c, dLst_c, dFor_c, dLc_c, iTp_c, tpK_c, iLst_c, lsK_d, lsK_m, iSeq_c, sqK_d, sqK_m, sqK_b, dSl_c, dNo_c, dPt_c, ptK_c, dYes_c, dBack_k, backK_c, dTupRg_c, dLstRg_c, dRg1_c, dRg2_c, rg1K_c, rg2K_c, tupRg_c, lstRg_c, dDict0_c, dDict1_c, gdName_c, gdTup_c, gdCons_c, gdNil_c, dApp_c, appK_c, apK_d, apK_m, dVar_c, varK_d, varK_m, varK_b, varK_s, varK_sc, varK_r, dNew_c, varK_mo, varK_bo, setK_mo, retK_mo, dDIn_c, dinK_i, dinK_s, dDGet_c, dDGet1_c, isBo_c, dget1K_i, dDPut_c, dputV_d, dputK_i, val_mo, dOwn0_c, dDispV_c, dispK_i, fRepT_c, fIsB_c, dM0_c, dM1_c, isStr_c, fQ0_c, fQ1_c, fSplit_c, fLenS_c, iEnSD_c, dSetdIf_c, setdB_f, enSK_m, enSK_d, dOrT_c, dAndT_c, orTK_n, dCallK_c, dCallK0_c, dCallD_c, dCallD0_c, dSaid_c, toldK_d, toldK_m, iRg1_c, rgK_c, iRg2_c, rgK2_c, iEnT_c, enK_c, iZp_c, zpK_tt, zpK_mm, zpK_ll, zpK_lm, zpK_ml, dPar_c, parK_im, parK_nm, parK_sm, parK_dd, parK_md]
                try simp only [show ((0 : Nat) ≤ sizeLine) = True from eq_true (by decide), show ((1 : Nat) ≤ sizeLine) = True from eq_true (by decide), show ((2 : Nat) ≤ sizeLine) = True from eq_true (by decide), show ((3 : Nat) ≤ sizeLine) = True from eq_true (by decide), show ((4 : Nat) ≤ sizeLine) = True from eq_true (by decide), show ((5 : Nat) ≤ sizeLine) = True from eq_true (by decide), show ((6 : Nat) ≤ sizeLine) = True from eq_true (by decide), show ((7 : Nat) ≤ sizeLine) = True from eq_true (by decide), show ((8 : Nat) ≤ sizeLine) = True from eq_true (by decide), show ((9 : Nat) ≤ sizeLine) = True from eq_true (by decide), show ((10 : Nat) ≤ sizeLine) = True from eq_true (by decide), show ((11 : Nat) ≤ sizeLine) = True from eq_true (by decide), show ((12 : Nat) ≤ sizeLine) = True from eq_true (by decide), show ((13 : Nat) ≤ sizeLine) = True from eq_true (by decide), show ((14 : Nat) ≤ sizeLine) = True from eq_true (by decide), show ((15 : Nat) ≤ sizeLine) = True from eq_true (by decide), show ((16 : Nat) ≤ sizeLine) = True from eq_true (by decide), show ((17 : Nat) ≤ sizeLine) = True from eq_true (by decide), show ((18 : Nat) ≤ sizeLine) = True from eq_true (by decide), show ((19 : Nat) ≤ sizeLine) = True from eq_true (by decide), show ((20 : Nat) ≤ sizeLine) = True from eq_true (by decide), show ((21 : Nat) ≤ sizeLine) = True from eq_true (by decide), show ((22 : Nat) ≤ sizeLine) = True from eq_true (by decide), show ((23 : Nat) ≤ sizeLine) = True from eq_true (by decide), show ((24 : Nat) ≤ sizeLine) = True from eq_true (by decide), show ((25 : Nat) ≤ sizeLine) = True from eq_true (by decide), show ((26 : Nat) ≤ sizeLine) = True from eq_true (by decide), show ((27 : Nat) ≤ sizeLine) = True from eq_true (by decide), show ((28 : Nat) ≤ sizeLine) = True from eq_true (by decide), show ((29 : Nat) ≤ sizeLine) = True from eq_true (by decide), show ((30 : Nat) ≤ sizeLine) = True from eq_true (by decide), show ((31 : Nat) ≤ sizeLine) = True from eq_true (by decide), show ((32 : Nat) ≤ sizeLine) = True from eq_true (by decide), show ((33 : Nat) ≤ sizeLine) = True from eq_true (by decide), show ((34 : Nat) ≤ sizeLine) = True from eq_true (by decide), show ((35 : Nat) ≤ sizeLine) = True from eq_true (by decide), show ((36 : Nat) ≤ sizeLine) = True from eq_true (by decide), show ((37 : Nat) ≤ sizeLine) = True from eq_true (by decide), show ((38 : Nat) ≤ sizeLine) = True from eq_true (by decide), show ((39 : Nat) ≤ sizeLine) = True from eq_true (by decide), show ((40 : Nat) ≤ sizeLine) = True from eq_true (by decide), true_and]
                refine ⟨2, rfl, by decide, by decide, fun e0 f0 f1 => ?_⟩
                refine fIx_pick f0 f1 fun d hd => ?_
                simp only [List.mem_cons, List.not_mem_nil, or_false] at hd
                rcases hd with rfl | rfl
                · try simp only [startD, iEn, cvs, cv, vS, Sl.dat, Sl.seq, Sl.sq, Sl.fz, dats, dSetI, dAug, wipeD, List.length_cons, List.length_nil, List.length_append, List.length_replicate, Nat.reduceAdd, Nat.reduceSub, Nat.zero_add, List.replicate_succ, List.replicate_zero, List.cons_append, List.nil_append, List.append_nil, List.set_cons_zero, List.set_cons_succ, List.set_nil, List.getElem?_cons_zero, List.getElem?_cons_succ, Option.getD_some, List.map_cons, List.map_nil, Option.bind_some, fI0_c, fI_c, fU_c, fAddX_i, fAddX_t, fAddX_s, fAddX_mm, fAddX_bm, fAddX_mb, fAddX_bb, fAddX_lm, fAddX_ll, fMulX_i, fMulX_m, fSlX_t, fSlX_m, fSlX_b, fSlX_l, fIs_n, fIs_i, fIs_b, fIs_s, fIs_l, fIs_t, fIs_m, fIs_bl, fLen_t, fLen_l, fLen_m, fLen_b, fLen_scr, fIsi_c, fEqD_c, fEqD_mm, fEqD_bm, fEqD_bb, fEqD_dm, fEq_ss, fInt_i, fInt_b, fTuple_m, fTuple_b, fTuple_t, fTuple_l, fList_m, fList_b, fList_t, fList_l, f2I_c, fRepr_c, fRepr_m, fRepr_b, fStr_c, Bool.not_true, Bool.not_false, true_and, netT, Road.dt, reduceIte, Bool.false_eq_true, decide_true, decide_false, tupK, lstK, dNext_c, dBreak_c, dCont_c, dSeq_c, dDrop_c, dRet_c, retK_d, retK_m, retK_r, dRetN_c, dIfS_c, iteS_t, iteS_f, dSet_c, setK_d, setK_m, setK_s, setK_r, dAsg_c, asgK_d, asgK_m, dFz_c, dNever_c, dRaise_c, dC_c, dOp_c, dUn_c, dTst_c, tstK_c, dTru_c, truK_n, truK_b, truK_i, truK_t, truK_l, truK_m, truK_bl, dNot_c, dAnd_c, andK_t, andK_f, dOr_c, orK_t, orK_f, dAndV_c, andV_t, andV_f, dOrV_c, orV_t, orV_f, dNotV_c, dIf_c, iteE_t, iteE_f, dChain_c, chK_t, chK_f, dNil_c, dCons_c, dCB_c, dCall_c, dCall0_c, dTup_c, dLst_c, dFor_c, dLc_c, iTp_c, tpK_c, iLst_c, lsK_d, lsK_m, iSeq_c, sqK_d, sqK_m, sqK_b, dSl_c, dNo_c, dPt_c, ptK_c, dYes_c, dBack_k, backK_c, dTupRg_c, dLstRg_c, dRg1_c, dRg2_c, rg1K_c, rg2K_c, tupRg_c, lstRg_c, dDict0_c, dDict1_c, gdName_c, gdTup_c, gdCons_c, gdNil_c, dApp_c, appK_c, apK_d, apK_m, dVar_c, varK_d, varK_m, varK_b, varK_s, varK_sc, varK_r, dNew_c, varK_mo, varK_bo, setK_mo, retK_mo, dDIn_c, dinK_i, dinK_s, dDGet_c, dDGet1_c, isBo_c, dget1K_i, dDPut_c, dputV_d, dputK_i, val_mo, dOwn0_c, dDispV_c, dispK_i, fRepT_c, fIsB_c, dM0_c, dM1_c, isStr_c, fQ0_c, fQ1_c, fSplit_c, fLenS_c, iEnSD_c, dSetdIf_c, setdB_f, enSK_m, enSK_d, dOrT_c, dAndT_c, orTK_n, dCallK_c, dCallK0_c, dCallD_c, dCallD0_c, dSaid_c, toldK_d, toldK_m, iRg1_c, rgK_c, iRg2_c, rgK2_c, iEnT_c, enK_c, iZp_c, zpK_tt, zpK_mm, zpK_ll, zpK_lm, zpK_ml, dPar_c, parK_im, parK_nm, parK_sm, parK_dd, parK_md]
                  try simp only [show ((0 : Nat) ≤ sizeLine) = True from eq_true (by decide), show ((1 : Nat) ≤ sizeLine) = True from eq_true (by decide), show ((2 : Nat) ≤ sizeLine) = True from eq_true (by decide), show ((3 : Nat) ≤ sizeLine) = True from eq_true (by decide), show ((4 : Nat) ≤ sizeLine) = True from eq_true (by decide), show ((5 : Nat) ≤ sizeLine) = True from eq_true (by decide), show ((6 : Nat) ≤ sizeLine) = True from eq_true (by decide), show ((7 : Nat) ≤ sizeLine) = True from eq_true (by decide), show ((8 : Nat) ≤ sizeLine) = True from eq_true (by decide), show ((9 : Nat) ≤ sizeLine) = True from eq_true (by decide), show ((10 : Nat) ≤ sizeLine) = True from eq_true (by decide), show ((11 : Nat) ≤ sizeLine) = True from eq_true (by decide), show ((12 : Nat) ≤ sizeLine) = True from eq_true (by decide), show ((13 : Nat) ≤ sizeLine) = True from eq_true (by decide), show ((14 : Nat) ≤ sizeLine) = True from eq_true (by decide), show ((15 : Nat) ≤ sizeLine) = True from eq_true (by decide), show ((16 : Nat) ≤ sizeLine) = True from eq_true (by decide), show ((17 : Nat) ≤ sizeLine) = True from eq_true (by decide), show ((18 : Nat) ≤ sizeLine) = True from eq_true (by decide), show ((19 : Nat) ≤ sizeLine) = True from eq_true (by decide), show ((20 : Nat) ≤ sizeLine) = True from eq_true (by decide), show ((21 : Nat) ≤ sizeLine) = True from eq_true (by decide), show ((22 : Nat) ≤ sizeLine) = True from eq_true (by decide), show ((23 : Nat) ≤ sizeLine) = True from eq_true (by decide), show ((24 : Nat) ≤ sizeLine) = True from eq_true (by decide), show ((25 : Nat) ≤ sizeLine) = True from eq_true (by decide), show ((26 : Nat) ≤ sizeLine) = True from eq_true (by decide), show ((27 : Nat) ≤ sizeLine) = True from eq_true (by decide), show ((28 : Nat) ≤ sizeLine) = True from eq_true (by decide), show ((29 : Nat) ≤ sizeLine) = True from eq_true (by decide), show ((30 : Nat) ≤ sizeLine) = True from eq_true (by decide), show ((31 : Nat) ≤ sizeLine) = True from eq_true (by decide), show ((32 : Nat) ≤ sizeLine) = True from eq_true (by decide), show ((33 : Nat) ≤ sizeLine) = True from eq_true (by decide), show ((34 : Nat) ≤ sizeLine) = True from eq_true (by decide), show ((35 : Nat) ≤ sizeLine) = True from eq_true (by decide), show ((36 : Nat) ≤ sizeLine) = True from eq_true (by decide), show ((37 : Nat) ≤ sizeLine) = True from eq_true (by decide), show ((38 : Nat) ≤ sizeLine) = True from eq_true (by decide), show ((39 : Nat) ≤ sizeLine) = True from eq_true (by decide), show ((40 : Nat) ≤ sizeLine) = True from eq_true (by decide), true_and]
                  exact ⟨z1, z2, put _ _ _ _ _ (.inr (.inr ⟨i, hi, .inl rfl⟩))⟩
                · try simp only [startD, iEn, cvs, cv, vS, Sl.dat, Sl.seq, Sl.sq, Sl.fz, dats, dSetI, dAug, wipeD, List.length_cons, List.length_nil, List.length_append, List.length_replicate, Nat.reduceAdd, Nat.reduceSub, Nat.zero_add, List.replicate_succ, List.replicate_zero, List.cons_append, List.nil_append, List.append_nil, List.set_cons_zero, List.set_cons_succ, List.set_nil, List.getElem?_cons_zero, List.getElem?_cons_succ, Option.getD_some, List.map_cons, List.map_nil, Option.bind_some, fI0_c, fI_c, fU_c, fAddX_i, fAddX_t, fAddX_s, fAddX_mm, fAddX_bm, fAddX_mb, fAddX_bb, fAddX_lm, fAddX_ll, fMulX_i, fMulX_m, fSlX_t, fSlX_m, fSlX_b, fSlX_l, fIs_n, fIs_i, fIs_b, fIs_s, fIs_l, fIs_t, fIs_m, fIs_bl, fLen_t, fLen_l, fLen_m, fLen_b, fLen_scr, fIsi_c, fEqD_c, fEqD_mm, fEqD_bm, fEqD_bb, fEqD_dm, fEq_ss, fInt_i, fInt_b, fTuple_m, fTuple_b, fTuple_t, fTuple_l, fList_m, fList_b, fList_t, fList_l, f2I_c, fRepr_c, fRepr_m, fRepr_b, fStr_c, Bool.not_true, Bool.not_false, true_and, netT, Road.dt, reduceIte, Bool.false_eq_true, decide_true, decide_false, tupK, lstK, dNext_c, dBreak_c, dCont_c, dSeq_c, dDrop_c, dRet_c, retK_d, retK_m, retK_r, dRetN_c, dIfS_c, iteS_t, iteS_f, dSet_c, setK_d, setK_m, setK_s, setK_r, dAsg_c, asgK_d, asgK_m, dFz_c, dNever_c, dRaise_c, dC_c, dOp_c, dUn_c, dTst_c, tstK_c, dTru_c, truK_n, truK_b, truK_i, truK_t, truK_l, truK_m, truK_bl, dNot_c, dAnd_c, andK_t, andK_f, dOr_c, orK_t, orK_f, dAndV_c, andV_t, andV_f, dOrV_c, orV_t, orV_f, dNotV_c, dIf_c, iteE_t, iteE_f, dChain_c, chK_t, chK_f, dNil_c, dCons_c, dCB_c, dCall_c, dCall0_c, dTup_c, dLst_c, dFor_c, dLc_c, iTp_c, tpK_c, iLst_c, lsK_d, lsK_m, iSeq_c, sqK_d, sqK_m, sqK_b, dSl_c, dNo_c, dPt_c, ptK_c, dYes_c, dBack_k, backK_c, dTupRg_c, dLstRg_c, dRg1_c, dRg2_c, rg1K_c, rg2K_c, tupRg_c, lstRg_c, dDict0_c, dDict1_c, gdName_c, gdTup_c, gdCons_c, gdNil_c, dApp_c, appK_c, apK_d, apK_m, dVar_c, varK_d, varK_m, varK_b, varK_s, varK_sc, varK_r, dNew_c, varK_mo, varK_bo, setK_mo, retK_mo, dDIn_c, dinK_i, dinK_s, dDGet_c, dDGet1_c, isBo_c, dget1K_i, dDPut_c, dputV_d, dputK_i, val_mo, dOwn0_c, dDispV_c, dispK_i, fRepT_c, fIsB_c, dM0_c, dM1_c, isStr_c, fQ0_c, fQ1_c, fSplit_c, fLenS_c, iEnSD_c, dSetdIf_c, setdB_f, enSK_m, enSK_d, dOrT_c, dAndT_c, orTK_n, dCallK_c, dCallK0_c, dCallD_c, dCallD0_c, dSaid_c, toldK_d, toldK_m, iRg1_c, rgK_c, iRg2_c, rgK2_c, iEnT_c, enK_c, iZp_c, zpK_tt, zpK_mm, zpK_ll, zpK_lm, zpK_ml, dPar_c, parK_im, parK_nm, parK_sm, parK_dd, parK_md]
                  try simp only [show ((0 : Nat) ≤ sizeLine) = True from eq_true (by decide), show ((1 : Nat) ≤ sizeLine) = True from eq_true (by decide), show ((2 : Nat) ≤ sizeLine) = True from eq_true (by decide), show ((3 : Nat) ≤ sizeLine) = True from eq_true (by decide), show ((4 : Nat) ≤ sizeLine) = True from eq_true (by decide), show ((5 : Nat) ≤ sizeLine) = True from eq_true (by decide), show ((6 : Nat) ≤ sizeLine) = True from eq_true (by decide), show ((7 : Nat) ≤ sizeLine) = True from eq_true (by decide), show ((8 : Nat) ≤ sizeLine) = True from eq_true (by decide), show ((9 : Nat) ≤ sizeLine) = True from eq_true (by decide), show ((10 : Nat) ≤ sizeLine) = True from eq_true (by decide), show ((11 : Nat) ≤ sizeLine) = True from eq_true (by decide), show ((12 : Nat) ≤ sizeLine) = True from eq_true (by decide), show ((13 : Nat) ≤ sizeLine) = True from eq_true (by decide), show ((14 : Nat) ≤ sizeLine) = True from eq_true (by decide), show ((15 : Nat) ≤ sizeLine) = True from eq_true (by decide), show ((16 : Nat) ≤ sizeLine) = True from eq_true (by decide), show ((17 : Nat) ≤ sizeLine) = True from eq_true (by decide), show ((18 : Nat) ≤ sizeLine) = True from eq_true (by decide), show ((19 : Nat) ≤ sizeLine) = True from eq_true (by decide), show ((20 : Nat) ≤ sizeLine) = True from eq_true (by decide), show ((21 : Nat) ≤ sizeLine) = True from eq_true (by decide), show ((22 : Nat) ≤ sizeLine) = True from eq_true (by decide), show ((23 : Nat) ≤ sizeLine) = True from eq_true (by decide), show ((24 : Nat) ≤ sizeLine) = True from eq_true (by decide), show ((25 : Nat) ≤ sizeLine) = True from eq_true (by decide), show ((26 : Nat) ≤ sizeLine) = True from eq_true (by decide), show ((27 : Nat) ≤ sizeLine) = True from eq_true (by decide), show ((28 : Nat) ≤ sizeLine) = True from eq_true (by decide), show ((29 : Nat) ≤ sizeLine) = True from eq_true (by decide), show ((30 : Nat) ≤ sizeLine) = True from eq_true (by decide), show ((31 : Nat) ≤ sizeLine) = True from eq_true (by decide), show ((32 : Nat) ≤ sizeLine) = True from eq_true (by decide), show ((33 : Nat) ≤ sizeLine) = True from eq_true (by decide), show ((34 : Nat) ≤ sizeLine) = True from eq_true (by decide), show ((35 : Nat) ≤ sizeLine) = True from eq_true (by decide), show ((36 : Nat) ≤ sizeLine) = True from eq_true (by decide), show ((37 : Nat) ≤ sizeLine) = True from eq_true (by decide), show ((38 : Nat) ≤ sizeLine) = True from eq_true (by decide), show ((39 : Nat) ≤ sizeLine) = True from eq_true (by decide), show ((40 : Nat) ≤ sizeLine) = True from eq_true (by decide), true_and]
                  exact ⟨z1, z2, put _ _ _ _ _ (.inr (.inr ⟨i, hi, .inr rfl⟩))⟩
              · rw [e]
                refine ⟨.inl rfl, ?_⟩
                rw [show isiD (tyD (PyData.tuple zs)) "int" = false from rfl]
                try simp only [startD, iEn, cvs, cv, vS, Sl.dat, Sl.seq, Sl.sq, Sl.fz, dats, dSetI, dAug, wipeD, List.length_cons, List.length_nil, List.length_append, List.length_replicate, Nat.reduceAdd, Nat.reduceSub, Nat.zero_add, List.replicate_succ, List.replicate_zero, List.cons_append, List.nil_append, List.append_nil, List.set_cons_zero, List.set_cons_succ, List.set_nil, List.getElem?_cons_zero, List.getElem?_cons_succ, Option.getD_some, List.map_cons, List.map_nil, Option.bind_some, fI0_c, fI_c, fU_c, fAddX_i, fAddX_t, fAddX_s, fAddX_mm, fAddX_bm, fAddX_mb, fAddX_bb, fAddX_lm, fAddX_ll, fMulX_i, fMulX_m, fSlX_t, fSlX_m, fSlX_b, fSlX_l, fIs_n, fIs_i, fIs_b, fIs_s, fIs_l, fIs_t, fIs_m, fIs_bl, fLen_t, fLen_l, fLen_m, fLen_b, fLen_scr, fIsi_c, fEqD_c, fEqD_mm, fEqD_bm, fEqD_bb, fEqD_dm, fEq_ss, fInt_i, fInt_b, fTuple_m, fTuple_b, fTuple_t, fTuple_l, fList_m, fList_b, fList_t, fList_l, f2I_c, fRepr_c, fRepr_m, fRepr_b, fStr_c, Bool.not_true, Bool.not_false, true_and, netT, Road.dt, reduceIte, Bool.false_eq_true, decide_true, decide_false, tupK, lstK, dNext_c, dBreak_c, dCont_c, dSeq_c, dDrop_c, dRet_c, retK_d, retK_m, retK_r, dRetN_c, dIfS_c, iteS_t, iteS_f, dSet_c, setK_d, setK_m, setK_s, setK_r, dAsg_c, asgK_d, asgK_m, dFz_c, dNever_c, dRaise_c, dC_c, dOp_c, dUn_c, dTst_c, tstK_c, dTru_c, truK_n, truK_b, truK_i, truK_t, truK_l, truK_m, truK_bl, dNot_c, dAnd_c, andK_t, andK_f, dOr_c, orK_t, orK_f, dAndV_c, andV_t, andV_f, dOrV_c, orV_t, orV_f, dNotV_c, dIf_c, iteE_t, iteE_f, dChain_c, chK_t, chK_f, dNil_c, dCons_c, dCB_c, dCall_c, dCall0_c, dTup_c, dLst_c, dFor_c, dLc_c, iTp_c, tpK_c, iLst_c, lsK_d, lsK_m, iSeq_c, sqK_d, sqK_m, sqK_b, dSl_c, dNo_c, dPt_c, ptK_c, dYes_c, dBack_k, backK_c, dTupRg_c, dLstRg_c, dRg1_c, dRg2_c, rg1K_c, rg2K_c, tupRg_c, lstRg_c, dDict0_c, dDict1_c, gdName_c, gdTup_c, gdCons_c, gdNil_c, dApp_c, appK_c, apK_d, apK_m, dVar_c, varK_d, varK_m, varK_b, varK_s, varK_sc, varK_r, dNew_c, varK_mo, varK_bo, setK_mo, retK_mo, dDIn_c, dinK_i, dinK_s, dDGet_c, dDGet1_c, isBo_c, dget1K_i, dDPut_c, dputV_d, dputK_i, val_mo, dOwn0_c, dDispV_c, dispK_i, fRepT_c, fIsB_c, dM0_c, dM1_c, isStr_c, fQ0_c, fQ1_c, fSplit_c, fLenS_c, iEnSD_c, dSetdIf_c, setdB_f, enSK_m, enSK_d, dOrT_c, dAndT_c, orTK_n, dCallK_c, dCallK0_c, dCallD_c, dCallD0_c, dSaid_c, toldK_d, toldK_m, iRg1_c, rgK_c, iRg2_c, rgK2_c, iEnT_c, enK_c, iZp_c, zpK_tt, zpK_mm, zpK_ll, zpK_lm, zpK_ml, dPar_c, parK_im, parK_nm, parK_sm, parK_dd, parK_md]
                try simp only [show ((0 : Nat) ≤ sizeLine) = True from eq_true (by decide), show ((1 : Nat) ≤ sizeLine) = True from eq_true (by decide), show ((2 : Nat) ≤ sizeLine) = True from eq_true (by decide), show ((3 : Nat) ≤ sizeLine) = True from eq_true (by decide), show ((4 : Nat) ≤ sizeLine) = True from eq_true (by decide), show ((5 : Nat) ≤ sizeLine) = True from eq_true (by decide), show ((6 : Nat) ≤ sizeLine) = True from eq_true (by decide), show ((7 : Nat) ≤ sizeLine) = True from eq_true (by decide), show ((8 : Nat) ≤ sizeLine) = True from eq_true (by decide), show ((9 : Nat) ≤ sizeLine) = True from eq_true (by decide), show ((10 : Nat) ≤ sizeLine) = True from eq_true (by decide), show ((11 : Nat) ≤ sizeLine) = True from eq_true (by decide), show ((12 : Nat) ≤ sizeLine) = True from eq_true (by decide), show ((13 : Nat) ≤ sizeLine) = True from eq_true (by decide), show ((14 : Nat) ≤ sizeLine) = True from eq_true (by decide), show ((15 : Nat) ≤ sizeLine) = True from eq_true (by decide), show ((16 : Nat) ≤ sizeLine) = True from eq_true (by decide), show ((17 : Nat) ≤ sizeLine) = True from eq_true (by decide), show ((18 : Nat) ≤ sizeLine) = True from eq_true (by decide), show ((19 : Nat) ≤ sizeLine) = True from eq_true (by decide), show ((20 : Nat) ≤ sizeLine) = True from eq_true (by decide), show ((21 : Nat) ≤ sizeLine) = True from eq_true (by decide), show ((22 : Nat) ≤ sizeLine) = True from eq_true (by decide), show ((23 : Nat) ≤ sizeLine) = True from eq_true (by decide), show ((24 : Nat) ≤ sizeLine) = True from eq_true (by decide), show ((25 : Nat) ≤ sizeLine) = True from eq_true (by decide), show ((26 : Nat) ≤ sizeLine) = True from eq_true (by decide), show ((27 : Nat) ≤ sizeLine) = True from eq_true (by decide), show ((28 : Nat) ≤ sizeLine) = True from eq_true (by decide), show ((29 : Nat) ≤ sizeLine) = True from eq_true (by decide), show ((30 : Nat) ≤ sizeLine) = True from eq_true (by decide), show ((31 : Nat) ≤ sizeLine) = True from eq_true (by decide), show ((32 : Nat) ≤ sizeLine) = True from eq_true (by decide), show ((33 : Nat) ≤ sizeLine) = True from eq_true (by decide), show ((34 : Nat) ≤ sizeLine) = True from eq_true (by decide), show ((35 : Nat) ≤ sizeLine) = True from eq_true (by decide), show ((36 : Nat) ≤ sizeLine) = True from eq_true (by decide), show ((37 : Nat) ≤ sizeLine) = True from eq_true (by decide), show ((38 : Nat) ≤ sizeLine) = True from eq_true (by decide), show ((39 : Nat) ≤ sizeLine) = True from eq_true (by decide), show ((40 : Nat) ≤ sizeLine) = True from eq_true (by decide), true_and]
                exact ⟨z1, z2, last⟩
            · rw [decide_eq_false ha]
              try simp only [startD, iEn, cvs, cv, vS, Sl.dat, Sl.seq, Sl.sq, Sl.fz, dats, dSetI, dAug, wipeD, List.length_cons, List.length_nil, List.length_append, List.length_replicate, Nat.reduceAdd, Nat.reduceSub, Nat.zero_add, List.replicate_succ, List.replicate_zero, List.cons_append, List.nil_append, List.append_nil, List.set_cons_zero, List.set_cons_succ, List.set_nil, List.getElem?_cons_zero, List.getElem?_cons_succ, Option.getD_some, List.map_cons, List.map_nil, Option.bind_some, fI0_c, fI_c, fU_c, fAddX_i, fAddX_t, fAddX_s, fAddX_mm, fAddX_bm, fAddX_mb, fAddX_bb, fAddX_lm, fAddX_ll, fMulX_i, fMulX_m, fSlX_t, fSlX_m, fSlX_b, fSlX_l, fIs_n, fIs_i, fIs_b, fIs_s, fIs_l, fIs_t, fIs_m, fIs_bl, fLen_t, fLen_l, fLen_m, fLen_b, fLen_scr, fIsi_c, fEqD_c, fEqD_mm, fEqD_bm, fEqD_bb, fEqD_dm, fEq_ss, fInt_i, fInt_b, fTuple_m, fTuple_b, fTuple_t, fTuple_l, fList_m, fList_b, fList_t, fList_l, f2I_c, fRepr_c, fRepr_m, fRepr_b, fStr_c, Bool.not_true, Bool.not_false, true_and, netT, Road.dt, reduceIte, Bool.false_eq_true, decide_true, decide_false, tupK, lstK, dNext_c, dBreak_c, dCont_c, dSeq_c, dDrop_c, dRet_c, retK_d, retK_m, retK_r, dRetN_c, dIfS_c, iteS_t, iteS_f, dSet_c, setK_d, setK_m, setK_s, setK_r, dAsg_c, asgK_d, asgK_m, dFz_c, dNever_c, dRaise_c, dC_c, dOp_c, dUn_c, dTst_c, tstK_c, dTru_c, truK_n, truK_b, truK_i, truK_t, truK_l, truK_m, truK_bl, dNot_c, dAnd_c, andK_t, andK_f, dOr_c, orK_t, orK_f, dAndV_c, andV_t, andV_f, dOrV_c, orV_t, orV_f, dNotV_c, dIf_c, iteE_t, iteE_f, dChain_c, chK_t, chK_f, dNil_c, dCons_c, dCB_c, dCall_c, dCall0_c, dTup_c, dLst_c, dFor_c, dLc_c, iTp_c, tpK_c, iLst_c, lsK_d, lsK_m, iSeq_c, sqK_d, sqK_m, sqK_b, dSl_c, dNo_c, dPt_c, ptK_c, dYes_c, dBack_k, backK_c, dTupRg_c, dLstRg_c, dRg1_c, dRg2_c, rg1K_c, rg2K_c, tupRg_c, lstRg_c, dDict0_c, dDict1_c, gdName_c, gdTup_c, gdCons_c, gdNil_c, dApp_c, appK_c, apK_d, apK_m, dVar_c, varK_d, varK_m, varK_b, varK_s, varK_sc, varK_r, dNew_c, varK_mo, varK_bo, setK_mo, retK_mo, dDIn_c, dinK_i, dinK_s, dDGet_c, dDGet1_c, isBo_c, dget1K_i, dDPut_c, dputV_d, dputK_i, val_mo, dOwn0_c, dDispV_c, dispK_i, fRepT_c, fIsB_c, dM0_c, dM1_c, isStr_c, fQ0_c, fQ1_c, fSplit_c, fLenS_c, iEnSD_c, dSetdIf_c, setdB_f, enSK_m, enSK_d, dOrT_c, dAndT_c, orTK_n, dCallK_c, dCallK0_c, dCallD_c, dCallD0_c, dSaid_c, toldK_d, toldK_m, iRg1_c, rgK_c, iRg2_c, rgK2_c, iEnT_c, enK_c, iZp_c, zpK_tt, zpK_mm, zpK_ll, zpK_lm, zpK_ml, dPar_c, parK_im, parK_nm, parK_sm, parK_dd, parK_md]
              try simp only [show ((0 : Nat) ≤ sizeLine) = True from eq_true (by decide), show ((1 : Nat) ≤ sizeLine) = True from eq_true (by decide), show ((2 : Nat) ≤ sizeLine) = True from eq_true (by decide), show ((3 : Nat) ≤ sizeLine) = True from eq_true (by decide), show ((4 : Nat) ≤ sizeLine) = True from eq_true (by decide), show ((5 : Nat) ≤ sizeLine) = True from eq_true (by decide), show ((6 : Nat) ≤ sizeLine) = True from eq_true (by decide), show ((7 : Nat) ≤ sizeLine) = True from eq_true (by decide), show ((8 : Nat) ≤ sizeLine) = True from eq_true (by decide), show ((9 : Nat) ≤ sizeLine) = True from eq_true (by decide), show ((10 : Nat) ≤ sizeLine) = True from eq_true (by decide), show ((11 : Nat) ≤ sizeLine) = True from eq_true (by decide), show ((12 : Nat) ≤ sizeLine) = True from eq_true (by decide), show ((13 : Nat) ≤ sizeLine) = True from eq_true (by decide), show ((14 : Nat) ≤ sizeLine) = True from eq_true (by decide), show ((15 : Nat) ≤ sizeLine) = True from eq_true (by decide), show ((16 : Nat) ≤ sizeLine) = True from eq_true (by decide), show ((17 : Nat) ≤ sizeLine) = True from eq_true (by decide), show ((18 : Nat) ≤ sizeLine) = True from eq_true (by decide), show ((19 : Nat) ≤ sizeLine) = True from eq_true (by decide), show ((20 : Nat) ≤ sizeLine) = True from eq_true (by decide), show ((21 : Nat) ≤ sizeLine) = True from eq_true (by decide), show ((22 : Nat) ≤ sizeLine) = True from eq_true (by decide), show ((23 : Nat) ≤ sizeLine) = True from eq_true (by decide), show ((24 : Nat) ≤ sizeLine) = True from eq_true (by decide), show ((25 : Nat) ≤ sizeLine) = True from eq_true (by decide), show ((26 : Nat) ≤ sizeLine) = True from eq_true (by decide), show ((27 : Nat) ≤ sizeLine) = True from eq_true (by decide), show ((28 : Nat) ≤ sizeLine) = True from eq_true (by decide), show ((29 : Nat) ≤ sizeLine) = True from eq_true (by decide), show ((30 : Nat) ≤ sizeLine) = True from eq_true (by decide), show ((31 : Nat) ≤ sizeLine) = True from eq_true (by decide), show ((32 : Nat) ≤ sizeLine) = True from eq_true (by decide), show ((33 : Nat) ≤ sizeLine) = True from eq_true (by decide), show ((34 : Nat) ≤ sizeLine) = True from eq_true (by decide), show ((35 : Nat) ≤ sizeLine) = True from eq_true (by decide), show ((36 : Nat) ≤ sizeLine) = True from eq_true (by decide), show ((37 : Nat) ≤ sizeLine) = True from eq_true (by decide), show ((38 : Nat) ≤ sizeLine) = True from eq_true (by decide), show ((39 : Nat) ≤ sizeLine) = True from eq_true (by decide), show ((40 : Nat) ≤ sizeLine) = True from eq_true (by decide), true_and]
              exact ⟨z1, z2, last⟩
    · try simp only [startD, iEn, cvs, cv, vS, Sl.dat, Sl.seq, Sl.sq, Sl.fz, dats, dSetI, dAug, wipeD, List.length_cons, List.length_nil, List.length_append, List.length_replicate, Nat.reduceAdd, Nat.reduceSub, Nat.zero_add, List.replicate_succ, List.replicate_zero, List.cons_append, List.nil_append, List.append_nil, List.set_cons_zero, List.set_cons_succ, List.set_nil, List.getElem?_cons_zero, List.getElem?_cons_succ, Option.getD_some, List.map_cons, List.map_nil, Option.bind_some, fI0_c, fI_c, fU_c, fAddX_i, fAddX_t, fAddX_s, fAddX_mm, fAddX_bm, fAddX_mb, fAddX_bb, fAddX_lm, fAddX_ll, fMulX_i, fMulX_m, fSlX_t, fSlX_m, fSlX_b, fSlX_l, fIs_n, fIs_i, fIs_b, fIs_s, fIs_l, fIs_t, fIs_m, fIs_bl, fLen_t, fLen_l, fLen_m, fLen_b, fLen_scr, fIsi_c, fEqD_c, fEqD_mm, fEqD_bm, fEqD_bb, fEqD_dm, fEq_ss, fInt_i, fInt_b, fTuple_m, fTuple_b, fTuple_t, fTuple_l, fList_m, fList_b, fList_t, fList_l, f2I_c, fRepr_c, fRepr_m, fRepr_b, fStr_c, Bool.not_true, Bool.not_false, true_and, netT, Road.dt, reduceIte, Bool.false_eq_true, decide_true, decide_false, tupK, lstK, dNext_c, dBreak_c, dCont_c, dSeq_c, dDrop_c, dRet_c, retK_d, retK_m, retK_r, dRetN_c, dIfS_c, iteS_t, iteS_f, dSet_c, setK_d, setK_m, setK_s, setK_r, dAsg_c, asgK_d, asgK_m, dFz_c, dNever_c, dRaise_c, dC_c, dOp_c, dUn_c, dTst_c, tstK_c, dTru_c, truK_n, truK_b, truK_i, truK_t, truK_l, truK_m, truK_bl, dNot_c, dAnd_c, andK_t, andK_f, dOr_c, orK_t, orK_f, dAndV_c, andV_t, andV_f, dOrV_c, orV_t, orV_f, dNotV_c, dIf_c, iteE_t, iteE_f, dChain_c, chK_t, chK_f, dNil_c, dCons_c, dCB_c, dCall_c, dCall0_c, dTup_c, dLst_c, dFor_c, dLc_c, iTp_c, tpK_c, iLst_c, lsK_d, lsK_m, iSeq_c, sqK_d, sqK_m, sqK_b, dSl_c, dNo_c, dPt_c, ptK_c, dYes_c, dBack_k, backK_c, dTupRg_c, dLstRg_c, dRg1_c, dRg2_c, rg1K_c, rg2K_c, tupRg_c, lstRg_c, dDict0_c, dDict1_c, gdName_c, gdTup_c, gdCons_c, gdNil_c, dApp_c, appK_c, apK_d, apK_m, dVar_c, varK_d, varK_m, varK_b, varK_s, varK_sc, varK_r, dNew_c, varK_mo, varK_bo, setK_mo, retK_mo, dDIn_c, dinK_i, dinK_s, dDGet_c, dDGet1_c, isBo_c, dget1K_i, dDPut_c, dputV_d, dputK_i, val_mo, dOwn0_c, dDispV_c, dispK_i, fRepT_c, fIsB_c, dM0_c, dM1_c, isStr_c, fQ0_c, fQ1_c, fSplit_c, fLenS_c, iEnSD_c, dSetdIf_c, setdB_f, enSK_m, enSK_d, dOrT_c, dAndT_c, orTK_n, dCallK_c, dCallK0_c, dCallD_c, dCallD0_c, dSaid_c, toldK_d, toldK_m, iRg1_c, rgK_c, iRg2_c, rgK2_c, iEnT_c, enK_c, iZp_c, zpK_tt, zpK_mm, zpK_ll, zpK_lm, zpK_ml, dPar_c, parK_im, parK_nm, parK_sm, parK_dd, parK_md]
      rw [show decide ((0 : Int) < 0) = false from rfl]
      try simp only [startD, iEn, cvs, cv, vS, Sl.dat, Sl.seq, Sl.sq, Sl.fz, dats, dSetI, dAug, wipeD, List.length_cons, List.length_nil, List.length_append, List.length_replicate, Nat.reduceAdd, Nat.reduceSub, Nat.zero_add, List.replicate_succ, List.replicate_zero, List.cons_append, List.nil_append, List.append_nil, List.set_cons_zero, List.set_cons_succ, List.set_nil, List.getElem?_cons_zero, List.getElem?_cons_succ, Option.getD_some, List.map_cons, List.map_nil, Option.bind_some, fI0_c, fI_c, fU_c, fAddX_i, fAddX_t, fAddX_s, fAddX_mm, fAddX_bm, fAddX_mb, fAddX_bb, fAddX_lm, fAddX_ll, fMulX_i, fMulX_m, fSlX_t, fSlX_m, fSlX_b, fSlX_l, fIs_n, fIs_i, fIs_b, fIs_s, fIs_l, fIs_t, fIs_m, fIs_bl, fLen_t, fLen_l, fLen_m, fLen_b, fLen_scr, fIsi_c, fEqD_c, fEqD_mm, fEqD_bm, fEqD_bb, fEqD_dm, fEq_ss, fInt_i, fInt_b, fTuple_m, fTuple_b, fTuple_t, fTuple_l, fList_m, fList_b, fList_t, fList_l, f2I_c, fRepr_c, fRepr_m, fRepr_b, fStr_c, Bool.not_true, Bool.not_false, true_and, netT, Road.dt, reduceIte, Bool.false_eq_true, decide_true, decide_false, tupK, lstK, dNext_c, dBreak_c, dCont_c, dSeq_c, dDrop_c, dRet_c, retK_d, retK_m, retK_r, dRetN_c, dIfS_c, iteS_t, iteS_f, dSet_c, setK_d, setK_m, setK_s, setK_r, dAsg_c, asgK_d, asgK_m, dFz_c, dNever_c, dRaise_c, dC_c, dOp_c, dUn_c, dTst_c, tstK_c, dTru_c, truK_n, truK_b, truK_i, truK_t, truK_l, truK_m, truK_bl, dNot_c, dAnd_c, andK_t, andK_f, dOr_c, orK_t, orK_f, dAndV_c, andV_t, andV_f, dOrV_c, orV_t, orV_f, dNotV_c, dIf_c, iteE_t, iteE_f, dChain_c, chK_t, chK_f, dNil_c, dCons_c, dCB_c, dCall_c, dCall0_c, dTup_c, dLst_c, dFor_c, dLc_c, iTp_c, tpK_c, iLst_c, lsK_d, lsK_m, iSeq_c, sqK_d, sqK_m, sqK_b, dSl_c, dNo_c, dPt_c, ptK_c, dYes_c, dBack_k, backK_c, dTupRg_c, dLstRg_c, dRg1_c, dRg2_c, rg1K_c, rg2K_c, tupRg_c, lstRg_c, dDict0_c, dDict1_c, gdName_c, gdTup_c, gdCons_c, gdNil_c, dApp_c, appK_c, apK_d, apK_m, dVar_c, varK_d, varK_m, varK_b, varK_s, varK_sc, varK_r, dNew_c, varK_mo, varK_bo, setK_mo, retK_mo, dDIn_c, dinK_i, dinK_s, dDGet_c, dDGet1_c, isBo_c, dget1K_i, dDPut_c, dputV_d, dputK_i, val_mo, dOwn0_c, dDispV_c, dispK_i, fRepT_c, fIsB_c, dM0_c, dM1_c, isStr_c, fQ0_c, fQ1_c, fSplit_c, fLenS_c, iEnSD_c, dSetdIf_c, setdB_f, enSK_m, enSK_d, dOrT_c, dAndT_c, orTK_n, dCallK_c, dCallK0_c, dCallD_c, dCallD0_c, dSaid_c, toldK_d, toldK_m, iRg1_c, rgK_c, iRg2_c, rgK2_c, iEnT_c, enK_c, iZp_c, zpK_tt, zpK_mm, zpK_ll, zpK_lm, zpK_ml, dPar_c, parK_im, parK_nm, parK_sm, parK_dd, parK_md]
      exact hNN
end
end Wy

namespace Wy
open PySem PySem.Spec PyProof.Rows L2 Dl
abbrev sMarks : Stmt := topS 31
abbrev sWord : Stmt := topS 32
abbrev sSaid : Stmt := topS 33
/-- the classes of refusals: C i the i-th of the law's list; what isinstance tells of errors of some of them -/
structure Cl (K : PySem.W.Frag) (mg : Str → Option Value) (C : Nat → Addr) (cT cN cW : Addr) : Prop where
  g0 : mg "NoNet" = some (.ref (C 0))
  g1 : mg "NoPlace" = some (.ref (C 1))
  g2 : mg "NoRoad" = some (.ref (C 2))
  g3 : mg "NoMany" = some (.ref (C 3))
  g4 : mg "NoShut" = some (.ref (C 4))
  g5 : mg "NoCost" = some (.ref (C 5))
  g6 : mg "NoNumber" = some (.ref (C 6))
  g7 : mg "NoWay" = some (.ref (C 7))
  g8 : mg "NoWord" = some (.ref (C 8))
  g9 : mg "NoTime" = some (.ref (C 9))
  g10 : mg "NoChange" = some (.ref (C 10))
  g11 : mg "NoPaper" = some (.ref (C 11))
  g12 : mg "NoLine" = some (.ref (C 12))
  g13 : mg "NoText" = some (.ref (C 13))
  g14 : mg "NoAsk" = some (.ref (C 14))
  g15 : mg "Nothing" = some (.ref (C 15))
  g16 : mg "TooMany" = some (.ref (C 16))
  c7 : ExcC K (C 7)
  k7_0 : PySem.W.kitOne K (.ref (C 7)) (.ref (C 0)) = some false
  k7_1 : PySem.W.kitOne K (.ref (C 7)) (.ref (C 1)) = some false
  k7_2 : PySem.W.kitOne K (.ref (C 7)) (.ref (C 2)) = some false
  k7_3 : PySem.W.kitOne K (.ref (C 7)) (.ref (C 3)) = some false
  k7_4 : PySem.W.kitOne K (.ref (C 7)) (.ref (C 4)) = some false
  k7_5 : PySem.W.kitOne K (.ref (C 7)) (.ref (C 5)) = some false
  k7_6 : PySem.W.kitOne K (.ref (C 7)) (.ref (C 6)) = some false
  k7_7 : PySem.W.kitOne K (.ref (C 7)) (.ref (C 7)) = some true
  k7_8 : PySem.W.kitOne K (.ref (C 7)) (.ref (C 8)) = some false
  k7_9 : PySem.W.kitOne K (.ref (C 7)) (.ref (C 9)) = some false
  k7_10 : PySem.W.kitOne K (.ref (C 7)) (.ref (C 10)) = some false
  k7_11 : PySem.W.kitOne K (.ref (C 7)) (.ref (C 11)) = some false
  k7_12 : PySem.W.kitOne K (.ref (C 7)) (.ref (C 12)) = some false
  k7_13 : PySem.W.kitOne K (.ref (C 7)) (.ref (C 13)) = some false
  k7_14 : PySem.W.kitOne K (.ref (C 7)) (.ref (C 14)) = some false
  k7_15 : PySem.W.kitOne K (.ref (C 7)) (.ref (C 15)) = some false
  k7_16 : PySem.W.kitOne K (.ref (C 7)) (.ref (C 16)) = some false
  kT7 : PySem.W.kitOne K (.ref (C 7)) (.ref cT) = some true
  kN7 : PySem.W.kitOne K (.ref (C 7)) (.ref cN) = some false
  kV7 : PySem.W.kitOne K (.ref (C 7)) (.type "ValueError") = some true
  eW7 : PySem.W.exmOne K (.ref (C 7)) (.ref cW) = some true
  gT : mg "NoThing" = some (.ref cT)
  gN : mg "NotNow" = some (.ref cN)
  gW : mg "WayError" = some (.ref cW)
theorem scMarks : FnScope ["_law_e", "_law_marks_here"] ["_law_e"] (defScope sMarks) := ⟨rfl, rfl, rfl, by decide +kernel, rfl, by decide +kernel, by decide +kernel⟩
theorem scWord : FnScope ["_law_e", "_law_marks_here", "_law_at", "_law_words", "_law_word_here"] ["_law_e"] (defScope sWord) := ⟨rfl, rfl, rfl, by decide +kernel, rfl, by decide +kernel, by decide +kernel⟩
def marksOf (m : Nat) : List V := (List.range 17).map fun i => .bl (i == m)
def wordOf (m : Nat) : Str := (["net", "place", "road", "many", "shut", "cost", "number", "way", "word", "time", "change", "paper", "line"] : List Str).getD m ""
def spMarks (m : Nat) : Addr → List V → Hp → VK → Prop := fun a vs H Q => vs = [.ref a] ∧ ∀ H' l, Same H H' → H' l = some (.lst (marksOf m)) → Q (.ref l) H'
def spWord (m : Nat) : Addr → List V → Hp → VK → Prop := fun a vs H Q => vs = [.ref a] ∧ ∀ H' t, Same H H' → H t = none → H' t = some (.tup [.str (wordOf m)]) → Q (.ref t) H'
section
variable {P : Program} {w : World} {K : PySem.W.Frag} {mg : Str → Option Value} {base : Heap} {C : Nat → Addr} {cT cN cW : Addr}
theorem ok_marks7 {f : Addr} {fd : FuncData} {k : Nat} (Z : Cl K mg C cT cN cW) (mi : mg "isinstance" = none) (D : Df K mg "_law_marks" sMarks ["_law_e"] f fd) : FnE P w K mg base (k + 1) f fd ["_law_e"] (C 7) (spMarks 7) := by
  refine fnE_of D.F scMarks (fun a vs H Q h => ?_) (fun cdv A outer s H vs Q p hr hz h => ?_)
  · obtain ⟨rfl, _⟩ := h
    rfl
  · obtain ⟨rfl, q⟩ := h
    have hp : ∀ {G : Value → Shared → Prop}, p ∈ ((L2H.cxH CX0 P w K mg base ["_law_e", "_law_marks_here"] "_law_marks" (defScope sMarks) f cdv A outer s H E0 p).wish G).pn := List.mem_singleton.mpr rfl
    obtain ⟨a, oe⟩ := p
    refine ⟨_, (pss_cons (ps_set (i := 1) scMarks.nd rfl (.inl rfl) (pe_lst (pa_cons (pe_callB (call_isP Z.c7 hp hz) (by rfl) mi (by decide +kernel) (pa_cons (pv 0) (pa_cons (pe_glob (v := .ref (C 0)) (by rfl) Z.g0 rfl) pa_nil))) (pa_cons (pe_callB (call_isP Z.c7 hp hz) (by rfl) mi (by decide +kernel) (pa_cons (pv 0) (pa_cons (pe_glob (v := .ref (C 1)) (by rfl) Z.g1 rfl) pa_nil))) (pa_cons (pe_callB (call_isP Z.c7 hp hz) (by rfl) mi (by decide +kernel) (pa_cons (pv 0) (pa_cons (pe_glob (v := .ref (C 2)) (by rfl) Z.g2 rfl) pa_nil))) (pa_cons (pe_callB (call_isP Z.c7 hp hz) (by rfl) mi (by decide +kernel) (pa_cons (pv 0) (pa_cons (pe_glob (v := .ref (C 3)) (by rfl) Z.g3 rfl) pa_nil))) pa_nil))))))
    (pss_cons (ps_set (i := 1) scMarks.nd rfl (.inl rfl) (pe_op op_cat (pv 1) (pe_lst (pa_cons (pe_callB (call_isP Z.c7 hp hz) (by rfl) mi (by decide +kernel) (pa_cons (pv 0) (pa_cons (pe_glob (v := .ref (C 4)) (by rfl) Z.g4 rfl) pa_nil))) (pa_cons (pe_callB (call_isP Z.c7 hp hz) (by rfl) mi (by decide +kernel) (pa_cons (pv 0) (pa_cons (pe_glob (v := .ref (C 5)) (by rfl) Z.g5 rfl) pa_nil))) (pa_cons (pe_callB (call_isP Z.c7 hp hz) (by rfl) mi (by decide +kernel) (pa_cons (pv 0) (pa_cons (pe_glob (v := .ref (C 6)) (by rfl) Z.g6 rfl) pa_nil))) (pa_cons (pe_callB (call_isP Z.c7 hp hz) (by rfl) mi (by decide +kernel) (pa_cons (pv 0) (pa_cons (pe_glob (v := .ref (C 7)) (by rfl) Z.g7 rfl) pa_nil))) pa_nil)))))))
    (pss_cons (ps_set (i := 1) scMarks.nd rfl (.inl rfl) (pe_op op_cat (pv 1) (pe_lst (pa_cons (pe_callB (call_isP Z.c7 hp hz) (by rfl) mi (by decide +kernel) (pa_cons (pv 0) (pa_cons (pe_glob (v := .ref (C 8)) (by rfl) Z.g8 rfl) pa_nil))) (pa_cons (pe_callB (call_isP Z.c7 hp hz) (by rfl) mi (by decide +kernel) (pa_cons (pv 0) (pa_cons (pe_glob (v := .ref (C 9)) (by rfl) Z.g9 rfl) pa_nil))) (pa_cons (pe_callB (call_isP Z.c7 hp hz) (by rfl) mi (by decide +kernel) (pa_cons (pv 0) (pa_cons (pe_glob (v := .ref (C 10)) (by rfl) Z.g10 rfl) pa_nil))) (pa_cons (pe_callB (call_isP Z.c7 hp hz) (by rfl) mi (by decide +kernel) (pa_cons (pv 0) (pa_cons (pe_glob (v := .ref (C 11)) (by rfl) Z.g11 rfl) pa_nil))) pa_nil)))))))
    (pss_cons (ps_set (i := 1) scMarks.nd rfl (.inl rfl) (pe_op op_cat (pv 1) (pe_lst (pa_cons (pe_callB (call_isP Z.c7 hp hz) (by rfl) mi (by decide +kernel) (pa_cons (pv 0) (pa_cons (pe_glob (v := .ref (C 12)) (by rfl) Z.g12 rfl) pa_nil))) (pa_cons (pe_callB (call_isP Z.c7 hp hz) (by rfl) mi (by decide +kernel) (pa_cons (pv 0) (pa_cons (pe_glob (v := .ref (C 13)) (by rfl) Z.g13 rfl) pa_nil))) (pa_cons (pe_callB (call_isP Z.c7 hp hz) (by rfl) mi (by decide +kernel) (pa_cons (pv 0) (pa_cons (pe_glob (v := .ref (C 14)) (by rfl) Z.g14 rfl) pa_nil))) (pa_cons (pe_callB (call_isP Z.c7 hp hz) (by rfl) mi (by decide +kernel) (pa_cons (pv 0) (pa_cons (pe_glob (v := .ref (C 15)) (by rfl) Z.g15 rfl) pa_nil))) pa_nil)))))))
    (pss_one (ps_ret (pe_op op_cat (pv 1) (pe_lst (pa_cons (pe_callB (call_isP Z.c7 hp hz) (by rfl) mi (by decide +kernel) (pa_cons (pv 0) (pa_cons (pe_glob (v := .ref (C 16)) (by rfl) Z.g16 rfl) pa_nil))) pa_nil))))))))), ?_⟩
    refine ⟨.ref a, rfl, .ref (C 0), .ref (C 0), _, rfl, (fun u r => r), Z.k7_0, .ref a, rfl, .ref (C 1), .ref (C 1), _, rfl, (fun u r => r), Z.k7_1, .ref a, rfl, .ref (C 2), .ref (C 2), _, rfl, (fun u r => r), Z.k7_2, .ref a, rfl, .ref (C 3), .ref (C 3), _, rfl, (fun u r => r), Z.k7_3, by show 4 ≤ sizeLine; decide, fun l1 n1 => ?_⟩
    refine ⟨.ref l1, rfl, .ref a, rfl, .ref (C 4), .ref (C 4), _, rfl, (fun u r => r), Z.k7_4, .ref a, rfl, .ref (C 5), .ref (C 5), _, rfl, (fun u r => r), Z.k7_5, .ref a, rfl, .ref (C 6), .ref (C 6), _, rfl, (fun u r => r), Z.k7_6, .ref a, rfl, .ref (C 7), .ref (C 7), _, rfl, (fun u r => r), Z.k7_7, by show 4 ≤ sizeLine; decide, fun l2 n2 => ⟨l1, l2, _, _, rfl, rfl, same_new n2 _ _ upd_same, upd_same, by show 8 ≤ sizeLine; decide, fun l3 n3 => ?_⟩⟩
    refine ⟨.ref l3, rfl, .ref a, rfl, .ref (C 8), .ref (C 8), _, rfl, (fun u r => r), Z.k7_8, .ref a, rfl, .ref (C 9), .ref (C 9), _, rfl, (fun u r => r), Z.k7_9, .ref a, rfl, .ref (C 10), .ref (C 10), _, rfl, (fun u r => r), Z.k7_10, .ref a, rfl, .ref (C 11), .ref (C 11), _, rfl, (fun u r => r), Z.k7_11, by show 4 ≤ sizeLine; decide, fun l4 n4 => ⟨l3, l4, _, _, rfl, rfl, same_new n4 _ _ upd_same, upd_same, by show 12 ≤ sizeLine; decide, fun l5 n5 => ?_⟩⟩
    refine ⟨.ref l5, rfl, .ref a, rfl, .ref (C 12), .ref (C 12), _, rfl, (fun u r => r), Z.k7_12, .ref a, rfl, .ref (C 13), .ref (C 13), _, rfl, (fun u r => r), Z.k7_13, .ref a, rfl, .ref (C 14), .ref (C 14), _, rfl, (fun u r => r), Z.k7_14, .ref a, rfl, .ref (C 15), .ref (C 15), _, rfl, (fun u r => r), Z.k7_15, by show 4 ≤ sizeLine; decide, fun l6 n6 => ⟨l5, l6, _, _, rfl, rfl, same_new n6 _ _ upd_same, upd_same, by show 16 ≤ sizeLine; decide, fun l7 n7 => ?_⟩⟩
    refine ⟨.ref l7, rfl, .ref a, rfl, .ref (C 16), .ref (C 16), _, rfl, (fun u r => r), Z.k7_16, by show 1 ≤ sizeLine; decide, fun l8 n8 => ⟨l7, l8, _, _, rfl, rfl, same_new n8 _ _ upd_same, upd_same, by show 17 ≤ sizeLine; decide, fun l9 n9 => ?_⟩⟩
    refine q _ l9 (fun b o e => ?_) upd_same
    exact same_new n9 _ _ (same_new n8 _ _ (same_new n7 _ _ (same_new n6 _ _ (same_new n5 _ _ (same_new n4 _ _ (same_new n3 _ _ (same_new n2 _ _ (same_new n1 _ _ e))))))))
theorem ok_word7 {f fM : Addr} {fd dM : FuncData} {k : Nat} (Z : Cl K mg C cT cN cW) (mi : mg "isinstance" = none) (mV : mg "ValueError" = none) (DM : Df K mg "_law_marks" sMarks ["_law_e"] fM dM) (D : Df K mg "_law_word" sWord ["_law_e"] f fd) : FnE P w K mg base (k + 2) f fd ["_law_e"] (C 7) (spWord 7) := by
  have GM : FnE P w K mg base (k + 1) fM dM ["_law_e"] (C 7) (spMarks 7) := ok_marks7 Z mi DM
  refine fnE_of D.F scWord (fun a vs H Q h => ?_) (fun cdv A outer s H vs Q p hr hz h => ?_)
  · obtain ⟨rfl, _⟩ := h
    rfl
  · obtain ⟨rfl, q⟩ := h
    have hp : ∀ {G : Value → Shared → Prop}, p ∈ ((L2H.cxH CX0 P w K mg base ["_law_e", "_law_marks_here", "_law_at", "_law_words", "_law_word_here"] "_law_word" (defScope sWord) f cdv A outer s H E0 p).wish G).pn := List.mem_singleton.mpr rfl
    have hu : (A.deeper (envOfC "_law_word" (defScope sWord) s.heap.objs.size f cdv)).units + 64 < cLine := by
      have := hr.un
      omega
    obtain ⟨a, oe⟩ := p
    refine ⟨_, (pss_cons (ps_set (i := 1) scWord.nd rfl (.inl rfl) (pe_callE GM hr hp hz (by rfl) DM.g DM.F.kp DM.b (pa_cons (pv 0) pa_nil)))
    (pss_cons (ps_if (PW.pt (pw_or (pt_cmpR op_ne (pe_bm PySem.F.plainAttrs_list PySem.F.slot_list_count PySem.F.type_list_count mt_countV (pv 1) (pa_cons pe_bl pa_nil)) pe_int (nomark _)) (pw_or1 (pt_not (pt_val (pe_callB (call_isP Z.c7 hp hz) (by rfl) mi (by decide +kernel) (pa_cons (pv 0) (pa_cons (pe_bltn (v := .ty "ValueError") (by rfl) mV (by decide +kernel) rfl) pa_nil)))))))) pss_never pss_nil)
    (pss_cons (ps_set (i := 2) scWord.nd rfl (.inl rfl) (pe_bm PySem.F.plainAttrs_list PySem.F.slot_list_index PySem.F.type_list_index mt_index (pv 1) (pa_cons pe_bl pa_nil)))
    (pss_cons (ps_if (pt_cmpR (op_neD hu) (pe_lst (pa_cons (pe_callB (call_isP Z.c7 hp hz) (by rfl) mi (by decide +kernel) (pa_cons (pv 0) (pa_cons (pe_glob (v := .ref cT) (by rfl) Z.gT rfl) pa_nil))) (pa_cons (pe_callB (call_isP Z.c7 hp hz) (by rfl) mi (by decide +kernel) (pa_cons (pv 0) (pa_cons (pe_glob (v := .ref cN) (by rfl) Z.gN rfl) pa_nil))) pa_nil))) (pe_lst (pa_cons (pe_cmpR op_lt (pv 2) pe_int (nomark _)) (pa_cons (pe_cmpR op_gt (pv 2) pe_int (nomark _)) pa_nil))) (nomark _)) pss_never pss_nil)
    (pss_cons (ps_set (i := 3) scWord.nd rfl (.inl rfl) (pe_lst (pa_cons pe_str (pa_cons pe_str (pa_cons pe_str (pa_cons pe_str (pa_cons pe_str (pa_cons pe_str (pa_cons pe_str (pa_cons pe_str (pa_cons pe_str (pa_cons pe_str (pa_cons pe_str (pa_cons pe_str (pa_cons pe_str pa_nil)))))))))))))))
    (pss_cons (ps_set (i := 4) scWord.nd rfl (.inl rfl) (pe_ix ix_list (pe_op op_cat (pv 3) (pe_lst (pa_cons pe_str (pa_cons pe_str (pa_cons pe_str (pa_cons pe_str pa_nil)))))) (pv 2) (fun _ _ => rfl)))
    (pss_cons (ps_if (pt_cmpR op_eq (pv 4) pe_str (nomark _)) pss_never pss_nil)
    (pss_cons (ps_if (pt_cmpR op_eq (pv 4) pe_str (nomark _)) pss_never pss_nil)
    (pss_one (ps_ret (pe_ifExp (pt_cmpR op_eq (pv 4) pe_str (nomark _)) pe_no (pe_tup (pa_cons (pv 4) pa_nil))))))))))))), ?_⟩
    refine ⟨.ref a, rfl, rfl, fun H1 l1 s1 e1 => ?_⟩
    refine ⟨.ref l1, rfl, .inl ⟨rfl, _, SqL.of e1⟩, l1, _, .bl true, rfl, rfl, SqL.of e1, rfl, rfl, rfl, _, rfl, iteF ?_⟩
    refine ⟨.ref a, rfl, .ty "ValueError", .type "ValueError", _, rfl, (fun u r => r), Z.kV7, _, rfl, iteF ?_⟩
    refine ⟨.ref l1, rfl, .inl ⟨rfl, _, SqL.of e1⟩, l1, _, .bl true, 7, .bl true, rfl, rfl, SqL.of e1, rfl, rfl, rfl, rfl, fun j z' hm hz' => ?_, ?_⟩
    · match j, hm with
      | 0, _ => cases hz'; rfl
      | 1, _ => cases hz'; rfl
      | 2, _ => cases hz'; rfl
      | 3, _ => cases hz'; rfl
      | 4, _ => cases hz'; rfl
      | 5, _ => cases hz'; rfl
      | 6, _ => cases hz'; rfl
      | n + 7, h => exact absurd h (by omega)
    · refine ⟨.ref a, rfl, .ref cT, .ref cT, _, rfl, (fun u r => r), Z.kT7, .ref a, rfl, .ref cN, .ref cN, _, rfl, (fun u r => r), Z.kN7, by show 2 ≤ sizeLine; decide, fun l2 n2 => ?_⟩
      refine ⟨.int (7 : Nat), rfl, _, _, rfl, rfl, .int (7 : Nat), rfl, _, _, rfl, rfl, by show 2 ≤ sizeLine; decide, fun l3 n3 => ?_⟩
      refine ⟨.list [.bool true, .bool false], .list [.bool true, .bool false], .lst (SqL.of (same_new n3 _ _ upd_same)) (.cons (.bl true) (.cons (.bl false) .nil)), .lst (SqL.of upd_same) (.cons (.bl true) (.cons (.bl false) .nil)), by decide +kernel, by decide +kernel, _, rfl, ?_⟩
      rw [show PyData.eqv (.list [.bool true, .bool false]) (.list [.bool true, .bool false]) = true from by decide +kernel]
      refine iteF ?_
      refine ⟨by show 13 ≤ sizeLine; decide, fun l4 n4 => ?_⟩
      refine ⟨.ref l4, rfl, by show 4 ≤ sizeLine; decide, fun l5 n5 => ⟨l4, l5, _, _, rfl, rfl, same_new n5 _ _ upd_same, upd_same, by show 17 ≤ sizeLine; decide, fun l6 n6 => ?_⟩⟩
      refine ⟨.int (7 : Nat), rfl, l6, _, (7 : Nat), .str "way", rfl, rfl, SqL.of upd_same, rfl, ?_⟩
      refine ⟨.str "way", rfl, rfl, _, rfl, ?_⟩
      rw [show decide (V.str (Str.ofString "way") = V.str (Str.ofString "text")) = false from by decide +kernel]
      refine iteF ⟨.str "way", rfl, rfl, _, rfl, ?_⟩
      rw [show decide (V.str (Str.ofString "way") = V.str (Str.ofString "ask")) = false from by decide +kernel]
      refine iteF ⟨.str "way", rfl, rfl, _, rfl, ?_⟩
      rw [show decide (V.str (Str.ofString "way") = V.str (Str.ofString "more")) = false from by decide +kernel]
      refine iteF ⟨.str "way", rfl, by show 1 ≤ sizeLine; decide, fun t nt => ?_⟩
      refine q _ t (fun b o e => ?_) ?_ upd_same
      · exact same_new nt _ _ (same_new n6 _ _ (same_new n5 _ _ (same_new n4 _ _ (same_new n3 _ _ (same_new n2 _ _ (s1 _ _ e))))))
      · cases z : H t with
        | none => rfl
        | some o =>
          refine absurd (Eq.trans (Eq.symm ?_) nt) (fun (e : some o = none) => nomatch e)
          exact same_new n6 _ _ (same_new n5 _ _ (same_new n4 _ _ (same_new n3 _ _ (same_new n2 _ _ (s1 _ _ z)))))
/-- the word of each of these classes -/
def Words (P : Program) (w : World) (K : PySem.W.Frag) (mg : Str → Option Value) (base : Heap) (k : Nat) (f : Addr) (fd : FuncData) (C : Nat → Addr) (cW : Addr) : Prop := ∀ m ∈ [7], FnE P w K mg base k f fd ["_law_e"] (C m) (spWord m) ∧ PySem.W.exmOne K (.ref (C m)) (.ref cW) = some true
theorem ok_words {f fM : Addr} {fd dM : FuncData} {k : Nat} (Z : Cl K mg C cT cN cW) (mi : mg "isinstance" = none) (mV : mg "ValueError" = none) (DM : Df K mg "_law_marks" sMarks ["_law_e"] fM dM) (D : Df K mg "_law_word" sWord ["_law_e"] f fd) : Words P w K mg base (k + 2) f fd C cW := fun m hm => by
  simp only [List.mem_cons, List.not_mem_nil, or_false] at hm
  rcases hm with rfl
  · exact ⟨ok_word7 Z mi mV DM D, Z.eW7⟩
theorem scSaid : FnScope ["_law_call", "_law_e"] ["_law_call"] (defScope sSaid) := ⟨rfl, rfl, rfl, by decide +kernel, rfl, by decide +kernel, by decide +kernel⟩
theorem said_gives {X : Cx} {g fW : Addr} {dW : FuncData} {cdg : Value} {q : Str} {k : Nat} (GW : Words X.prog X.w X.K X.mg X.base k fW dW C cW) (DW : Df X.K X.mg "_law_word" sWord ["_law_e"] fW dW) (hr : Room (k + 1) X.A)
    (gW : X.mg "WayError" = some (.ref cW)) : LamX.GivesTo X ["_law_call", "_law_e"] "_law_said" (defScope sSaid) g cdg (defBody sSaid) "_law_call" q (TSaid C [7] wordOf) := by
  intro f c' s H Q tl act hc h
  have room : L2H.RoomH k (X.A.deeper (envOfC "_law_said" (defScope sSaid) s.heap.objs.size g cdg)) := L2H.roomH_of (hr.deeper _)
  refine ⟨_, pss_one (ps_try_as (X := (cxOf C8.CX0 X.prog X.w X.K X.mg X.base ["_law_call", "_law_e"] "_law_said" (defScope sSaid) g cdg X.A X.stack s H C8.E0).nox) (c := .ref cW) (i := 1)
      (tb := fun W E σ H => ∃ Ech : XK, (∀ cls d σ' H', Ech cls d H' → W cls d σ' H') ∧ σ[0]? = some (some (.ref f)) ∧ H c' = some (LamX.CodeO c' q) ∧ tl Ech H fun v G => ([V.str "told", v] : List V).length ≤ sizeLine ∧ ∀ p, G p = none → E.rt (.ref p) (upd G p (.tup [.str "told", v])))
      (ts := fun a cls d E σ H => ∃ m, m ∈ [7] ∧ cls = .ref (C m) ∧ d = none ∧ (σ.length = 2 → ∃ v, σ[1]? = some (some v) ∧ spWord m a [v] H E.rt)) (Wout := fun _ _ _ _ => False)
      rfl rfl scSaid.nd rfl rfl ⟨rfl, by decide, .inl gW⟩ L2.takes0 (fun W pn xe tk _ => ?_) (fun a oe cls d pn hz hf => ?_)), ?_⟩
  · refine ⟨fun pins s' σ H' E I h' => ?_⟩
    obtain ⟨Ech, hW, h1, h2, h3⟩ := h'
    exact PSs.run (pss_one (ps_ret (pe_tup (pa_cons pe_str (pa_cons (act W pn xe Ech _ _ tk hW) pa_nil))))) pins s' σ H' E I ⟨h1, h2, h3⟩
  · refine ⟨fun pins s' σ H' E I h' => ?_⟩
    obtain ⟨m, hm, rfl, rfl, h⟩ := h'
    obtain ⟨v, hv, hw⟩ := h I.len
    exact PSs.run (pss_one (ps_ret (pe_callE (X := ((cxOf C8.CX0 X.prog X.w X.K X.mg X.base ["_law_call", "_law_e"] "_law_said" (defScope sSaid) g cdg X.A X.stack s H C8.E0).nox).suite a ((a, oe) :: pn)) (p := (a, oe)) (GW m hm).1 ⟨room.dp, room.un⟩ List.mem_cons_self ⟨hz, hf⟩ (by rfl) DW.g DW.F.kp DW.b (pa_cons (pv 1) pa_nil)))) pins s' σ H' E I ⟨v, hv, hw⟩
  · refine ⟨_, fun cls d σ' H' hE => ?_, rfl, hc, h⟩
    obtain ⟨m, hm, rfl, rfl, hq⟩ := hE
    refine ⟨true, (GW m hm).2, fun _ a _ => ⟨m, hm, rfl, rfl, fun hl => ⟨.ref a, ?_, rfl, fun G t sm n e => hq G t sm n e⟩⟩, fun z => nomatch z⟩
    rw [List.length_set] at hl
    rw [List.getElem?_set_self (by omega)]
end
end Wy

set_option synthInstance.maxHeartbeats 2000000
set_option synthInstance.maxSize 100000
namespace Wy
open PySem PySem.Spec PyProof.Rows L2 Dl
section
variable {P : Program} {w : World} {K : PySem.W.Frag} {mg : Str → Option Value} {base : Heap} {C : Nat → Addr}
def numS (n : Int) : Str := Str.ofString (toString n)
theorem num_small : ∀ n : Nat, n < 101 → (numS n).length ≤ 3 ∧ ((n : Int).natAbs.log2 < 1920) := by decide +kernel
theorem num_len {n : Int} (h0 : 0 ≤ n) (h1 : n ≤ 100) : (numS n).length ≤ 3 := by
  obtain ⟨m, rfl⟩ := Int.eq_ofNat_of_zero_le h0
  exact (num_small m (by omega)).1
theorem num_log {n : Int} (h0 : 0 ≤ n) (h1 : n ≤ 100) : n.natAbs.log2 < 1920 := by
  obtain ⟨m, rfl⟩ := Int.eq_ofNat_of_zero_le h0
  exact (num_small m (by omega)).2
theorem num_tl {n : Int} (h0 : 0 ≤ n) {s : Nat} (h : s < 48 ∨ 57 < s) : s ∉ TL.tl (numS n) := by
  obtain ⟨m, rfl⟩ := Int.eq_ofNat_of_zero_le h0
  unfold numS
  rw [TL.tl_num]
  exact TL.numL_free h
theorem mem_joinL {S : List Nat} {x : Nat} : ∀ {ps : List (List Nat)}, x ∈ TL.joinL S ps → x ∈ S ∨ ∃ p ∈ ps, x ∈ p
  | [], h => nomatch h
  | [p], h => .inr ⟨p, List.mem_cons_self, h⟩
  | p :: q :: r, h => by
    have h : x ∈ p ++ (S ++ TL.joinL S (q :: r)) := h
    rcases List.mem_append.mp h with h | h
    · exact .inr ⟨p, List.mem_cons_self, h⟩
    · rcases List.mem_append.mp h with h | h
      · exact .inl h
      · exact (mem_joinL h).imp id fun ⟨y, hy, z⟩ => ⟨y, List.mem_cons_of_mem _ hy, z⟩
theorem sum_le {c : Nat} : ∀ {xs : List Nat}, (∀ x ∈ xs, x ≤ c) → xs.sum ≤ xs.length * c
  | [], _ => by simp
  | x :: r, h => by
    have h1 := h x List.mem_cons_self
    have h2 := sum_le (xs := r) fun y hy => h y (List.mem_cons_of_mem _ hy)
    rw [List.sum_cons, List.length_cons, Nat.add_mul, Nat.one_mul]
    omega
theorem join_len (a : Str) : ∀ ys : List Str, (Txt.join a ys).length ≤ (ys.map (·.length)).sum + ys.length * a.length := fun ys => by
  rw [TL.join_eq]
  have key : ∀ ys : List Str, (Str.join a ys).length ≤ (ys.map (·.length)).sum + ys.length * a.length := by
    intro ys
    induction ys with
    | nil => exact Nat.zero_le _
    | cons y r ih =>
      cases r with
      | nil =>
        show y.length ≤ _
        simp only [List.map_cons, List.map_nil, List.sum_cons, List.sum_nil]
        omega
      | cons z r =>
        show (y ++ a ++ Str.join a (z :: r)).length ≤ _
        rw [PySem.strLen_append, PySem.strLen_append]
        rw [List.map_cons, List.sum_cons, List.length_cons, Nat.add_mul, Nat.one_mul]
        omega
  exact key ys
def wayD : PyData → Bool
  | .tuple xs => xs.all (withinD 0 29)
  | _ => false
theorem none_bad (xs : List PyData) : (xs.filter fun d => !withinD 0 29 d).isEmpty = xs.all (withinD 0 29) := by
  induction xs with
  | nil => rfl
  | cons x r ih =>
    rw [List.filter_cons, List.all_cons]
    cases withinD 0 29 x with
    | true => exact ih
    | false => rfl
def joinS (ns : List Int) : Str := Txt.join "-" (ns.map numS)
def wayS (ns : List Int) : Str := if ns = [] then "." else joinS ns
theorem str_ext {x y : Str} (h : TL.tl x = TL.tl y) : x = y := by
  have := TL.map_tl_inj (l := [x]) (m := [y]) (by simp [h])
  simpa using this
theorem tl_joinS (ns : List Int) : TL.tl (joinS ns) = TL.joinL [45] ((ns.map numS).map TL.tl) := by
  unfold joinS
  rw [TL.join_eq, TL.tl_join]
  rfl
theorem joinL_snoc (S x : List Nat) : ∀ ps : List (List Nat), TL.joinL S (ps ++ [x]) = if ps = [] then x else TL.joinL S ps ++ (S ++ x)
  | [] => rfl
  | [p] => by
    rw [if_neg (List.cons_ne_nil _ _)]
    rfl
  | p :: q :: r => by
    have ih := joinL_snoc S x (q :: r)
    rw [if_neg (List.cons_ne_nil _ _)] at ih
    rw [if_neg (List.cons_ne_nil _ _)]
    show p ++ (S ++ TL.joinL S (q :: r ++ [x])) = (p ++ (S ++ TL.joinL S (q :: r))) ++ (S ++ x)
    rw [ih]
    simp only [List.append_assoc]
theorem joinS_snoc (ns : List Int) (n : Int) : joinS (ns ++ [n]) = (if ns = [] then "" ++ "" ++ numS n else joinS ns ++ "-" ++ numS n) := by
  refine str_ext ?_
  rw [tl_joinS, List.map_append, List.map_append]
  show TL.joinL [45] ((ns.map numS).map TL.tl ++ [TL.tl (numS n)]) = _
  rw [joinL_snoc]
  by_cases h : ns = []
  · subst h
    rw [if_pos (show List.map TL.tl (List.map numS []) = [] from rfl), if_pos rfl, TL.tl_append, TL.tl_append]
    rfl
  · rw [if_neg (by simpa using h), if_neg h, TL.tl_append, TL.tl_append, tl_joinS, List.append_assoc]
    rfl
theorem joinS_len {ns : List Int} (h : ∀ n ∈ ns, 0 ≤ n ∧ n ≤ 29) (hl : ns.length ≤ 100) : (joinS ns).length ≤ 400 := by
  have h1 := join_len "-" (ns.map numS)
  have h2 := sum_le (c := 3) (xs := (ns.map numS).map (·.length)) fun x hx => by
    obtain ⟨w, hw, rfl⟩ := List.mem_map.mp hx
    obtain ⟨n, hn, rfl⟩ := List.mem_map.mp hw
    have := h n hn
    exact num_len this.1 (by omega)
  have e1 : (("-" : Str)).length = 1 := rfl
  rw [List.length_map, List.length_map] at h2
  rw [e1, List.length_map] at h1
  unfold joinS
  omega
theorem joinS_sum {ns : List Int} (h : ∀ n ∈ ns, 0 ≤ n ∧ n ≤ 29) (hl : ns.length ≤ 100) : ((ns.map numS).map (·.length)).sum + (ns.map numS).length * (("-" : Str)).length ≤ 16777216 := by
  have h2 := sum_le (c := 3) (xs := (ns.map numS).map (·.length)) fun x hx => by
    obtain ⟨w, hw, rfl⟩ := List.mem_map.mp hx
    obtain ⟨n, hn, rfl⟩ := List.mem_map.mp hw
    have := h n hn
    exact num_len this.1 (by omega)
  have e1 : (("-" : Str)).length = 1 := rfl
  rw [List.length_map, List.length_map] at h2
  rw [e1, List.length_map]
  omega
theorem numS_inj {m n : Int} (hm : 0 ≤ m) (hn : 0 ≤ n) (h : numS m = numS n) : m = n := by
  obtain ⟨a, rfl⟩ := Int.eq_ofNat_of_zero_le hm
  obtain ⟨b, rfl⟩ := Int.eq_ofNat_of_zero_le hn
  have e := congrArg TL.tl h
  unfold numS at e
  rw [TL.tl_num, TL.tl_num] at e
  rw [TL.numL_inj e]
theorem map_num_inj : ∀ {ms ns : List Int}, (∀ m ∈ ms, 0 ≤ m) → (∀ n ∈ ns, 0 ≤ n) → ms.map numS = ns.map numS → ms = ns
  | [], [], _, _, _ => rfl
  | [], _ :: _, _, _, h => by cases h
  | _ :: _, [], _, _, h => by cases h
  | m :: ms, n :: ns, h1, h2, h => by
    rw [List.map_cons, List.map_cons] at h
    obtain ⟨e1, e2⟩ := List.cons.inj h
    rw [numS_inj (h1 m List.mem_cons_self) (h2 n List.mem_cons_self) e1, map_num_inj (fun x hx => h1 x (List.mem_cons_of_mem _ hx)) (fun x hx => h2 x (List.mem_cons_of_mem _ hx)) e2]
/-- ways that are unlike are written unlike -/
theorem wayS_inj {ms ns : List Int} (h1 : ∀ m ∈ ms, 0 ≤ m) (h2 : ∀ n ∈ ns, 0 ≤ n) (h : wayS ms = wayS ns) : ms = ns := by
  have spl : ∀ {ns : List Int}, ns ≠ [] → (∀ n ∈ ns, 0 ≤ n) → Txt.split (joinS ns) "-" = ns.map numS := fun {ns} hn h => by
    unfold joinS
    refine TL.split_join (s := 45) (S := []) rfl (by decide +kernel) (fun e => hn (List.map_eq_nil_iff.mp e)) fun w hw => ?_
    obtain ⟨n, hm, rfl⟩ := List.mem_map.mp hw
    exact num_tl (h n hm) (.inl (by decide))
  have dot : ∀ {ns : List Int}, ns ≠ [] → (∀ n ∈ ns, 0 ≤ n) → joinS ns ≠ ("." : Str) := fun {ns} hn h e => by
    have e1 := congrArg TL.tl e
    rw [tl_joinS] at e1
    have hm : (46 : Nat) ∈ TL.joinL [45] ((ns.map numS).map TL.tl) := by
      rw [e1]
      exact List.mem_cons_self
    rcases mem_joinL hm with z | ⟨y, hy, z⟩
    · exact absurd z (by decide)
    · obtain ⟨w, hw, rfl⟩ := List.mem_map.mp hy
      obtain ⟨n, hn', rfl⟩ := List.mem_map.mp hw
      exact num_tl (h n hn') (.inl (by decide)) z
  unfold wayS at h
  by_cases a : ms = []
  · by_cases b : ns = []
    · rw [a, b]
    · rw [if_pos a, if_neg b] at h
      exact absurd h.symm (dot b h2)
  · by_cases b : ns = []
    · rw [if_neg a, if_pos b] at h
      exact absurd h (dot a h1)
    · rw [if_neg a, if_neg b] at h
      refine map_num_inj h1 h2 ?_
      rw [← spl a h1, ← spl b h2, h]
theorem kb0_way_text : ∀ f fd, Fun K "way_text" "way_text" s_way_text f fd → KBinds K fd ["way"] [] (pickL 1 0 [.inl 0] .none) (pickL 1 0 [.inl 0] .non) := fun f fd F => by
  obtain ⟨oc, od, kV, doc, pm, an, cdv, ct, osl, rfl, lk, hcd⟩ := F.ex
  refine ⟨fun s us ws _ hl => ?_, fun r rz => pick_vals r rz⟩
  unfold pickL at hl ⊢
  split at hl
  · rename_i h
    rw [if_pos h]
    match us, ws, h.1, h.2 with
    | [a0], [], _, _ => exact .of_eq rfl
  · cases hl
theorem kb1_way_text : ∀ f fd, Fun K "way_text" "way_text" s_way_text f fd → KBinds K fd ["way"] ["way"] (pickL 0 1 [.inr 0] .none) (pickL 0 1 [.inr 0] .non) := fun f fd F => by
  obtain ⟨oc, od, kV, doc, pm, an, cdv, ct, osl, rfl, lk, hcd⟩ := F.ex
  refine ⟨fun s us ws _ hl => ?_, fun r rz => pick_vals r rz⟩
  unfold pickL at hl ⊢
  split at hl
  · rename_i h
    rw [if_pos h]
    match us, ws, h.1, h.2 with
    | [], [b0], _, _ => exact .of_eq rfl
  · cases hl
theorem sc_way_text : FnScope ["way", "road"] ["way"] (defScope s_way_text) := ⟨rfl, rfl, rfl, by decide +kernel, rfl, by decide +kernel, by decide +kernel⟩
def sd_way_text (C : Nat → Addr) : SpD := fun ss Qd R => ∃ x, ss = [.d x] ∧ (∀ xs, x = .tuple xs → xs.length ≤ 100) ∧ ((wayD x = false ∧ R (C 7, [])) ∨ ∃ ns : List Int, x = .tuple (ns.map PyData.int) ∧ (∀ n ∈ ns, 0 ≤ n ∧ n ≤ 29) ∧ Qd (.d (.str (wayS ns))))
theorem c_way_text (T : Tx K mg C) : Ck P w K mg base (L2.CX P w) 3 "way_text" s_way_text ["way"] [] (spD K [] (sd_way_text C)) := by
  obtain ⟨f, fd, D⟩ := T.h_way_text
  refine ⟨f, fd, okX (k := 2) D.F sc_way_text (fun ss Qd R h => ?_) (fun cdv A outer s H E hr => ⟨_, (pss_cons (ps_if (PW.pt (pw_or (pt_not (pt_val (pe_callB (call_isiQ (K := K) rfl) (by rfl) T.isinstance (by decide +kernel) (pa_cons (pv 0) (pa_cons (pe_bltn (v := .ty "tuple") (by rfl) T.tuple (by decide +kernel) rfl) pa_nil))))) (pw_or1 (pt_not (pt_val (pe_callB (cr_allK (K := K) rfl rfl) (by rfl) T.all (by decide +kernel) (pa_cons (pe_lc (own := [("road", 1)]) (g := (gName 1)) (tt := tYes) (by rfl) sc_way_text.nd (pi_tupK (K := K) rfl (pv 0))
      (blkOk_by (own := [("road", 1)]) (N := ["way", "road"]) (sc := defScope s_way_text) (by decide +kernel)) (fun _ _ _ _ _ => (pg_name (i := 1) sc_way_text.nd rfl (.inl rfl))) (fun _ _ _ _ _ => pts_nil) (fun _ _ _ _ _ => (pe_cb (c_is_within (K := K) T) (hr.mono (by decide)) (by rfl) pass0 (pa_cons (pv 1) (pa_cons pe_int (pa_cons (pe_op op_sub (pe_glob (v := .int 30) (by rfl) (T.c_MOST_ROADS).choose_spec ⟨_, rfl⟩) pe_int) pa_nil)))))) pa_nil))))))) (pss_one (ps_raiseD rfl (takes_of rfl rfl rfl rfl) (pmk_own PySem.F.excBase_ValueError T.e_NoWay.x T.e_NoWay.g T.e_NoWay.k (raises_own T.e_NoWay.b T.e_NoWay.t) rfl))) pss_nil)
    (pss_cons (ps_if (pt_not (pt_truK (K := K) rfl (pv 0) (by intro _; rfl))) (pss_one (ps_ret pe_str)) pss_nil)
    (pss_one (ps_ret (pe_joinK (K := K) rfl pe_str (pe_lc (own := [("road", 1)]) (g := (gName 1)) (tt := tYes) (by rfl) sc_way_text.nd (pi_tupK (K := K) rfl (pv 0))
      (blkOk_by (own := [("road", 1)]) (N := ["way", "road"]) (sc := defScope s_way_text) (by decide +kernel)) (fun _ _ _ _ _ => (pg_name (i := 1) sc_way_text.nd rfl (.inl rfl))) (fun _ _ _ _ _ => pts_nil) (fun _ _ _ _ _ => (pe_callTy call_str_int (by rfl) T.str (by decide +kernel) (pa_cons (pv 1) pa_nil))))))))), ?_⟩), D⟩
  · obtain ⟨_, rfl, _⟩ := h
    rfl
  · refine ⟨_, fun τ => inferInstance, fun ss Qd R h => ?_⟩
    obtain ⟨x, rfl, hl, h⟩ := h
    cases x with
    | tuple xs =>
      have hl := hl xs rfl
      try simp only [startD, iEn, cvs, cv, vS, Sl.dat, Sl.seq, Sl.sq, Sl.fz, dats, dSetI, dAug, wipeD, List.length_cons, List.length_nil, List.length_append, List.length_replicate, Nat.reduceAdd, Nat.reduceSub, Nat.zero_add, List.replicate_succ, List.replicate_zero, List.cons_append, List.nil_append, List.append_nil, List.set_cons_zero, List.set_cons_succ, List.set_nil, List.getElem?_cons_zero, List.getElem?_cons_succ, Option.getD_some, List.map_cons, List.map_nil, Option.bind_some, fI0_c, fI_c, fU_c, fAddX_i, fAddX_t, fAddX_s, fAddX_mm, fAddX_bm, fAddX_mb, fAddX_bb, fAddX_lm, fAddX_ll, fMulX_i, fMulX_m, fSlX_t, fSlX_m, fSlX_b, fSlX_l, fIs_n, fIs_i, fIs_b, fIs_s, fIs_l, fIs_t, fIs_m, fIs_bl, fLen_t, fLen_l, fLen_m, fLen_b, fLen_scr, fIsi_c, fEqD_c, fEqD_mm, fEqD_bm, fEqD_bb, fEqD_dm, fEq_ss, fInt_i, fInt_b, fTuple_m, fTuple_b, fTuple_t, fTuple_l, fList_m, fList_b, fList_t, fList_l, f2I_c, fRepr_c, fRepr_m, fRepr_b, fStr_c, Bool.not_true, Bool.not_false, true_and, netT, Road.dt, reduceIte, Bool.false_eq_true, decide_true, decide_false, tupK, lstK, dNext_c, dBreak_c, dCont_c, dSeq_c, dDrop_c, dRet_c, retK_d, retK_m, retK_r, dRetN_c, dIfS_c, iteS_t, iteS_f, dSet_c, setK_d, setK_m, setK_s, setK_r, dAsg_c, asgK_d, asgK_m, dFz_c, dNever_c, dRaise_c, dC_c, dOp_c, dUn_c, dTst_c, tstK_c, dTru_c, truK_n, truK_b, truK_i, truK_t, truK_l, truK_m, truK_bl, dNot_c, dAnd_c, andK_t, andK_f, dOr_c, orK_t, orK_f, dAndV_c, andV_t, andV_f, dOrV_c, orV_t, orV_f, dNotV_c, dIf_c, iteE_t, iteE_f, dChain_c, chK_t, chK_f, dNil_c, dCons_c, dCB_c, dCall_c, dCall0_c, dTup_c, dLst_c, dFor_c, dLc_c, iTp_c, tpK_c, iLst_c, lsK_d, lsK_m, iSeq_c, sqK_d, sqK_m, sqK_b, dSl_c, dNo_c, dPt_c, ptK_c, dYes_c, dBack_k, backK_c, dTupRg_c, dLstRg_c, dRg1_c, dRg2_c, rg1K_c, rg2K_c, tupRg_c, lstRg_c, dDict0_c, dDict1_c, gdName_c, gdTup_c, gdCons_c, gdNil_c, dApp_c, appK_c, apK_d, apK_m, dVar_c, varK_d, varK_m, varK_b, varK_s, varK_sc, varK_r, dNew_c, varK_mo, varK_bo, setK_mo, retK_mo, dDIn_c, dinK_i, dinK_s, dDGet_c, dDGet1_c, isBo_c, dget1K_i, dDPut_c, dputV_d, dputK_i, val_mo, dOwn0_c, dDispV_c, dispK_i, fRepT_c, fIsB_c, dM0_c, dM1_c, isStr_c, fQ0_c, fQ1_c, fSplit_c, fLenS_c, iEnSD_c, dSetdIf_c, setdB_f, enSK_m, enSK_d, dOrT_c, dAndT_c, orTK_n, dCallK_c, dCallK0_c, dCallD_c, dCallD0_c, dSaid_c, toldK_d, toldK_m, iRg1_c, rgK_c, iRg2_c, rgK2_c, iEnT_c, enK_c, iZp_c, zpK_tt, zpK_mm, zpK_ll, zpK_lm, zpK_ml, dPar_c, parK_im, parK_nm, parK_sm, parK_dd, parK_md]
      refine ⟨.inr (.inr (.inl rfl)), ?_⟩
      rw [show isiD (tyD (PyData.tuple xs)) "tuple" = true from rfl]
      try simp only [startD, iEn, cvs, cv, vS, Sl.dat, Sl.seq, Sl.sq, Sl.fz, dats, dSetI, dAug, wipeD, List.length_cons, List.length_nil, List.length_append, List.length_replicate, Nat.reduceAdd, Nat.reduceSub, Nat.zero_add, List.replicate_succ, List.replicate_zero, List.cons_append, List.nil_append, List.append_nil, List.set_cons_zero, List.set_cons_succ, List.set_nil, List.getElem?_cons_zero, List.getElem?_cons_succ, Option.getD_some, List.map_cons, List.map_nil, Option.bind_some, fI0_c, fI_c, fU_c, fAddX_i, fAddX_t, fAddX_s, fAddX_mm, fAddX_bm, fAddX_mb, fAddX_bb, fAddX_lm, fAddX_ll, fMulX_i, fMulX_m, fSlX_t, fSlX_m, fSlX_b, fSlX_l, fIs_n, fIs_i, fIs_b, fIs_s, fIs_l, fIs_t, fIs_m, fIs_bl, fLen_t, fLen_l, fLen_m, fLen_b, fLen_scr, fIsi_c, fEqD_c, fEqD_mm, fEqD_bm, fEqD_bb, fEqD_dm, fEq_ss, fInt_i, fInt_b, fTuple_m, fTuple_b, fTuple_t, fTuple_l, fList_m, fList_b, fList_t, fList_l, f2I_c, fRepr_c, fRepr_m, fRepr_b, fStr_c, Bool.not_true, Bool.not_false, true_and, netT, Road.dt, reduceIte, Bool.false_eq_true, decide_true, decide_false, tupK, lstK, dNext_c, dBreak_c, dCont_c, dSeq_c, dDrop_c, dRet_c, retK_d, retK_m, retK_r, dRetN_c, dIfS_c, iteS_t, iteS_f, dSet_c, setK_d, setK_m, setK_s, setK_r, dAsg_c, asgK_d, asgK_m, dFz_c, dNever_c, dRaise_c, dC_c, dOp_c, dUn_c, dTst_c, tstK_c, dTru_c, truK_n, truK_b, truK_i, truK_t, truK_l, truK_m, truK_bl, dNot_c, dAnd_c, andK_t, andK_f, dOr_c, orK_t, orK_f, dAndV_c, andV_t, andV_f, dOrV_c, orV_t, orV_f, dNotV_c, dIf_c, iteE_t, iteE_f, dChain_c, chK_t, chK_f, dNil_c, dCons_c, dCB_c, dCall_c, dCall0_c, dTup_c, dLst_c, dFor_c, dLc_c, iTp_c, tpK_c, iLst_c, lsK_d, lsK_m, iSeq_c, sqK_d, sqK_m, sqK_b, dSl_c, dNo_c, dPt_c, ptK_c, dYes_c, dBack_k, backK_c, dTupRg_c, dLstRg_c, dRg1_c, dRg2_c, rg1K_c, rg2K_c, tupRg_c, lstRg_c, dDict0_c, dDict1_c, gdName_c, gdTup_c, gdCons_c, gdNil_c, dApp_c, appK_c, apK_d, apK_m, dVar_c, varK_d, varK_m, varK_b, varK_s, varK_sc, varK_r, dNew_c, varK_mo, varK_bo, setK_mo, retK_mo, dDIn_c, dinK_i, dinK_s, dDGet_c, dDGet1_c, isBo_c, dget1K_i, dDPut_c, dputV_d, dputK_i, val_mo, dOwn0_c, dDispV_c, dispK_i, fRepT_c, fIsB_c, dM0_c, dM1_c, isStr_c, fQ0_c, fQ1_c, fSplit_c, fLenS_c, iEnSD_c, dSetdIf_c, setdB_f, enSK_m, enSK_d, dOrT_c, dAndT_c, orTK_n, dCallK_c, dCallK0_c, dCallD_c, dCallD0_c, dSaid_c, toldK_d, toldK_m, iRg1_c, rgK_c, iRg2_c, rgK2_c, iEnT_c, enK_c, iZp_c, zpK_tt, zpK_mm, zpK_ll, zpK_lm, zpK_ml, dPar_c, parK_im, parK_nm, parK_sm, parK_dd, parK_md]
      refine lcD_allB (withinD 0 29) xs (fun d _ acc N ha hN => ?_) (by omega) ?_
      · unfold lcStep
        try simp only [startD, iEn, cvs, cv, vS, Sl.dat, Sl.seq, Sl.sq, Sl.fz, dats, dSetI, dAug, wipeD, List.length_cons, List.length_nil, List.length_append, List.length_replicate, Nat.reduceAdd, Nat.reduceSub, Nat.zero_add, List.replicate_succ, List.replicate_zero, List.cons_append, List.nil_append, List.append_nil, List.set_cons_zero, List.set_cons_succ, List.set_nil, List.getElem?_cons_zero, List.getElem?_cons_succ, Option.getD_some, List.map_cons, List.map_nil, Option.bind_some, fI0_c, fI_c, fU_c, fAddX_i, fAddX_t, fAddX_s, fAddX_mm, fAddX_bm, fAddX_mb, fAddX_bb, fAddX_lm, fAddX_ll, fMulX_i, fMulX_m, fSlX_t, fSlX_m, fSlX_b, fSlX_l, fIs_n, fIs_i, fIs_b, fIs_s, fIs_l, fIs_t, fIs_m, fIs_bl, fLen_t, fLen_l, fLen_m, fLen_b, fLen_scr, fIsi_c, fEqD_c, fEqD_mm, fEqD_bm, fEqD_bb, fEqD_dm, fEq_ss, fInt_i, fInt_b, fTuple_m, fTuple_b, fTuple_t, fTuple_l, fList_m, fList_b, fList_t, fList_l, f2I_c, fRepr_c, fRepr_m, fRepr_b, fStr_c, Bool.not_true, Bool.not_false, true_and, netT, Road.dt, reduceIte, Bool.false_eq_true, decide_true, decide_false, tupK, lstK, dNext_c, dBreak_c, dCont_c, dSeq_c, dDrop_c, dRet_c, retK_d, retK_m, retK_r, dRetN_c, dIfS_c, iteS_t, iteS_f, dSet_c, setK_d, setK_m, setK_s, setK_r, dAsg_c, asgK_d, asgK_m, dFz_c, dNever_c, dRaise_c, dC_c, dOp_c, dUn_c, dTst_c, tstK_c, dTru_c, truK_n, truK_b, truK_i, truK_t, truK_l, truK_m, truK_bl, dNot_c, dAnd_c, andK_t, andK_f, dOr_c, orK_t, orK_f, dAndV_c, andV_t, andV_f, dOrV_c, orV_t, orV_f, dNotV_c, dIf_c, iteE_t, iteE_f, dChain_c, chK_t, chK_f, dNil_c, dCons_c, dCB_c, dCall_c, dCall0_c, dTup_c, dLst_c, dFor_c, dLc_c, iTp_c, tpK_c, iLst_c, lsK_d, lsK_m, iSeq_c, sqK_d, sqK_m, sqK_b, dSl_c, dNo_c, dPt_c, ptK_c, dYes_c, dBack_k, backK_c, dTupRg_c, dLstRg_c, dRg1_c, dRg2_c, rg1K_c, rg2K_c, tupRg_c, lstRg_c, dDict0_c, dDict1_c, gdName_c, gdTup_c, gdCons_c, gdNil_c, dApp_c, appK_c, apK_d, apK_m, dVar_c, varK_d, varK_m, varK_b, varK_s, varK_sc, varK_r, dNew_c, varK_mo, varK_bo, setK_mo, retK_mo, dDIn_c, dinK_i, dinK_s, dDGet_c, dDGet1_c, isBo_c, dget1K_i, dDPut_c, dputV_d, dputK_i, val_mo, dOwn0_c, dDispV_c, dispK_i, fRepT_c, fIsB_c, dM0_c, dM1_c, isStr_c, fQ0_c, fQ1_c, fSplit_c, fLenS_c, iEnSD_c, dSetdIf_c, setdB_f, enSK_m, enSK_d, dOrT_c, dAndT_c, orTK_n, dCallK_c, dCallK0_c, dCallD_c, dCallD0_c, dSaid_c, toldK_d, toldK_m, iRg1_c, rgK_c, iRg2_c, rgK2_c, iEnT_c, enK_c, iZp_c, zpK_tt, zpK_mm, zpK_ll, zpK_lm, zpK_ml, dPar_c, parK_im, parK_nm, parK_sm, parK_dd, parK_md]
        exact ⟨d, 0, 29, rfl, ha, hN⟩
      rcases h with ⟨hx, q⟩ | ⟨ns, e, hn, q⟩
      · have hx : xs.all (withinD 0 29) = false := hx
        rw [hx]
        try simp only [startD, iEn, cvs, cv, vS, Sl.dat, Sl.seq, Sl.sq, Sl.fz, dats, dSetI, dAug, wipeD, List.length_cons, List.length_nil, List.length_append, List.length_replicate, Nat.reduceAdd, Nat.reduceSub, Nat.zero_add, List.replicate_succ, List.replicate_zero, List.cons_append, List.nil_append, List.append_nil, List.set_cons_zero, List.set_cons_succ, List.set_nil, List.getElem?_cons_zero, List.getElem?_cons_succ, Option.getD_some, List.map_cons, List.map_nil, Option.bind_some, fI0_c, fI_c, fU_c, fAddX_i, fAddX_t, fAddX_s, fAddX_mm, fAddX_bm, fAddX_mb, fAddX_bb, fAddX_lm, fAddX_ll, fMulX_i, fMulX_m, fSlX_t, fSlX_m, fSlX_b, fSlX_l, fIs_n, fIs_i, fIs_b, fIs_s, fIs_l, fIs_t, fIs_m, fIs_bl, fLen_t, fLen_l, fLen_m, fLen_b, fLen_scr, fIsi_c, fEqD_c, fEqD_mm, fEqD_bm, fEqD_bb, fEqD_dm, fEq_ss, fInt_i, fInt_b, fTuple_m, fTuple_b, fTuple_t, fTuple_l, fList_m, fList_b, fList_t, fList_l, f2I_c, fRepr_c, fRepr_m, fRepr_b, fStr_c, Bool.not_true, Bool.not_false, true_and, netT, Road.dt, reduceIte, Bool.false_eq_true, decide_true, decide_false, tupK, lstK, dNext_c, dBreak_c, dCont_c, dSeq_c, dDrop_c, dRet_c, retK_d, retK_m, retK_r, dRetN_c, dIfS_c, iteS_t, iteS_f, dSet_c, setK_d, setK_m, setK_s, setK_r, dAsg_c, asgK_d, asgK_m, dFz_c, dNever_c, dRaise_c, dC_c, dOp_c, dUn_c, dTst_c, tstK_c, dTru_c, truK_n, truK_b, truK_i, truK_t, truK_l, truK_m, truK_bl, dNot_c, dAnd_c, andK_t, andK_f, dOr_c, orK_t, orK_f, dAndV_c, andV_t, andV_f, dOrV_c, orV_t, orV_f, dNotV_c, dIf_c, iteE_t, iteE_f, dChain_c, chK_t, chK_f, dNil_c, dCons_c, dCB_c, dCall_c, dCall0_c, dTup_c, dLst_c, dFor_c, dLc_c, iTp_c, tpK_c, iLst_c, lsK_d, lsK_m, iSeq_c, sqK_d, sqK_m, sqK_b, dSl_c, dNo_c, dPt_c, ptK_c, dYes_c, dBack_k, backK_c, dTupRg_c, dLstRg_c, dRg1_c, dRg2_c, rg1K_c, rg2K_c, tupRg_c, lstRg_c, dDict0_c, dDict1_c, gdName_c, gdTup_c, gdCons_c, gdNil_c, dApp_c, appK_c, apK_d, apK_m, dVar_c, varK_d, varK_m, varK_b, varK_s, varK_sc, varK_r, dNew_c, varK_mo, varK_bo, setK_mo, retK_mo, dDIn_c, dinK_i, dinK_s, dDGet_c, dDGet1_c, isBo_c, dget1K_i, dDPut_c, dputV_d, dputK_i, val_mo, dOwn0_c, dDispV_c, dispK_i, fRepT_c, fIsB_c, dM0_c, dM1_c, isStr_c, fQ0_c, fQ1_c, fSplit_c, fLenS_c, iEnSD_c, dSetdIf_c, setdB_f, enSK_m, enSK_d, dOrT_c, dAndT_c, orTK_n, dCallK_c, dCallK0_c, dCallD_c, dCallD0_c, dSaid_c, toldK_d, toldK_m, iRg1_c, rgK_c, iRg2_c, rgK2_c, iEnT_c, enK_c, iZp_c, zpK_tt, zpK_mm, zpK_ll, zpK_lm, zpK_ml, dPar_c, parK_im, parK_nm, parK_sm, parK_dd, parK_md]
        exact q
      · cases e
        rw [List.length_map] at hl
        have ha : (ns.map PyData.int).all (withinD 0 29) = true := by
          rw [List.all_eq_true]
          intro d hd
          obtain ⟨n, hm, rfl⟩ := List.mem_map.mp hd
          exact withinD_of (hn n hm).1 (hn n hm).2
        rw [ha]
        try simp only [startD, iEn, cvs, cv, vS, Sl.dat, Sl.seq, Sl.sq, Sl.fz, dats, dSetI, dAug, wipeD, List.length_cons, List.length_nil, List.length_append, List.length_replicate, Nat.reduceAdd, Nat.reduceSub, Nat.zero_add, List.replicate_succ, List.replicate_zero, List.cons_append, List.nil_append, List.append_nil, List.set_cons_zero, List.set_cons_succ, List.set_nil, List.getElem?_cons_zero, List.getElem?_cons_succ, Option.getD_some, List.map_cons, List.map_nil, Option.bind_some, fI0_c, fI_c, fU_c, fAddX_i, fAddX_t, fAddX_s, fAddX_mm, fAddX_bm, fAddX_mb, fAddX_bb, fAddX_lm, fAddX_ll, fMulX_i, fMulX_m, fSlX_t, fSlX_m, fSlX_b, fSlX_l, fIs_n, fIs_i, fIs_b, fIs_s, fIs_l, fIs_t, fIs_m, fIs_bl, fLen_t, fLen_l, fLen_m, fLen_b, fLen_scr, fIsi_c, fEqD_c, fEqD_mm, fEqD_bm, fEqD_bb, fEqD_dm, fEq_ss, fInt_i, fInt_b, fTuple_m, fTuple_b, fTuple_t, fTuple_l, fList_m, fList_b, fList_t, fList_l, f2I_c, fRepr_c, fRepr_m, fRepr_b, fStr_c, Bool.not_true, Bool.not_false, true_and, netT, Road.dt, reduceIte, Bool.false_eq_true, decide_true, decide_false, tupK, lstK, dNext_c, dBreak_c, dCont_c, dSeq_c, dDrop_c, dRet_c, retK_d, retK_m, retK_r, dRetN_c, dIfS_c, iteS_t, iteS_f, dSet_c, setK_d, setK_m, setK_s, setK_r, dAsg_c, asgK_d, asgK_m, dFz_c, dNever_c, dRaise_c, dC_c, dOp_c, dUn_c, dTst_c, tstK_c, dTru_c, truK_n, truK_b, truK_i, truK_t, truK_l, truK_m, truK_bl, dNot_c, dAnd_c, andK_t, andK_f, dOr_c, orK_t, orK_f, dAndV_c, andV_t, andV_f, dOrV_c, orV_t, orV_f, dNotV_c, dIf_c, iteE_t, iteE_f, dChain_c, chK_t, chK_f, dNil_c, dCons_c, dCB_c, dCall_c, dCall0_c, dTup_c, dLst_c, dFor_c, dLc_c, iTp_c, tpK_c, iLst_c, lsK_d, lsK_m, iSeq_c, sqK_d, sqK_m, sqK_b, dSl_c, dNo_c, dPt_c, ptK_c, dYes_c, dBack_k, backK_c, dTupRg_c, dLstRg_c, dRg1_c, dRg2_c, rg1K_c, rg2K_c, tupRg_c, lstRg_c, dDict0_c, dDict1_c, gdName_c, gdTup_c, gdCons_c, gdNil_c, dApp_c, appK_c, apK_d, apK_m, dVar_c, varK_d, varK_m, varK_b, varK_s, varK_sc, varK_r, dNew_c, varK_mo, varK_bo, setK_mo, retK_mo, dDIn_c, dinK_i, dinK_s, dDGet_c, dDGet1_c, isBo_c, dget1K_i, dDPut_c, dputV_d, dputK_i, val_mo, dOwn0_c, dDispV_c, dispK_i, fRepT_c, fIsB_c, dM0_c, dM1_c, isStr_c, fQ0_c, fQ1_c, fSplit_c, fLenS_c, iEnSD_c, dSetdIf_c, setdB_f, enSK_m, enSK_d, dOrT_c, dAndT_c, orTK_n, dCallK_c, dCallK0_c, dCallD_c, dCallD0_c, dSaid_c, toldK_d, toldK_m, iRg1_c, rgK_c, iRg2_c, rgK2_c, iEnT_c, enK_c, iZp_c, zpK_tt, zpK_mm, zpK_ll, zpK_lm, zpK_ml, dPar_c, parK_im, parK_nm, parK_sm, parK_dd, parK_md]
        cases ns with
        | nil => exact q
        | cons n0 nr =>
          rw [show (List.map PyData.int (n0 :: nr)).isEmpty = false from rfl]
          try simp only [startD, iEn, cvs, cv, vS, Sl.dat, Sl.seq, Sl.sq, Sl.fz, dats, dSetI, dAug, wipeD, List.length_cons, List.length_nil, List.length_append, List.length_replicate, Nat.reduceAdd, Nat.reduceSub, Nat.zero_add, List.replicate_succ, List.replicate_zero, List.cons_append, List.nil_append, List.append_nil, List.set_cons_zero, List.set_cons_succ, List.set_nil, List.getElem?_cons_zero, List.getElem?_cons_succ, Option.getD_some, List.map_cons, List.map_nil, Option.bind_some, fI0_c, fI_c, fU_c, fAddX_i, fAddX_t, fAddX_s, fAddX_mm, fAddX_bm, fAddX_mb, fAddX_bb, fAddX_lm, fAddX_ll, fMulX_i, fMulX_m, fSlX_t, fSlX_m, fSlX_b, fSlX_l, fIs_n, fIs_i, fIs_b, fIs_s, fIs_l, fIs_t, fIs_m, fIs_bl, fLen_t, fLen_l, fLen_m, fLen_b, fLen_scr, fIsi_c, fEqD_c, fEqD_mm, fEqD_bm, fEqD_bb, fEqD_dm, fEq_ss, fInt_i, fInt_b, fTuple_m, fTuple_b, fTuple_t, fTuple_l, fList_m, fList_b, fList_t, fList_l, f2I_c, fRepr_c, fRepr_m, fRepr_b, fStr_c, Bool.not_true, Bool.not_false, true_and, netT, Road.dt, reduceIte, Bool.false_eq_true, decide_true, decide_false, tupK, lstK, dNext_c, dBreak_c, dCont_c, dSeq_c, dDrop_c, dRet_c, retK_d, retK_m, retK_r, dRetN_c, dIfS_c, iteS_t, iteS_f, dSet_c, setK_d, setK_m, setK_s, setK_r, dAsg_c, asgK_d, asgK_m, dFz_c, dNever_c, dRaise_c, dC_c, dOp_c, dUn_c, dTst_c, tstK_c, dTru_c, truK_n, truK_b, truK_i, truK_t, truK_l, truK_m, truK_bl, dNot_c, dAnd_c, andK_t, andK_f, dOr_c, orK_t, orK_f, dAndV_c, andV_t, andV_f, dOrV_c, orV_t, orV_f, dNotV_c, dIf_c, iteE_t, iteE_f, dChain_c, chK_t, chK_f, dNil_c, dCons_c, dCB_c, dCall_c, dCall0_c, dTup_c, dLst_c, dFor_c, dLc_c, iTp_c, tpK_c, iLst_c, lsK_d, lsK_m, iSeq_c, sqK_d, sqK_m, sqK_b, dSl_c, dNo_c, dPt_c, ptK_c, dYes_c, dBack_k, backK_c, dTupRg_c, dLstRg_c, dRg1_c, dRg2_c, rg1K_c, rg2K_c, tupRg_c, lstRg_c, dDict0_c, dDict1_c, gdName_c, gdTup_c, gdCons_c, gdNil_c, dApp_c, appK_c, apK_d, apK_m, dVar_c, varK_d, varK_m, varK_b, varK_s, varK_sc, varK_r, dNew_c, varK_mo, varK_bo, setK_mo, retK_mo, dDIn_c, dinK_i, dinK_s, dDGet_c, dDGet1_c, isBo_c, dget1K_i, dDPut_c, dputV_d, dputK_i, val_mo, dOwn0_c, dDispV_c, dispK_i, fRepT_c, fIsB_c, dM0_c, dM1_c, isStr_c, fQ0_c, fQ1_c, fSplit_c, fLenS_c, iEnSD_c, dSetdIf_c, setdB_f, enSK_m, enSK_d, dOrT_c, dAndT_c, orTK_n, dCallK_c, dCallK0_c, dCallD_c, dCallD0_c, dSaid_c, toldK_d, toldK_m, iRg1_c, rgK_c, iRg2_c, rgK2_c, iEnT_c, enK_c, iZp_c, zpK_tt, zpK_mm, zpK_ll, zpK_lm, zpK_ml, dPar_c, parK_im, parK_nm, parK_sm, parK_dd, parK_md]
          have q : Qd (.d (.str (joinS (n0 :: nr)))) := q
          rw [show PyData.int n0 :: List.map PyData.int nr = (n0 :: nr).map PyData.int from rfl]
          refine lcD_each PyData.int (fun n => .str (numS n)) (n0 :: nr) (fun n hm acc N ha hN => ?_) (by omega) ?_
          · have := hn n hm
            unfold lcStep
            try simp only [startD, iEn, cvs, cv, vS, Sl.dat, Sl.seq, Sl.sq, Sl.fz, dats, dSetI, dAug, wipeD, List.length_cons, List.length_nil, List.length_append, List.length_replicate, Nat.reduceAdd, Nat.reduceSub, Nat.zero_add, List.replicate_succ, List.replicate_zero, List.cons_append, List.nil_append, List.append_nil, List.set_cons_zero, List.set_cons_succ, List.set_nil, List.getElem?_cons_zero, List.getElem?_cons_succ, Option.getD_some, List.map_cons, List.map_nil, Option.bind_some, fI0_c, fI_c, fU_c, fAddX_i, fAddX_t, fAddX_s, fAddX_mm, fAddX_bm, fAddX_mb, fAddX_bb, fAddX_lm, fAddX_ll, fMulX_i, fMulX_m, fSlX_t, fSlX_m, fSlX_b, fSlX_l, fIs_n, fIs_i, fIs_b, fIs_s, fIs_l, fIs_t, fIs_m, fIs_bl, fLen_t, fLen_l, fLen_m, fLen_b, fLen_scr, fIsi_c, fEqD_c, fEqD_mm, fEqD_bm, fEqD_bb, fEqD_dm, fEq_ss, fInt_i, fInt_b, fTuple_m, fTuple_b, fTuple_t, fTuple_l, fList_m, fList_b, fList_t, fList_l, f2I_c, fRepr_c, fRepr_m, fRepr_b, fStr_c, Bool.not_true, Bool.not_false, true_and, netT, Road.dt, reduceIte, Bool.false_eq_true, decide_true, decide_false, tupK, lstK, dNext_c, dBreak_c, dCont_c, dSeq_c, dDrop_c, dRet_c, retK_d, retK_m, retK_r, dRetN_c, dIfS_c, iteS_t, iteS_f, dSet_c, setK_d, setK_m, setK_s, setK_r, dAsg_c, asgK_d, asgK_m, dFz_c, dNever_c, dRaise_c, dC_c, dOp_c, dUn_c, dTst_c, tstK_c, dTru_c, truK_n, truK_b, truK_i, truK_t, truK_l, truK_m, truK_bl, dNot_c, dAnd_c, andK_t, andK_f, dOr_c, orK_t, orK_f, dAndV_c, andV_t, andV_f, dOrV_c, orV_t, orV_f, dNotV_c, dIf_c, iteE_t, iteE_f, dChain_c, chK_t, chK_f, dNil_c, dCons_c, dCB_c, dCall_c, dCall0_c, dTup_c, dLst_c, dFor_c, dLc_c, iTp_c, tpK_c, iLst_c, lsK_d, lsK_m, iSeq_c, sqK_d, sqK_m, sqK_b, dSl_c, dNo_c, dPt_c, ptK_c, dYes_c, dBack_k, backK_c, dTupRg_c, dLstRg_c, dRg1_c, dRg2_c, rg1K_c, rg2K_c, tupRg_c, lstRg_c, dDict0_c, dDict1_c, gdName_c, gdTup_c, gdCons_c, gdNil_c, dApp_c, appK_c, apK_d, apK_m, dVar_c, varK_d, varK_m, varK_b, varK_s, varK_sc, varK_r, dNew_c, varK_mo, varK_bo, setK_mo, retK_mo, dDIn_c, dinK_i, dinK_s, dDGet_c, dDGet1_c, isBo_c, dget1K_i, dDPut_c, dputV_d, dputK_i, val_mo, dOwn0_c, dDispV_c, dispK_i, fRepT_c, fIsB_c, dM0_c, dM1_c, isStr_c, fQ0_c, fQ1_c, fSplit_c, fLenS_c, iEnSD_c, dSetdIf_c, setdB_f, enSK_m, enSK_d, dOrT_c, dAndT_c, orTK_n, dCallK_c, dCallK0_c, dCallD_c, dCallD0_c, dSaid_c, toldK_d, toldK_m, iRg1_c, rgK_c, iRg2_c, rgK2_c, iEnT_c, enK_c, iZp_c, zpK_tt, zpK_mm, zpK_ll, zpK_lm, zpK_ml, dPar_c, parK_im, parK_nm, parK_sm, parK_dd, parK_md]
            exact ⟨num_log this.1 (by omega), ha, hN⟩
          rw [show ((n0 :: nr).map fun n => PyData.str (numS n)) = ((n0 :: nr).map numS).map PyData.str from by rw [List.map_map]; rfl]
          exact fJoin_m (joinS_sum hn hl) q
    | _ =>
      rcases h with ⟨_, q⟩ | ⟨ns, e, _⟩
      · exact ⟨.inr (.inr (.inl rfl)), q⟩
      · cases e
theorem sc__law_is_way : FnScope ["_law_what", "_law_one"] ["_law_what"] (defScope s__law_is_way) := ⟨rfl, rfl, rfl, by decide +kernel, rfl, by decide +kernel, by decide +kernel⟩
def sd__law_is_way : SpD := fun ss Qd _ => ∃ x, ss = [.d x] ∧ (∀ xs, x = .tuple xs → xs.length ≤ 100 ∧ ∀ e ∈ xs, Lay e 5) ∧ Qd (.d (.bool (wayD x)))
theorem c__law_is_way (T : Tx K mg C) : Cb P w K mg base CX0 2 "_law_is_way" ["_law_what"] (spD K [] sd__law_is_way) := by
  obtain ⟨f, fd, D⟩ := T.h__law_is_way
  refine ⟨f, fd, okD (k := 1) D.F sc__law_is_way (fun ss Qd R h => ?_) (fun cdv A outer s H E hr => ⟨_, (pss_one (ps_ret (pe_and (pe_callB (call_isiQ (K := K) rfl) (by rfl) T.isinstance (by decide +kernel) (pa_cons (pv 0) (pa_cons (pe_bltn (v := .ty "tuple") (by rfl) T.tuple (by decide +kernel) rfl) pa_nil))) (pe_one (pe_cmpR (op_eqK (K := K) rfl hr.units) (pe_lc (own := [("_law_one", 1)]) (g := (gName 1)) (by rfl) sc__law_is_way.nd (pi_tupK (K := K) rfl (pv 0))
      (blkOk_by (own := [("_law_one", 1)]) (N := ["_law_what", "_law_one"]) (sc := defScope s__law_is_way) (by decide +kernel)) (fun _ _ _ _ _ => (pg_name (i := 1) sc__law_is_way.nd rfl (.inl rfl))) (fun _ _ _ _ _ => (pts_one (pt_not (pt_val (pe_cb (c__law_number (K := K) T) (hr.mono (by decide)) (by rfl) pass0 (pa_cons (pv 1) (pa_cons pe_int (pa_cons pe_int pa_nil)))))))) (fun _ _ _ _ _ => (pv 1))) (pe_lst pa_nil) (nomark _)))))), ?_⟩), D.g, D.F.kp, D.b⟩
  · obtain ⟨_, rfl, _⟩ := h
    rfl
  · refine ⟨_, fun τ => inferInstance, fun ss Qd R h => ?_⟩
    obtain ⟨x, rfl, hl, q⟩ := h
    cases x with
    | tuple xs =>
      obtain ⟨hl, hx⟩ := hl xs rfl
      try simp only [startD, iEn, cvs, cv, vS, Sl.dat, Sl.seq, Sl.sq, Sl.fz, dats, dSetI, dAug, wipeD, List.length_cons, List.length_nil, List.length_append, List.length_replicate, Nat.reduceAdd, Nat.reduceSub, Nat.zero_add, List.replicate_succ, List.replicate_zero, List.cons_append, List.nil_append, List.append_nil, List.set_cons_zero, List.set_cons_succ, List.set_nil, List.getElem?_cons_zero, List.getElem?_cons_succ, Option.getD_some, List.map_cons, List.map_nil, Option.bind_some, fI0_c, fI_c, fU_c, fAddX_i, fAddX_t, fAddX_s, fAddX_mm, fAddX_bm, fAddX_mb, fAddX_bb, fAddX_lm, fAddX_ll, fMulX_i, fMulX_m, fSlX_t, fSlX_m, fSlX_b, fSlX_l, fIs_n, fIs_i, fIs_b, fIs_s, fIs_l, fIs_t, fIs_m, fIs_bl, fLen_t, fLen_l, fLen_m, fLen_b, fLen_scr, fIsi_c, fEqD_c, fEqD_mm, fEqD_bm, fEqD_bb, fEqD_dm, fEq_ss, fInt_i, fInt_b, fTuple_m, fTuple_b, fTuple_t, fTuple_l, fList_m, fList_b, fList_t, fList_l, f2I_c, fRepr_c, fRepr_m, fRepr_b, fStr_c, Bool.not_true, Bool.not_false, true_and, netT, Road.dt, reduceIte, Bool.false_eq_true, decide_true, decide_false, tupK, lstK, dNext_c, dBreak_c, dCont_c, dSeq_c, dDrop_c, dRet_c, retK_d, retK_m, retK_r, dRetN_c, dIfS_c, iteS_t, iteS_f, dSet_c, setK_d, setK_m, setK_s, setK_r, dAsg_c, asgK_d, asgK_m, dFz_c, dNever_c, dRaise_c, dC_c, dOp_c, dUn_c, dTst_c, tstK_c, dTru_c, truK_n, truK_b, truK_i, truK_t, truK_l, truK_m, truK_bl, dNot_c, dAnd_c, andK_t, andK_f, dOr_c, orK_t, orK_f, dAndV_c, andV_t, andV_f, dOrV_c, orV_t, orV_f, dNotV_c, dIf_c, iteE_t, iteE_f, dChain_c, chK_t, chK_f, dNil_c, dCons_c, dCB_c, dCall_c, dCall0_c, dTup_c, dLst_c, dFor_c, dLc_c, iTp_c, tpK_c, iLst_c, lsK_d, lsK_m, iSeq_c, sqK_d, sqK_m, sqK_b, dSl_c, dNo_c, dPt_c, ptK_c, dYes_c, dBack_k, backK_c, dTupRg_c, dLstRg_c, dRg1_c, dRg2_c, rg1K_c, rg2K_c, tupRg_c, lstRg_c, dDict0_c, dDict1_c, gdName_c, gdTup_c, gdCons_c, gdNil_c, dApp_c, appK_c, apK_d, apK_m, dVar_c, varK_d, varK_m, varK_b, varK_s, varK_sc, varK_r, dNew_c, varK_mo, varK_bo, setK_mo, retK_mo, dDIn_c, dinK_i, dinK_s, dDGet_c, dDGet1_c, isBo_c, dget1K_i, dDPut_c, dputV_d, dputK_i, val_mo, dOwn0_c, dDispV_c, dispK_i, fRepT_c, fIsB_c, dM0_c, dM1_c, isStr_c, fQ0_c, fQ1_c, fSplit_c, fLenS_c, iEnSD_c, dSetdIf_c, setdB_f, enSK_m, enSK_d, dOrT_c, dAndT_c, orTK_n, dCallK_c, dCallK0_c, dCallD_c, dCallD0_c, dSaid_c, toldK_d, toldK_m, iRg1_c, rgK_c, iRg2_c, rgK2_c, iEnT_c, enK_c, iZp_c, zpK_tt, zpK_mm, zpK_ll, zpK_lm, zpK_ml, dPar_c, parK_im, parK_nm, parK_sm, parK_dd, parK_md]
      refine ⟨.inr (.inr (.inl rfl)), ?_⟩
      rw [show isiD (tyD (PyData.tuple xs)) "tuple" = true from rfl]
      try simp only [startD, iEn, cvs, cv, vS, Sl.dat, Sl.seq, Sl.sq, Sl.fz, dats, dSetI, dAug, wipeD, List.length_cons, List.length_nil, List.length_append, List.length_replicate, Nat.reduceAdd, Nat.reduceSub, Nat.zero_add, List.replicate_succ, List.replicate_zero, List.cons_append, List.nil_append, List.append_nil, List.set_cons_zero, List.set_cons_succ, List.set_nil, List.getElem?_cons_zero, List.getElem?_cons_succ, Option.getD_some, List.map_cons, List.map_nil, Option.bind_some, fI0_c, fI_c, fU_c, fAddX_i, fAddX_t, fAddX_s, fAddX_mm, fAddX_bm, fAddX_mb, fAddX_bb, fAddX_lm, fAddX_ll, fMulX_i, fMulX_m, fSlX_t, fSlX_m, fSlX_b, fSlX_l, fIs_n, fIs_i, fIs_b, fIs_s, fIs_l, fIs_t, fIs_m, fIs_bl, fLen_t, fLen_l, fLen_m, fLen_b, fLen_scr, fIsi_c, fEqD_c, fEqD_mm, fEqD_bm, fEqD_bb, fEqD_dm, fEq_ss, fInt_i, fInt_b, fTuple_m, fTuple_b, fTuple_t, fTuple_l, fList_m, fList_b, fList_t, fList_l, f2I_c, fRepr_c, fRepr_m, fRepr_b, fStr_c, Bool.not_true, Bool.not_false, true_and, netT, Road.dt, reduceIte, Bool.false_eq_true, decide_true, decide_false, tupK, lstK, dNext_c, dBreak_c, dCont_c, dSeq_c, dDrop_c, dRet_c, retK_d, retK_m, retK_r, dRetN_c, dIfS_c, iteS_t, iteS_f, dSet_c, setK_d, setK_m, setK_s, setK_r, dAsg_c, asgK_d, asgK_m, dFz_c, dNever_c, dRaise_c, dC_c, dOp_c, dUn_c, dTst_c, tstK_c, dTru_c, truK_n, truK_b, truK_i, truK_t, truK_l, truK_m, truK_bl, dNot_c, dAnd_c, andK_t, andK_f, dOr_c, orK_t, orK_f, dAndV_c, andV_t, andV_f, dOrV_c, orV_t, orV_f, dNotV_c, dIf_c, iteE_t, iteE_f, dChain_c, chK_t, chK_f, dNil_c, dCons_c, dCB_c, dCall_c, dCall0_c, dTup_c, dLst_c, dFor_c, dLc_c, iTp_c, tpK_c, iLst_c, lsK_d, lsK_m, iSeq_c, sqK_d, sqK_m, sqK_b, dSl_c, dNo_c, dPt_c, ptK_c, dYes_c, dBack_k, backK_c, dTupRg_c, dLstRg_c, dRg1_c, dRg2_c, rg1K_c, rg2K_c, tupRg_c, lstRg_c, dDict0_c, dDict1_c, gdName_c, gdTup_c, gdCons_c, gdNil_c, dApp_c, appK_c, apK_d, apK_m, dVar_c, varK_d, varK_m, varK_b, varK_s, varK_sc, varK_r, dNew_c, varK_mo, varK_bo, setK_mo, retK_mo, dDIn_c, dinK_i, dinK_s, dDGet_c, dDGet1_c, isBo_c, dget1K_i, dDPut_c, dputV_d, dputK_i, val_mo, dOwn0_c, dDispV_c, dispK_i, fRepT_c, fIsB_c, dM0_c, dM1_c, isStr_c, fQ0_c, fQ1_c, fSplit_c, fLenS_c, iEnSD_c, dSetdIf_c, setdB_f, enSK_m, enSK_d, dOrT_c, dAndT_c, orTK_n, dCallK_c, dCallK0_c, dCallD_c, dCallD0_c, dSaid_c, toldK_d, toldK_m, iRg1_c, rgK_c, iRg2_c, rgK2_c, iEnT_c, enK_c, iZp_c, zpK_tt, zpK_mm, zpK_ll, zpK_lm, zpK_ml, dPar_c, parK_im, parK_nm, parK_sm, parK_dd, parK_md]
      refine lcD_filter (fun d => !withinD 0 29 d) id xs [] (fun d hd acc N ha hT hF => ?_) (by rw [List.length_nil]; omega) ?_
      · unfold lcStep
        try simp only [startD, iEn, cvs, cv, vS, Sl.dat, Sl.seq, Sl.sq, Sl.fz, dats, dSetI, dAug, wipeD, List.length_cons, List.length_nil, List.length_append, List.length_replicate, Nat.reduceAdd, Nat.reduceSub, Nat.zero_add, List.replicate_succ, List.replicate_zero, List.cons_append, List.nil_append, List.append_nil, List.set_cons_zero, List.set_cons_succ, List.set_nil, List.getElem?_cons_zero, List.getElem?_cons_succ, Option.getD_some, List.map_cons, List.map_nil, Option.bind_some, fI0_c, fI_c, fU_c, fAddX_i, fAddX_t, fAddX_s, fAddX_mm, fAddX_bm, fAddX_mb, fAddX_bb, fAddX_lm, fAddX_ll, fMulX_i, fMulX_m, fSlX_t, fSlX_m, fSlX_b, fSlX_l, fIs_n, fIs_i, fIs_b, fIs_s, fIs_l, fIs_t, fIs_m, fIs_bl, fLen_t, fLen_l, fLen_m, fLen_b, fLen_scr, fIsi_c, fEqD_c, fEqD_mm, fEqD_bm, fEqD_bb, fEqD_dm, fEq_ss, fInt_i, fInt_b, fTuple_m, fTuple_b, fTuple_t, fTuple_l, fList_m, fList_b, fList_t, fList_l, f2I_c, fRepr_c, fRepr_m, fRepr_b, fStr_c, Bool.not_true, Bool.not_false, true_and, netT, Road.dt, reduceIte, Bool.false_eq_true, decide_true, decide_false, tupK, lstK, dNext_c, dBreak_c, dCont_c, dSeq_c, dDrop_c, dRet_c, retK_d, retK_m, retK_r, dRetN_c, dIfS_c, iteS_t, iteS_f, dSet_c, setK_d, setK_m, setK_s, setK_r, dAsg_c, asgK_d, asgK_m, dFz_c, dNever_c, dRaise_c, dC_c, dOp_c, dUn_c, dTst_c, tstK_c, dTru_c, truK_n, truK_b, truK_i, truK_t, truK_l, truK_m, truK_bl, dNot_c, dAnd_c, andK_t, andK_f, dOr_c, orK_t, orK_f, dAndV_c, andV_t, andV_f, dOrV_c, orV_t, orV_f, dNotV_c, dIf_c, iteE_t, iteE_f, dChain_c, chK_t, chK_f, dNil_c, dCons_c, dCB_c, dCall_c, dCall0_c, dTup_c, dLst_c, dFor_c, dLc_c, iTp_c, tpK_c, iLst_c, lsK_d, lsK_m, iSeq_c, sqK_d, sqK_m, sqK_b, dSl_c, dNo_c, dPt_c, ptK_c, dYes_c, dBack_k, backK_c, dTupRg_c, dLstRg_c, dRg1_c, dRg2_c, rg1K_c, rg2K_c, tupRg_c, lstRg_c, dDict0_c, dDict1_c, gdName_c, gdTup_c, gdCons_c, gdNil_c, dApp_c, appK_c, apK_d, apK_m, dVar_c, varK_d, varK_m, varK_b, varK_s, varK_sc, varK_r, dNew_c, varK_mo, varK_bo, setK_mo, retK_mo, dDIn_c, dinK_i, dinK_s, dDGet_c, dDGet1_c, isBo_c, dget1K_i, dDPut_c, dputV_d, dputK_i, val_mo, dOwn0_c, dDispV_c, dispK_i, fRepT_c, fIsB_c, dM0_c, dM1_c, isStr_c, fQ0_c, fQ1_c, fSplit_c, fLenS_c, iEnSD_c, dSetdIf_c, setdB_f, enSK_m, enSK_d, dOrT_c, dAndT_c, orTK_n, dCallK_c, dCallK0_c, dCallD_c, dCallD0_c, dSaid_c, toldK_d, toldK_m, iRg1_c, rgK_c, iRg2_c, rgK2_c, iEnT_c, enK_c, iZp_c, zpK_tt, zpK_mm, zpK_ll, zpK_lm, zpK_ml, dPar_c, parK_im, parK_nm, parK_sm, parK_dd, parK_md]
        refine ⟨d, 0, 29, rfl, ?_⟩
        cases e : withinD 0 29 d with
        | true =>
          rw [e] at hF
          try simp only [startD, iEn, cvs, cv, vS, Sl.dat, Sl.seq, Sl.sq, Sl.fz, dats, dSetI, dAug, wipeD, List.length_cons, List.length_nil, List.length_append, List.length_replicate, Nat.reduceAdd, Nat.reduceSub, Nat.zero_add, List.replicate_succ, List.replicate_zero, List.cons_append, List.nil_append, List.append_nil, List.set_cons_zero, List.set_cons_succ, List.set_nil, List.getElem?_cons_zero, List.getElem?_cons_succ, Option.getD_some, List.map_cons, List.map_nil, Option.bind_some, fI0_c, fI_c, fU_c, fAddX_i, fAddX_t, fAddX_s, fAddX_mm, fAddX_bm, fAddX_mb, fAddX_bb, fAddX_lm, fAddX_ll, fMulX_i, fMulX_m, fSlX_t, fSlX_m, fSlX_b, fSlX_l, fIs_n, fIs_i, fIs_b, fIs_s, fIs_l, fIs_t, fIs_m, fIs_bl, fLen_t, fLen_l, fLen_m, fLen_b, fLen_scr, fIsi_c, fEqD_c, fEqD_mm, fEqD_bm, fEqD_bb, fEqD_dm, fEq_ss, fInt_i, fInt_b, fTuple_m, fTuple_b, fTuple_t, fTuple_l, fList_m, fList_b, fList_t, fList_l, f2I_c, fRepr_c, fRepr_m, fRepr_b, fStr_c, Bool.not_true, Bool.not_false, true_and, netT, Road.dt, reduceIte, Bool.false_eq_true, decide_true, decide_false, tupK, lstK, dNext_c, dBreak_c, dCont_c, dSeq_c, dDrop_c, dRet_c, retK_d, retK_m, retK_r, dRetN_c, dIfS_c, iteS_t, iteS_f, dSet_c, setK_d, setK_m, setK_s, setK_r, dAsg_c, asgK_d, asgK_m, dFz_c, dNever_c, dRaise_c, dC_c, dOp_c, dUn_c, dTst_c, tstK_c, dTru_c, truK_n, truK_b, truK_i, truK_t, truK_l, truK_m, truK_bl, dNot_c, dAnd_c, andK_t, andK_f, dOr_c, orK_t, orK_f, dAndV_c, andV_t, andV_f, dOrV_c, orV_t, orV_f, dNotV_c, dIf_c, iteE_t, iteE_f, dChain_c, chK_t, chK_f, dNil_c, dCons_c, dCB_c, dCall_c, dCall0_c, dTup_c, dLst_c, dFor_c, dLc_c, iTp_c, tpK_c, iLst_c, lsK_d, lsK_m, iSeq_c, sqK_d, sqK_m, sqK_b, dSl_c, dNo_c, dPt_c, ptK_c, dYes_c, dBack_k, backK_c, dTupRg_c, dLstRg_c, dRg1_c, dRg2_c, rg1K_c, rg2K_c, tupRg_c, lstRg_c, dDict0_c, dDict1_c, gdName_c, gdTup_c, gdCons_c, gdNil_c, dApp_c, appK_c, apK_d, apK_m, dVar_c, varK_d, varK_m, varK_b, varK_s, varK_sc, varK_r, dNew_c, varK_mo, varK_bo, setK_mo, retK_mo, dDIn_c, dinK_i, dinK_s, dDGet_c, dDGet1_c, isBo_c, dget1K_i, dDPut_c, dputV_d, dputK_i, val_mo, dOwn0_c, dDispV_c, dispK_i, fRepT_c, fIsB_c, dM0_c, dM1_c, isStr_c, fQ0_c, fQ1_c, fSplit_c, fLenS_c, iEnSD_c, dSetdIf_c, setdB_f, enSK_m, enSK_d, dOrT_c, dAndT_c, orTK_n, dCallK_c, dCallK0_c, dCallD_c, dCallD0_c, dSaid_c, toldK_d, toldK_m, iRg1_c, rgK_c, iRg2_c, rgK2_c, iEnT_c, enK_c, iZp_c, zpK_tt, zpK_mm, zpK_ll, zpK_lm, zpK_ml, dPar_c, parK_im, parK_nm, parK_sm, parK_dd, parK_md]
          exact hF rfl
        | false =>
          rw [e] at hT
          try simp only [startD, iEn, cvs, cv, vS, Sl.dat, Sl.seq, Sl.sq, Sl.fz, dats, dSetI, dAug, wipeD, List.length_cons, List.length_nil, List.length_append, List.length_replicate, Nat.reduceAdd, Nat.reduceSub, Nat.zero_add, List.replicate_succ, List.replicate_zero, List.cons_append, List.nil_append, List.append_nil, List.set_cons_zero, List.set_cons_succ, List.set_nil, List.getElem?_cons_zero, List.getElem?_cons_succ, Option.getD_some, List.map_cons, List.map_nil, Option.bind_some, fI0_c, fI_c, fU_c, fAddX_i, fAddX_t, fAddX_s, fAddX_mm, fAddX_bm, fAddX_mb, fAddX_bb, fAddX_lm, fAddX_ll, fMulX_i, fMulX_m, fSlX_t, fSlX_m, fSlX_b, fSlX_l, fIs_n, fIs_i, fIs_b, fIs_s, fIs_l, fIs_t, fIs_m, fIs_bl, fLen_t, fLen_l, fLen_m, fLen_b, fLen_scr, fIsi_c, fEqD_c, fEqD_mm, fEqD_bm, fEqD_bb, fEqD_dm, fEq_ss, fInt_i, fInt_b, fTuple_m, fTuple_b, fTuple_t, fTuple_l, fList_m, fList_b, fList_t, fList_l, f2I_c, fRepr_c, fRepr_m, fRepr_b, fStr_c, Bool.not_true, Bool.not_false, true_and, netT, Road.dt, reduceIte, Bool.false_eq_true, decide_true, decide_false, tupK, lstK, dNext_c, dBreak_c, dCont_c, dSeq_c, dDrop_c, dRet_c, retK_d, retK_m, retK_r, dRetN_c, dIfS_c, iteS_t, iteS_f, dSet_c, setK_d, setK_m, setK_s, setK_r, dAsg_c, asgK_d, asgK_m, dFz_c, dNever_c, dRaise_c, dC_c, dOp_c, dUn_c, dTst_c, tstK_c, dTru_c, truK_n, truK_b, truK_i, truK_t, truK_l, truK_m, truK_bl, dNot_c, dAnd_c, andK_t, andK_f, dOr_c, orK_t, orK_f, dAndV_c, andV_t, andV_f, dOrV_c, orV_t, orV_f, dNotV_c, dIf_c, iteE_t, iteE_f, dChain_c, chK_t, chK_f, dNil_c, dCons_c, dCB_c, dCall_c, dCall0_c, dTup_c, dLst_c, dFor_c, dLc_c, iTp_c, tpK_c, iLst_c, lsK_d, lsK_m, iSeq_c, sqK_d, sqK_m, sqK_b, dSl_c, dNo_c, dPt_c, ptK_c, dYes_c, dBack_k, backK_c, dTupRg_c, dLstRg_c, dRg1_c, dRg2_c, rg1K_c, rg2K_c, tupRg_c, lstRg_c, dDict0_c, dDict1_c, gdName_c, gdTup_c, gdCons_c, gdNil_c, dApp_c, appK_c, apK_d, apK_m, dVar_c, varK_d, varK_m, varK_b, varK_s, varK_sc, varK_r, dNew_c, varK_mo, varK_bo, setK_mo, retK_mo, dDIn_c, dinK_i, dinK_s, dDGet_c, dDGet1_c, isBo_c, dget1K_i, dDPut_c, dputV_d, dputK_i, val_mo, dOwn0_c, dDispV_c, dispK_i, fRepT_c, fIsB_c, dM0_c, dM1_c, isStr_c, fQ0_c, fQ1_c, fSplit_c, fLenS_c, iEnSD_c, dSetdIf_c, setdB_f, enSK_m, enSK_d, dOrT_c, dAndT_c, orTK_n, dCallK_c, dCallK0_c, dCallD_c, dCallD0_c, dSaid_c, toldK_d, toldK_m, iRg1_c, rgK_c, iRg2_c, rgK2_c, iEnT_c, enK_c, iZp_c, zpK_tt, zpK_mm, zpK_ll, zpK_lm, zpK_ml, dPar_c, parK_im, parK_nm, parK_sm, parK_dd, parK_md]
          exact ⟨ha, hT rfl⟩
      try simp only [startD, iEn, cvs, cv, vS, Sl.dat, Sl.seq, Sl.sq, Sl.fz, dats, dSetI, dAug, wipeD, List.length_cons, List.length_nil, List.length_append, List.length_replicate, Nat.reduceAdd, Nat.reduceSub, Nat.zero_add, List.replicate_succ, List.replicate_zero, List.cons_append, List.nil_append, List.append_nil, List.set_cons_zero, List.set_cons_succ, List.set_nil, List.getElem?_cons_zero, List.getElem?_cons_succ, Option.getD_some, List.map_cons, List.map_nil, Option.bind_some, fI0_c, fI_c, fU_c, fAddX_i, fAddX_t, fAddX_s, fAddX_mm, fAddX_bm, fAddX_mb, fAddX_bb, fAddX_lm, fAddX_ll, fMulX_i, fMulX_m, fSlX_t, fSlX_m, fSlX_b, fSlX_l, fIs_n, fIs_i, fIs_b, fIs_s, fIs_l, fIs_t, fIs_m, fIs_bl, fLen_t, fLen_l, fLen_m, fLen_b, fLen_scr, fIsi_c, fEqD_c, fEqD_mm, fEqD_bm, fEqD_bb, fEqD_dm, fEq_ss, fInt_i, fInt_b, fTuple_m, fTuple_b, fTuple_t, fTuple_l, fList_m, fList_b, fList_t, fList_l, f2I_c, fRepr_c, fRepr_m, fRepr_b, fStr_c, Bool.not_true, Bool.not_false, true_and, netT, Road.dt, reduceIte, Bool.false_eq_true, decide_true, decide_false, tupK, lstK, dNext_c, dBreak_c, dCont_c, dSeq_c, dDrop_c, dRet_c, retK_d, retK_m, retK_r, dRetN_c, dIfS_c, iteS_t, iteS_f, dSet_c, setK_d, setK_m, setK_s, setK_r, dAsg_c, asgK_d, asgK_m, dFz_c, dNever_c, dRaise_c, dC_c, dOp_c, dUn_c, dTst_c, tstK_c, dTru_c, truK_n, truK_b, truK_i, truK_t, truK_l, truK_m, truK_bl, dNot_c, dAnd_c, andK_t, andK_f, dOr_c, orK_t, orK_f, dAndV_c, andV_t, andV_f, dOrV_c, orV_t, orV_f, dNotV_c, dIf_c, iteE_t, iteE_f, dChain_c, chK_t, chK_f, dNil_c, dCons_c, dCB_c, dCall_c, dCall0_c, dTup_c, dLst_c, dFor_c, dLc_c, iTp_c, tpK_c, iLst_c, lsK_d, lsK_m, iSeq_c, sqK_d, sqK_m, sqK_b, dSl_c, dNo_c, dPt_c, ptK_c, dYes_c, dBack_k, backK_c, dTupRg_c, dLstRg_c, dRg1_c, dRg2_c, rg1K_c, rg2K_c, tupRg_c, lstRg_c, dDict0_c, dDict1_c, gdName_c, gdTup_c, gdCons_c, gdNil_c, dApp_c, appK_c, apK_d, apK_m, dVar_c, varK_d, varK_m, varK_b, varK_s, varK_sc, varK_r, dNew_c, varK_mo, varK_bo, setK_mo, retK_mo, dDIn_c, dinK_i, dinK_s, dDGet_c, dDGet1_c, isBo_c, dget1K_i, dDPut_c, dputV_d, dputK_i, val_mo, dOwn0_c, dDispV_c, dispK_i, fRepT_c, fIsB_c, dM0_c, dM1_c, isStr_c, fQ0_c, fQ1_c, fSplit_c, fLenS_c, iEnSD_c, dSetdIf_c, setdB_f, enSK_m, enSK_d, dOrT_c, dAndT_c, orTK_n, dCallK_c, dCallK0_c, dCallD_c, dCallD0_c, dSaid_c, toldK_d, toldK_m, iRg1_c, rgK_c, iRg2_c, rgK2_c, iEnT_c, enK_c, iZp_c, zpK_tt, zpK_mm, zpK_ll, zpK_lm, zpK_ml, dPar_c, parK_im, parK_nm, parK_sm, parK_dd, parK_md]
      try simp only [show ((0 : Nat) ≤ sizeLine) = True from eq_true (by decide), show ((1 : Nat) ≤ sizeLine) = True from eq_true (by decide), show ((2 : Nat) ≤ sizeLine) = True from eq_true (by decide), show ((3 : Nat) ≤ sizeLine) = True from eq_true (by decide), show ((4 : Nat) ≤ sizeLine) = True from eq_true (by decide), show ((5 : Nat) ≤ sizeLine) = True from eq_true (by decide), show ((6 : Nat) ≤ sizeLine) = True from eq_true (by decide), show ((7 : Nat) ≤ sizeLine) = True from eq_true (by decide), show ((8 : Nat) ≤ sizeLine) = True from eq_true (by decide), show ((9 : Nat) ≤ sizeLine) = True from eq_true (by decide), show ((10 : Nat) ≤ sizeLine) = True from eq_true (by decide), show ((11 : Nat) ≤ sizeLine) = True from eq_true (by decide), show ((12 : Nat) ≤ sizeLine) = True from eq_true (by decide), show ((13 : Nat) ≤ sizeLine) = True from eq_true (by decide), show ((14 : Nat) ≤ sizeLine) = True from eq_true (by decide), show ((15 : Nat) ≤ sizeLine) = True from eq_true (by decide), show ((16 : Nat) ≤ sizeLine) = True from eq_true (by decide), show ((17 : Nat) ≤ sizeLine) = True from eq_true (by decide), show ((18 : Nat) ≤ sizeLine) = True from eq_true (by decide), show ((19 : Nat) ≤ sizeLine) = True from eq_true (by decide), show ((20 : Nat) ≤ sizeLine) = True from eq_true (by decide), show ((21 : Nat) ≤ sizeLine) = True from eq_true (by decide), show ((22 : Nat) ≤ sizeLine) = True from eq_true (by decide), show ((23 : Nat) ≤ sizeLine) = True from eq_true (by decide), show ((24 : Nat) ≤ sizeLine) = True from eq_true (by decide), show ((25 : Nat) ≤ sizeLine) = True from eq_true (by decide), show ((26 : Nat) ≤ sizeLine) = True from eq_true (by decide), show ((27 : Nat) ≤ sizeLine) = True from eq_true (by decide), show ((28 : Nat) ≤ sizeLine) = True from eq_true (by decide), show ((29 : Nat) ≤ sizeLine) = True from eq_true (by decide), show ((30 : Nat) ≤ sizeLine) = True from eq_true (by decide), show ((31 : Nat) ≤ sizeLine) = True from eq_true (by decide), show ((32 : Nat) ≤ sizeLine) = True from eq_true (by decide), show ((33 : Nat) ≤ sizeLine) = True from eq_true (by decide), show ((34 : Nat) ≤ sizeLine) = True from eq_true (by decide), show ((35 : Nat) ≤ sizeLine) = True from eq_true (by decide), show ((36 : Nat) ≤ sizeLine) = True from eq_true (by decide), show ((37 : Nat) ≤ sizeLine) = True from eq_true (by decide), show ((38 : Nat) ≤ sizeLine) = True from eq_true (by decide), show ((39 : Nat) ≤ sizeLine) = True from eq_true (by decide), show ((40 : Nat) ≤ sizeLine) = True from eq_true (by decide), true_and]
      rw [List.map_id]
      refine ⟨(lay_lst (n := 5) fun d hd => hx d (List.mem_filter.mp hd).1).sh (by decide), by decide +kernel, ?_⟩
      rw [eqv_nil]
      rw [none_bad]
      exact q
    | _ => exact ⟨.inr (.inr (.inl rfl)), q⟩
theorem sc__law_way_text : FnScope ["_law_what", "_law_found", "_law_at", "_law_road"] ["_law_what"] (defScope s__law_way_text) := ⟨rfl, rfl, rfl, by decide +kernel, rfl, by decide +kernel, by decide +kernel⟩
def sd__law_way_text : SpD := fun ss Qd _ => ∃ ns : List Int, ss = [.d (.tuple (ns.map PyData.int))] ∧ ns.length ≤ 100 ∧ (∀ n ∈ ns, 0 ≤ n ∧ n ≤ 29) ∧ Qd (.d (.str (wayS ns)))
theorem c__law_way_text (T : Tx K mg C) : Cb P w K mg base CX0 1 "_law_way_text" ["_law_what"] (spD K [] sd__law_way_text) := by
  obtain ⟨f, fd, D⟩ := T.h__law_way_text
  refine ⟨f, fd, okD (k := 0) D.F sc__law_way_text (fun ss Qd R h => ?_) (fun cdv A outer s H E hr => ⟨_, (pss_cons (ps_set (i := 1) sc__law_way_text.nd rfl (.inl rfl) pe_str)
    (pss_cons (ps_for PassesOwn.never rfl (pi_enumK (K := K) rfl (by rfl) T.enumerate (pa_cons (pv 0) pa_nil)) (pg_tupK (n := 2) (K := K) rfl (by rfl) (pgs_cons (pg_name (i := 2) sc__law_way_text.nd rfl (.inl rfl)) (pgs_cons (pg_name (i := 3) sc__law_way_text.nd rfl (.inl rfl)) pgs_nil)))
    (pss_one (ps_set (i := 1) sc__law_way_text.nd rfl (.inl rfl) (pe_op (op_addK (K := K) rfl) (pe_op (op_addK (K := K) rfl) (pv 1) (pe_ifExp (pt_cmpR op_gt (pv 2) pe_int (nomark _)) pe_str pe_str)) (pe_callTy call_str_int (by rfl) T.str (by decide +kernel) (pa_cons (pv 3) pa_nil))))))
    (pss_one (ps_ret (pe_ifExp (pt_cmpR (op_neK (K := K) rfl hr.units) (pv 0) (pe_tup pa_nil) (nomark _)) (pv 1) pe_str))))), ?_⟩), D.g, D.F.kp, D.b⟩
  · obtain ⟨_, rfl, _⟩ := h
    rfl
  · refine ⟨_, fun τ => inferInstance, fun ss Qd R h => ?_⟩
    obtain ⟨ns, rfl, hl, hn, q⟩ := h
    try simp only [startD, iEn, cvs, cv, vS, Sl.dat, Sl.seq, Sl.sq, Sl.fz, dats, dSetI, dAug, wipeD, List.length_cons, List.length_nil, List.length_append, List.length_replicate, Nat.reduceAdd, Nat.reduceSub, Nat.zero_add, List.replicate_succ, List.replicate_zero, List.cons_append, List.nil_append, List.append_nil, List.set_cons_zero, List.set_cons_succ, List.set_nil, List.getElem?_cons_zero, List.getElem?_cons_succ, Option.getD_some, List.map_cons, List.map_nil, Option.bind_some, fI0_c, fI_c, fU_c, fAddX_i, fAddX_t, fAddX_s, fAddX_mm, fAddX_bm, fAddX_mb, fAddX_bb, fAddX_lm, fAddX_ll, fMulX_i, fMulX_m, fSlX_t, fSlX_m, fSlX_b, fSlX_l, fIs_n, fIs_i, fIs_b, fIs_s, fIs_l, fIs_t, fIs_m, fIs_bl, fLen_t, fLen_l, fLen_m, fLen_b, fLen_scr, fIsi_c, fEqD_c, fEqD_mm, fEqD_bm, fEqD_bb, fEqD_dm, fEq_ss, fInt_i, fInt_b, fTuple_m, fTuple_b, fTuple_t, fTuple_l, fList_m, fList_b, fList_t, fList_l, f2I_c, fRepr_c, fRepr_m, fRepr_b, fStr_c, Bool.not_true, Bool.not_false, true_and, netT, Road.dt, reduceIte, Bool.false_eq_true, decide_true, decide_false, tupK, lstK, dNext_c, dBreak_c, dCont_c, dSeq_c, dDrop_c, dRet_c, retK_d, retK_m, retK_r, dRetN_c, dIfS_c, iteS_t, iteS_f, dSet_c, setK_d, setK_m, setK_s, setK_r, dAsg_c, asgK_d, asgK_m, dFz_c, dNever_c, dRaise_c, dC_c, dOp_c, dUn_c, dTst_c, tstK_c, dTru_c, truK_n, truK_b, truK_i, truK_t, truK_l, truK_m, truK_bl, dNot_c, dAnd_c, andK_t, andK_f, dOr_c, orK_t, orK_f, dAndV_c, andV_t, andV_f, dOrV_c, orV_t, orV_f, dNotV_c, dIf_c, iteE_t, iteE_f, dChain_c, chK_t, chK_f, dNil_c, dCons_c, dCB_c, dCall_c, dCall0_c, dTup_c, dLst_c, dFor_c, dLc_c, iTp_c, tpK_c, iLst_c, lsK_d, lsK_m, iSeq_c, sqK_d, sqK_m, sqK_b, dSl_c, dNo_c, dPt_c, ptK_c, dYes_c, dBack_k, backK_c, dTupRg_c, dLstRg_c, dRg1_c, dRg2_c, rg1K_c, rg2K_c, tupRg_c, lstRg_c, dDict0_c, dDict1_c, gdName_c, gdTup_c, gdCons_c, gdNil_c, dApp_c, appK_c, apK_d, apK_m, dVar_c, varK_d, varK_m, varK_b, varK_s, varK_sc, varK_r, dNew_c, varK_mo, varK_bo, setK_mo, retK_mo, dDIn_c, dinK_i, dinK_s, dDGet_c, dDGet1_c, isBo_c, dget1K_i, dDPut_c, dputV_d, dputK_i, val_mo, dOwn0_c, dDispV_c, dispK_i, fRepT_c, fIsB_c, dM0_c, dM1_c, isStr_c, fQ0_c, fQ1_c, fSplit_c, fLenS_c, iEnSD_c, dSetdIf_c, setdB_f, enSK_m, enSK_d, dOrT_c, dAndT_c, orTK_n, dCallK_c, dCallK0_c, dCallD_c, dCallD0_c, dSaid_c, toldK_d, toldK_m, iRg1_c, rgK_c, iRg2_c, rgK2_c, iEnT_c, enK_c, iZp_c, zpK_tt, zpK_mm, zpK_ll, zpK_lm, zpK_ml, dPar_c, parK_im, parK_nm, parK_sm, parK_dd, parK_md]
    refine forD_by (fun i ρ => ∃ y2 y3, ρ = [.d (.tuple (ns.map PyData.int)), .d (.str (joinS (ns.take i))), y2, y3]) ⟨_, _, rfl⟩ (fun i d ρ N hd h hN => ?_) (fun ρ h => ?_)
    · obtain ⟨y2, y3, rfl⟩ := h
      obtain ⟨x, ex, rfl⟩ := enumD_get hd
      rw [List.getElem?_map] at ex
      obtain ⟨n, en, rfl⟩ := Option.map_eq_some_iff.mp ex
      have hm := hn n (List.mem_of_getElem? en)
      have hi : i < ns.length := (List.getElem?_eq_some_iff.mp en).1
      have lj := joinS_len (ns := ns.take i) (fun m hm => hn m (List.mem_of_mem_take hm)) (by rw [List.length_take]; omega)
      have ln := num_len hm.1 (by omega)
      have big : ∀ n, n ≤ 1000 → n ≤ sizeLine := fun n h => Nat.le_of_lt (line_1000 (by omega))
      have snoc := joinS_snoc (ns.take i) n
      rw [show ns.take i ++ [n] = ns.take (i + 1) from by rw [List.take_add_one, en]; rfl] at snoc
      try simp only [startD, iEn, cvs, cv, vS, Sl.dat, Sl.seq, Sl.sq, Sl.fz, dats, dSetI, dAug, wipeD, List.length_cons, List.length_nil, List.length_append, List.length_replicate, Nat.reduceAdd, Nat.reduceSub, Nat.zero_add, List.replicate_succ, List.replicate_zero, List.cons_append, List.nil_append, List.append_nil, List.set_cons_zero, List.set_cons_succ, List.set_nil, List.getElem?_cons_zero, List.getElem?_cons_succ, Option.getD_some, List.map_cons, List.map_nil, Option.bind_some, fI0_c, fI_c, fU_c, fAddX_i, fAddX_t, fAddX_s, fAddX_mm, fAddX_bm, fAddX_mb, fAddX_bb, fAddX_lm, fAddX_ll, fMulX_i, fMulX_m, fSlX_t, fSlX_m, fSlX_b, fSlX_l, fIs_n, fIs_i, fIs_b, fIs_s, fIs_l, fIs_t, fIs_m, fIs_bl, fLen_t, fLen_l, fLen_m, fLen_b, fLen_scr, fIsi_c, fEqD_c, fEqD_mm, fEqD_bm, fEqD_bb, fEqD_dm, fEq_ss, fInt_i, fInt_b, fTuple_m, fTuple_b, fTuple_t, fTuple_l, fList_m, fList_b, fList_t, fList_l, f2I_c, fRepr_c, fRepr_m, fRepr_b, fStr_c, Bool.not_true, Bool.not_false, true_and, netT, Road.dt, reduceIte, Bool.false_eq_true, decide_true, decide_false, tupK, lstK, dNext_c, dBreak_c, dCont_c, dSeq_c, dDrop_c, dRet_c, retK_d, retK_m, retK_r, dRetN_c, dIfS_c, iteS_t, iteS_f, dSet_c, setK_d, setK_m, setK_s, setK_r, dAsg_c, asgK_d, asgK_m, dFz_c, dNever_c, dRaise_c, dC_c, dOp_c, dUn_c, dTst_c, tstK_c, dTru_c, truK_n, truK_b, truK_i, truK_t, truK_l, truK_m, truK_bl, dNot_c, dAnd_c, andK_t, andK_f, dOr_c, orK_t, orK_f, dAndV_c, andV_t, andV_f, dOrV_c, orV_t, orV_f, dNotV_c, dIf_c, iteE_t, iteE_f, dChain_c, chK_t, chK_f, dNil_c, dCons_c, dCB_c, dCall_c, dCall0_c, dTup_c, dLst_c, dFor_c, dLc_c, iTp_c, tpK_c, iLst_c, lsK_d, lsK_m, iSeq_c, sqK_d, sqK_m, sqK_b, dSl_c, dNo_c, dPt_c, ptK_c, dYes_c, dBack_k, backK_c, dTupRg_c, dLstRg_c, dRg1_c, dRg2_c, rg1K_c, rg2K_c, tupRg_c, lstRg_c, dDict0_c, dDict1_c, gdName_c, gdTup_c, gdCons_c, gdNil_c, dApp_c, appK_c, apK_d, apK_m, dVar_c, varK_d, varK_m, varK_b, varK_s, varK_sc, varK_r, dNew_c, varK_mo, varK_bo, setK_mo, retK_mo, dDIn_c, dinK_i, dinK_s, dDGet_c, dDGet1_c, isBo_c, dget1K_i, dDPut_c, dputV_d, dputK_i, val_mo, dOwn0_c, dDispV_c, dispK_i, fRepT_c, fIsB_c, dM0_c, dM1_c, isStr_c, fQ0_c, fQ1_c, fSplit_c, fLenS_c, iEnSD_c, dSetdIf_c, setdB_f, enSK_m, enSK_d, dOrT_c, dAndT_c, orTK_n, dCallK_c, dCallK0_c, dCallD_c, dCallD0_c, dSaid_c, toldK_d, toldK_m, iRg1_c, rgK_c, iRg2_c, rgK2_c, iEnT_c, enK_c, iZp_c, zpK_tt, zpK_mm, zpK_ll, zpK_lm, zpK_ml, dPar_c, parK_im, parK_nm, parK_sm, parK_dd, parK_md]
      by_cases h0 : 0 < i
      · rw [decide_eq_true (show (0 : Int) < (i : Int) by omega)]
        rw [if_neg (fun e => by
          have := congrArg List.length e
          rw [List.length_take, List.length_nil] at this
          omega)] at snoc
        try simp only [startD, iEn, cvs, cv, vS, Sl.dat, Sl.seq, Sl.sq, Sl.fz, dats, dSetI, dAug, wipeD, List.length_cons, List.length_nil, List.length_append, List.length_replicate, Nat.reduceAdd, Nat.reduceSub, Nat.zero_add, List.replicate_succ, List.replicate_zero, List.cons_append, List.nil_append, List.append_nil, List.set_cons_zero, List.set_cons_succ, List.set_nil, List.getElem?_cons_zero, List.getElem?_cons_succ, Option.getD_some, List.map_cons, List.map_nil, Option.bind_some, fI0_c, fI_c, fU_c, fAddX_i, fAddX_t, fAddX_s, fAddX_mm, fAddX_bm, fAddX_mb, fAddX_bb, fAddX_lm, fAddX_ll, fMulX_i, fMulX_m, fSlX_t, fSlX_m, fSlX_b, fSlX_l, fIs_n, fIs_i, fIs_b, fIs_s, fIs_l, fIs_t, fIs_m, fIs_bl, fLen_t, fLen_l, fLen_m, fLen_b, fLen_scr, fIsi_c, fEqD_c, fEqD_mm, fEqD_bm, fEqD_bb, fEqD_dm, fEq_ss, fInt_i, fInt_b, fTuple_m, fTuple_b, fTuple_t, fTuple_l, fList_m, fList_b, fList_t, fList_l, f2I_c, fRepr_c, fRepr_m, fRepr_b, fStr_c, Bool.not_true, Bool.not_false, true_and, netT, Road.dt, reduceIte, Bool.false_eq_true, decide_true, decide_false, tupK, lstK, dNext_c, dBreak_c, dCont_c, dSeq_c, dDrop_c, dRet_c, retK_d, retK_m, retK_r, dRetN_c, dIfS_c, iteS_t, iteS_f, dSet_c, setK_d, setK_m, setK_s, setK_r, dAsg_c, asgK_d, asgK_m, dFz_c, dNever_c, dRaise_c, dC_c, dOp_c, dUn_c, dTst_c, tstK_c, dTru_c, truK_n, truK_b, truK_i, truK_t, truK_l, truK_m, truK_bl, dNot_c, dAnd_c, andK_t, andK_f, dOr_c, orK_t, orK_f, dAndV_c, andV_t, andV_f, dOrV_c, orV_t, orV_f, dNotV_c, dIf_c, iteE_t, iteE_f, dChain_c, chK_t, chK_f, dNil_c, dCons_c, dCB_c, dCall_c, dCall0_c, dTup_c, dLst_c, dFor_c, dLc_c, iTp_c, tpK_c, iLst_c, lsK_d, lsK_m, iSeq_c, sqK_d, sqK_m, sqK_b, dSl_c, dNo_c, dPt_c, ptK_c, dYes_c, dBack_k, backK_c, dTupRg_c, dLstRg_c, dRg1_c, dRg2_c, rg1K_c, rg2K_c, tupRg_c, lstRg_c, dDict0_c, dDict1_c, gdName_c, gdTup_c, gdCons_c, gdNil_c, dApp_c, appK_c, apK_d, apK_m, dVar_c, varK_d, varK_m, varK_b, varK_s, varK_sc, varK_r, dNew_c, varK_mo, varK_bo, setK_mo, retK_mo, dDIn_c, dinK_i, dinK_s, dDGet_c, dDGet1_c, isBo_c, dget1K_i, dDPut_c, dputV_d, dputK_i, val_mo, dOwn0_c, dDispV_c, dispK_i, fRepT_c, fIsB_c, dM0_c, dM1_c, isStr_c, fQ0_c, fQ1_c, fSplit_c, fLenS_c, iEnSD_c, dSetdIf_c, setdB_f, enSK_m, enSK_d, dOrT_c, dAndT_c, orTK_n, dCallK_c, dCallK0_c, dCallD_c, dCallD0_c, dSaid_c, toldK_d, toldK_m, iRg1_c, rgK_c, iRg2_c, rgK2_c, iEnT_c, enK_c, iZp_c, zpK_tt, zpK_mm, zpK_ll, zpK_lm, zpK_ml, dPar_c, parK_im, parK_nm, parK_sm, parK_dd, parK_md]
        refine ⟨big _ (by show _ + 1 ≤ _; omega), num_log hm.1 (by omega), big _ ?_, hN _ ⟨_, _, by rw [snoc]; rfl⟩⟩
        rw [PySem.strLen_append]
        show _ + 1 + (numS n).length ≤ _
        omega
      · have h0 : i = 0 := by omega
        subst h0
        rw [decide_eq_false (show ¬ (0 : Int) < ((0 : Nat) : Int) by decide)]
        rw [if_pos (show List.take 0 ns = [] from rfl)] at snoc
        try simp only [startD, iEn, cvs, cv, vS, Sl.dat, Sl.seq, Sl.sq, Sl.fz, dats, dSetI, dAug, wipeD, List.length_cons, List.length_nil, List.length_append, List.length_replicate, Nat.reduceAdd, Nat.reduceSub, Nat.zero_add, List.replicate_succ, List.replicate_zero, List.cons_append, List.nil_append, List.append_nil, List.set_cons_zero, List.set_cons_succ, List.set_nil, List.getElem?_cons_zero, List.getElem?_cons_succ, Option.getD_some, List.map_cons, List.map_nil, Option.bind_some, fI0_c, fI_c, fU_c, fAddX_i, fAddX_t, fAddX_s, fAddX_mm, fAddX_bm, fAddX_mb, fAddX_bb, fAddX_lm, fAddX_ll, fMulX_i, fMulX_m, fSlX_t, fSlX_m, fSlX_b, fSlX_l, fIs_n, fIs_i, fIs_b, fIs_s, fIs_l, fIs_t, fIs_m, fIs_bl, fLen_t, fLen_l, fLen_m, fLen_b, fLen_scr, fIsi_c, fEqD_c, fEqD_mm, fEqD_bm, fEqD_bb, fEqD_dm, fEq_ss, fInt_i, fInt_b, fTuple_m, fTuple_b, fTuple_t, fTuple_l, fList_m, fList_b, fList_t, fList_l, f2I_c, fRepr_c, fRepr_m, fRepr_b, fStr_c, Bool.not_true, Bool.not_false, true_and, netT, Road.dt, reduceIte, Bool.false_eq_true, decide_true, decide_false, tupK, lstK, dNext_c, dBreak_c, dCont_c, dSeq_c, dDrop_c, dRet_c, retK_d, retK_m, retK_r, dRetN_c, dIfS_c, iteS_t, iteS_f, dSet_c, setK_d, setK_m, setK_s, setK_r, dAsg_c, asgK_d, asgK_m, dFz_c, dNever_c, dRaise_c, dC_c, dOp_c, dUn_c, dTst_c, tstK_c, dTru_c, truK_n, truK_b, truK_i, truK_t, truK_l, truK_m, truK_bl, dNot_c, dAnd_c, andK_t, andK_f, dOr_c, orK_t, orK_f, dAndV_c, andV_t, andV_f, dOrV_c, orV_t, orV_f, dNotV_c, dIf_c, iteE_t, iteE_f, dChain_c, chK_t, chK_f, dNil_c, dCons_c, dCB_c, dCall_c, dCall0_c, dTup_c, dLst_c, dFor_c, dLc_c, iTp_c, tpK_c, iLst_c, lsK_d, lsK_m, iSeq_c, sqK_d, sqK_m, sqK_b, dSl_c, dNo_c, dPt_c, ptK_c, dYes_c, dBack_k, backK_c, dTupRg_c, dLstRg_c, dRg1_c, dRg2_c, rg1K_c, rg2K_c, tupRg_c, lstRg_c, dDict0_c, dDict1_c, gdName_c, gdTup_c, gdCons_c, gdNil_c, dApp_c, appK_c, apK_d, apK_m, dVar_c, varK_d, varK_m, varK_b, varK_s, varK_sc, varK_r, dNew_c, varK_mo, varK_bo, setK_mo, retK_mo, dDIn_c, dinK_i, dinK_s, dDGet_c, dDGet1_c, isBo_c, dget1K_i, dDPut_c, dputV_d, dputK_i, val_mo, dOwn0_c, dDispV_c, dispK_i, fRepT_c, fIsB_c, dM0_c, dM1_c, isStr_c, fQ0_c, fQ1_c, fSplit_c, fLenS_c, iEnSD_c, dSetdIf_c, setdB_f, enSK_m, enSK_d, dOrT_c, dAndT_c, orTK_n, dCallK_c, dCallK0_c, dCallD_c, dCallD0_c, dSaid_c, toldK_d, toldK_m, iRg1_c, rgK_c, iRg2_c, rgK2_c, iEnT_c, enK_c, iZp_c, zpK_tt, zpK_mm, zpK_ll, zpK_lm, zpK_ml, dPar_c, parK_im, parK_nm, parK_sm, parK_dd, parK_md]
        refine ⟨big _ (by show 0 + 0 ≤ 1000; decide), num_log hm.1 (by omega), big _ ?_, hN _ ⟨_, _, by rw [snoc]; rfl⟩⟩
        show 0 + (numS n).length ≤ _
        omega
    · obtain ⟨y2, y3, rfl⟩ := h
      rw [enumD_len, List.length_map, List.take_length]
      try simp only [startD, iEn, cvs, cv, vS, Sl.dat, Sl.seq, Sl.sq, Sl.fz, dats, dSetI, dAug, wipeD, List.length_cons, List.length_nil, List.length_append, List.length_replicate, Nat.reduceAdd, Nat.reduceSub, Nat.zero_add, List.replicate_succ, List.replicate_zero, List.cons_append, List.nil_append, List.append_nil, List.set_cons_zero, List.set_cons_succ, List.set_nil, List.getElem?_cons_zero, List.getElem?_cons_succ, Option.getD_some, List.map_cons, List.map_nil, Option.bind_some, fI0_c, fI_c, fU_c, fAddX_i, fAddX_t, fAddX_s, fAddX_mm, fAddX_bm, fAddX_mb, fAddX_bb, fAddX_lm, fAddX_ll, fMulX_i, fMulX_m, fSlX_t, fSlX_m, fSlX_b, fSlX_l, fIs_n, fIs_i, fIs_b, fIs_s, fIs_l, fIs_t, fIs_m, fIs_bl, fLen_t, fLen_l, fLen_m, fLen_b, fLen_scr, fIsi_c, fEqD_c, fEqD_mm, fEqD_bm, fEqD_bb, fEqD_dm, fEq_ss, fInt_i, fInt_b, fTuple_m, fTuple_b, fTuple_t, fTuple_l, fList_m, fList_b, fList_t, fList_l, f2I_c, fRepr_c, fRepr_m, fRepr_b, fStr_c, Bool.not_true, Bool.not_false, true_and, netT, Road.dt, reduceIte, Bool.false_eq_true, decide_true, decide_false, tupK, lstK, dNext_c, dBreak_c, dCont_c, dSeq_c, dDrop_c, dRet_c, retK_d, retK_m, retK_r, dRetN_c, dIfS_c, iteS_t, iteS_f, dSet_c, setK_d, setK_m, setK_s, setK_r, dAsg_c, asgK_d, asgK_m, dFz_c, dNever_c, dRaise_c, dC_c, dOp_c, dUn_c, dTst_c, tstK_c, dTru_c, truK_n, truK_b, truK_i, truK_t, truK_l, truK_m, truK_bl, dNot_c, dAnd_c, andK_t, andK_f, dOr_c, orK_t, orK_f, dAndV_c, andV_t, andV_f, dOrV_c, orV_t, orV_f, dNotV_c, dIf_c, iteE_t, iteE_f, dChain_c, chK_t, chK_f, dNil_c, dCons_c, dCB_c, dCall_c, dCall0_c, dTup_c, dLst_c, dFor_c, dLc_c, iTp_c, tpK_c, iLst_c, lsK_d, lsK_m, iSeq_c, sqK_d, sqK_m, sqK_b, dSl_c, dNo_c, dPt_c, ptK_c, dYes_c, dBack_k, backK_c, dTupRg_c, dLstRg_c, dRg1_c, dRg2_c, rg1K_c, rg2K_c, tupRg_c, lstRg_c, dDict0_c, dDict1_c, gdName_c, gdTup_c, gdCons_c, gdNil_c, dApp_c, appK_c, apK_d, apK_m, dVar_c, varK_d, varK_m, varK_b, varK_s, varK_sc, varK_r, dNew_c, varK_mo, varK_bo, setK_mo, retK_mo, dDIn_c, dinK_i, dinK_s, dDGet_c, dDGet1_c, isBo_c, dget1K_i, dDPut_c, dputV_d, dputK_i, val_mo, dOwn0_c, dDispV_c, dispK_i, fRepT_c, fIsB_c, dM0_c, dM1_c, isStr_c, fQ0_c, fQ1_c, fSplit_c, fLenS_c, iEnSD_c, dSetdIf_c, setdB_f, enSK_m, enSK_d, dOrT_c, dAndT_c, orTK_n, dCallK_c, dCallK0_c, dCallD_c, dCallD0_c, dSaid_c, toldK_d, toldK_m, iRg1_c, rgK_c, iRg2_c, rgK2_c, iEnT_c, enK_c, iZp_c, zpK_tt, zpK_mm, zpK_ll, zpK_lm, zpK_ml, dPar_c, parK_im, parK_nm, parK_sm, parK_dd, parK_md]
      try simp only [show ((0 : Nat) ≤ sizeLine) = True from eq_true (by decide), show ((1 : Nat) ≤ sizeLine) = True from eq_true (by decide), show ((2 : Nat) ≤ sizeLine) = True from eq_true (by decide), show ((3 : Nat) ≤ sizeLine) = True from eq_true (by decide), show ((4 : Nat) ≤ sizeLine) = True from eq_true (by decide), show ((5 : Nat) ≤ sizeLine) = True from eq_true (by decide), show ((6 : Nat) ≤ sizeLine) = True from eq_true (by decide), show ((7 : Nat) ≤ sizeLine) = True from eq_true (by decide), show ((8 : Nat) ≤ sizeLine) = True from eq_true (by decide), show ((9 : Nat) ≤ sizeLine) = True from eq_true (by decide), show ((10 : Nat) ≤ sizeLine) = True from eq_true (by decide), show ((11 : Nat) ≤ sizeLine) = True from eq_true (by decide), show ((12 : Nat) ≤ sizeLine) = True from eq_true (by decide), show ((13 : Nat) ≤ sizeLine) = True from eq_true (by decide), show ((14 : Nat) ≤ sizeLine) = True from eq_true (by decide), show ((15 : Nat) ≤ sizeLine) = True from eq_true (by decide), show ((16 : Nat) ≤ sizeLine) = True from eq_true (by decide), show ((17 : Nat) ≤ sizeLine) = True from eq_true (by decide), show ((18 : Nat) ≤ sizeLine) = True from eq_true (by decide), show ((19 : Nat) ≤ sizeLine) = True from eq_true (by decide), show ((20 : Nat) ≤ sizeLine) = True from eq_true (by decide), show ((21 : Nat) ≤ sizeLine) = True from eq_true (by decide), show ((22 : Nat) ≤ sizeLine) = True from eq_true (by decide), show ((23 : Nat) ≤ sizeLine) = True from eq_true (by decide), show ((24 : Nat) ≤ sizeLine) = True from eq_true (by decide), show ((25 : Nat) ≤ sizeLine) = True from eq_true (by decide), show ((26 : Nat) ≤ sizeLine) = True from eq_true (by decide), show ((27 : Nat) ≤ sizeLine) = True from eq_true (by decide), show ((28 : Nat) ≤ sizeLine) = True from eq_true (by decide), show ((29 : Nat) ≤ sizeLine) = True from eq_true (by decide), show ((30 : Nat) ≤ sizeLine) = True from eq_true (by decide), show ((31 : Nat) ≤ sizeLine) = True from eq_true (by decide), show ((32 : Nat) ≤ sizeLine) = True from eq_true (by decide), show ((33 : Nat) ≤ sizeLine) = True from eq_true (by decide), show ((34 : Nat) ≤ sizeLine) = True from eq_true (by decide), show ((35 : Nat) ≤ sizeLine) = True from eq_true (by decide), show ((36 : Nat) ≤ sizeLine) = True from eq_true (by decide), show ((37 : Nat) ≤ sizeLine) = True from eq_true (by decide), show ((38 : Nat) ≤ sizeLine) = True from eq_true (by decide), show ((39 : Nat) ≤ sizeLine) = True from eq_true (by decide), show ((40 : Nat) ≤ sizeLine) = True from eq_true (by decide), true_and]
      refine ⟨(lay_nums ns).sh (by decide), by decide +kernel, ?_⟩
      cases ns with
      | nil =>
        rw [show PyData.eqv (.tuple ([].map PyData.int)) (.tuple []) = true from by decide +kernel]
        try simp only [startD, iEn, cvs, cv, vS, Sl.dat, Sl.seq, Sl.sq, Sl.fz, dats, dSetI, dAug, wipeD, List.length_cons, List.length_nil, List.length_append, List.length_replicate, Nat.reduceAdd, Nat.reduceSub, Nat.zero_add, List.replicate_succ, List.replicate_zero, List.cons_append, List.nil_append, List.append_nil, List.set_cons_zero, List.set_cons_succ, List.set_nil, List.getElem?_cons_zero, List.getElem?_cons_succ, Option.getD_some, List.map_cons, List.map_nil, Option.bind_some, fI0_c, fI_c, fU_c, fAddX_i, fAddX_t, fAddX_s, fAddX_mm, fAddX_bm, fAddX_mb, fAddX_bb, fAddX_lm, fAddX_ll, fMulX_i, fMulX_m, fSlX_t, fSlX_m, fSlX_b, fSlX_l, fIs_n, fIs_i, fIs_b, fIs_s, fIs_l, fIs_t, fIs_m, fIs_bl, fLen_t, fLen_l, fLen_m, fLen_b, fLen_scr, fIsi_c, fEqD_c, fEqD_mm, fEqD_bm, fEqD_bb, fEqD_dm, fEq_ss, fInt_i, fInt_b, fTuple_m, fTuple_b, fTuple_t, fTuple_l, fList_m, fList_b, fList_t, fList_l, f2I_c, fRepr_c, fRepr_m, fRepr_b, fStr_c, Bool.not_true, Bool.not_false, true_and, netT, Road.dt, reduceIte, Bool.false_eq_true, decide_true, decide_false, tupK, lstK, dNext_c, dBreak_c, dCont_c, dSeq_c, dDrop_c, dRet_c, retK_d, retK_m, retK_r, dRetN_c, dIfS_c, iteS_t, iteS_f, dSet_c, setK_d, setK_m, setK_s, setK_r, dAsg_c, asgK_d, asgK_m, dFz_c, dNever_c, dRaise_c, dC_c, dOp_c, dUn_c, dTst_c, tstK_c, dTru_c, truK_n, truK_b, truK_i, truK_t, truK_l, truK_m, truK_bl, dNot_c, dAnd_c, andK_t, andK_f, dOr_c, orK_t, orK_f, dAndV_c, andV_t, andV_f, dOrV_c, orV_t, orV_f, dNotV_c, dIf_c, iteE_t, iteE_f, dChain_c, chK_t, chK_f, dNil_c, dCons_c, dCB_c, dCall_c, dCall0_c, dTup_c, dLst_c, dFor_c, dLc_c, iTp_c, tpK_c, iLst_c, lsK_d, lsK_m, iSeq_c, sqK_d, sqK_m, sqK_b, dSl_c, dNo_c, dPt_c, ptK_c, dYes_c, dBack_k, backK_c, dTupRg_c, dLstRg_c, dRg1_c, dRg2_c, rg1K_c, rg2K_c, tupRg_c, lstRg_c, dDict0_c, dDict1_c, gdName_c, gdTup_c, gdCons_c, gdNil_c, dApp_c, appK_c, apK_d, apK_m, dVar_c, varK_d, varK_m, varK_b, varK_s, varK_sc, varK_r, dNew_c, varK_mo, varK_bo, setK_mo, retK_mo, dDIn_c, dinK_i, dinK_s, dDGet_c, dDGet1_c, isBo_c, dget1K_i, dDPut_c, dputV_d, dputK_i, val_mo, dOwn0_c, dDispV_c, dispK_i, fRepT_c, fIsB_c, dM0_c, dM1_c, isStr_c, fQ0_c, fQ1_c, fSplit_c, fLenS_c, iEnSD_c, dSetdIf_c, setdB_f, enSK_m, enSK_d, dOrT_c, dAndT_c, orTK_n, dCallK_c, dCallK0_c, dCallD_c, dCallD0_c, dSaid_c, toldK_d, toldK_m, iRg1_c, rgK_c, iRg2_c, rgK2_c, iEnT_c, enK_c, iZp_c, zpK_tt, zpK_mm, zpK_ll, zpK_lm, zpK_ml, dPar_c, parK_im, parK_nm, parK_sm, parK_dd, parK_md]
        exact q
      | cons n0 nr =>
        rw [show PyData.eqv (.tuple ((n0 :: nr).map PyData.int)) (.tuple []) = false from by simp [PyData.eqv, PyData.eqvAll]]
        try simp only [startD, iEn, cvs, cv, vS, Sl.dat, Sl.seq, Sl.sq, Sl.fz, dats, dSetI, dAug, wipeD, List.length_cons, List.length_nil, List.length_append, List.length_replicate, Nat.reduceAdd, Nat.reduceSub, Nat.zero_add, List.replicate_succ, List.replicate_zero, List.cons_append, List.nil_append, List.append_nil, List.set_cons_zero, List.set_cons_succ, List.set_nil, List.getElem?_cons_zero, List.getElem?_cons_succ, Option.getD_some, List.map_cons, List.map_nil, Option.bind_some, fI0_c, fI_c, fU_c, fAddX_i, fAddX_t, fAddX_s, fAddX_mm, fAddX_bm, fAddX_mb, fAddX_bb, fAddX_lm, fAddX_ll, fMulX_i, fMulX_m, fSlX_t, fSlX_m, fSlX_b, fSlX_l, fIs_n, fIs_i, fIs_b, fIs_s, fIs_l, fIs_t, fIs_m, fIs_bl, fLen_t, fLen_l, fLen_m, fLen_b, fLen_scr, fIsi_c, fEqD_c, fEqD_mm, fEqD_bm, fEqD_bb, fEqD_dm, fEq_ss, fInt_i, fInt_b, fTuple_m, fTuple_b, fTuple_t, fTuple_l, fList_m, fList_b, fList_t, fList_l, f2I_c, fRepr_c, fRepr_m, fRepr_b, fStr_c, Bool.not_true, Bool.not_false, true_and, netT, Road.dt, reduceIte, Bool.false_eq_true, decide_true, decide_false, tupK, lstK, dNext_c, dBreak_c, dCont_c, dSeq_c, dDrop_c, dRet_c, retK_d, retK_m, retK_r, dRetN_c, dIfS_c, iteS_t, iteS_f, dSet_c, setK_d, setK_m, setK_s, setK_r, dAsg_c, asgK_d, asgK_m, dFz_c, dNever_c, dRaise_c, dC_c, dOp_c, dUn_c, dTst_c, tstK_c, dTru_c, truK_n, truK_b, truK_i, truK_t, truK_l, truK_m, truK_bl, dNot_c, dAnd_c, andK_t, andK_f, dOr_c, orK_t, orK_f, dAndV_c, andV_t, andV_f, dOrV_c, orV_t, orV_f, dNotV_c, dIf_c, iteE_t, iteE_f, dChain_c, chK_t, chK_f, dNil_c, dCons_c, dCB_c, dCall_c, dCall0_c, dTup_c, dLst_c, dFor_c, dLc_c, iTp_c, tpK_c, iLst_c, lsK_d, lsK_m, iSeq_c, sqK_d, sqK_m, sqK_b, dSl_c, dNo_c, dPt_c, ptK_c, dYes_c, dBack_k, backK_c, dTupRg_c, dLstRg_c, dRg1_c, dRg2_c, rg1K_c, rg2K_c, tupRg_c, lstRg_c, dDict0_c, dDict1_c, gdName_c, gdTup_c, gdCons_c, gdNil_c, dApp_c, appK_c, apK_d, apK_m, dVar_c, varK_d, varK_m, varK_b, varK_s, varK_sc, varK_r, dNew_c, varK_mo, varK_bo, setK_mo, retK_mo, dDIn_c, dinK_i, dinK_s, dDGet_c, dDGet1_c, isBo_c, dget1K_i, dDPut_c, dputV_d, dputK_i, val_mo, dOwn0_c, dDispV_c, dispK_i, fRepT_c, fIsB_c, dM0_c, dM1_c, isStr_c, fQ0_c, fQ1_c, fSplit_c, fLenS_c, iEnSD_c, dSetdIf_c, setdB_f, enSK_m, enSK_d, dOrT_c, dAndT_c, orTK_n, dCallK_c, dCallK0_c, dCallD_c, dCallD0_c, dSaid_c, toldK_d, toldK_m, iRg1_c, rgK_c, iRg2_c, rgK2_c, iEnT_c, enK_c, iZp_c, zpK_tt, zpK_mm, zpK_ll, zpK_lm, zpK_ml, dPar_c, parK_im, parK_nm, parK_sm, parK_dd, parK_md]
        exact q
end
end Wy

set_option synthInstance.maxHeartbeats 2000000
set_option synthInstance.maxSize 100000
namespace Wy
open PySem PySem.Spec PyProof.Rows L2 Dl LamX
abbrev sLaw : Stmt := topS 39
def qLaw : Str := (envOfC "law" (defScope sLaw) 0 0 .none).qual ++ "<lambda>"
theorem scLaw : FnScope ["_law_script", "_law_k", "_law_state_here", "_law_walk", "_law_turn", "_law_some", "_law_texts", "_law_what", "_law_lap", "_law_kept", "_law_due"] ["_law_script"] (defScope sLaw) := ⟨rfl, rfl, rfl, by decide +kernel, rfl, by decide +kernel, by decide +kernel⟩
/-- a thing that is looked at -/
structure WOk (d : PyData) : Prop where
  sh : Sh d 10000000 50
  ok : okR d = true
  el : ∀ xs, d = .tuple xs → xs.length ≤ 100 ∧ ∀ e ∈ xs, Lay e 5
def Pt (e : PyData) : Prop := Sh e 40 1 ∧ Lay e 1
theorem pt_int {i : Int} (h : i.natAbs < 10 ^ 30) : Pt (.int i) := ⟨(Sh.int h).mono (by decide) (by decide), lay_int _ _⟩
theorem pt_bool (b : Bool) : Pt (.bool b) := ⟨(Sh.bool b).mono (by decide) (by decide), lay_bool _ _⟩
theorem wok_tup {xs : List PyData} (hl : xs.length ≤ 100) (h : ∀ e ∈ xs, Pt e) : WOk (.tuple xs) := ⟨(Sh.tuple (n := 40) (m := 1) (k := 100) (fun e he => (h e he).1) hl).mono (by decide) (by decide), okR_lay (n := 2) (lay_tup fun e he => (h e he).2), fun ys e => by
  cases e
  exact ⟨hl, fun y hy => (h y hy).2.mono (by decide)⟩⟩
theorem wok_lst {xs : List PyData} (hl : xs.length ≤ 100) (h : ∀ e ∈ xs, Pt e) : WOk (.list xs) := ⟨(Sh.list (n := 40) (m := 1) (k := 100) (fun e he => (h e he).1) hl).mono (by decide) (by decide), okR_lay (n := 2) (lay_lst fun e he => (h e he).2), fun ys e => nomatch e⟩
def partsB : PyData → Bool
  | .tuple xs => decide (xs.length ≤ 100) && xs.all fun e => e.canLay0 && decide (e.depth ≤ 5)
  | _ => true
theorem wok_odd : ∀ d ∈ oddM, WOk d := fun d hd => by
  refine ⟨?_, ?_, fun xs e => ?_⟩
  · have : d.showable = true ∧ d.shown.length ≤ 10000000 ∧ d.depth ≤ 50 := by
      revert d
      decide +kernel
    exact ⟨this.1, this.2.1, this.2.2⟩
  · revert d
    decide +kernel
  · subst e
    have key : ∀ d ∈ oddM, partsB d = true := by decide +kernel
    have z : (decide (xs.length ≤ 100) && xs.all fun e => e.canLay0 && decide (e.depth ≤ 5)) = true := key _ hd
    rw [Bool.and_eq_true] at z
    refine ⟨of_decide_eq_true z.1, fun y hy => ?_⟩
    have z2 := List.all_eq_true.mp z.2 y hy
    rw [Bool.and_eq_true] at z2
    exact ⟨z2.1, of_decide_eq_true z2.2⟩
theorem pt_odd : ∀ y ∈ oddS, Pt y := fun y hy => by
  have key : ∀ d ∈ oddS, d.showable = true ∧ d.shown.length ≤ 40 ∧ d.depth ≤ 1 ∧ d.canLay0 = true := by decide +kernel
  obtain ⟨a, b, c, z⟩ := key y hy
  exact ⟨⟨a, b, c⟩, ⟨z, c⟩⟩
theorem wok_spoilt {ws : List Int} {d : PyData} (hl : ws.length ≤ 20) (h : ∀ n ∈ ws, 0 ≤ n ∧ n ≤ 29) (s : SpR 0 (ws.map PyData.int) d) : WOk d := by
  have hp : ∀ e ∈ ws.map PyData.int, Pt e := fun e he => by
    obtain ⟨n, hn, rfl⟩ := List.mem_map.mp he
    have := h n hn
    exact pt_int (by omega)
  rcases s with rfl | ⟨ys, rfl, yl, hy⟩
  · exact wok_lst (by rw [List.length_map]; omega) hp
  · rw [List.length_map] at yl
    refine wok_tup (by omega) fun y hm => ?_
    rcases hy y hm with z | z | ⟨i, hi, z⟩
    · exact hp y z
    · exact pt_odd y z
    · obtain ⟨n, hn, e⟩ := List.mem_map.mp hi
      have e : n = i := by
        cases e
        rfl
      have hb := h n hn
      rcases z with z | z
      · rw [z]
        exact pt_int (by omega)
      · rw [z]
        exact pt_int (by omega)
theorem all_nums : ∀ {xs : List PyData}, xs.all (withinD 0 29) = true → ∃ ns : List Int, xs = ns.map PyData.int ∧ ∀ n ∈ ns, 0 ≤ n ∧ n ≤ 29
  | [], _ => ⟨[], rfl, fun _ h => nomatch h⟩
  | x :: r, h => by
    rw [List.all_cons, Bool.and_eq_true] at h
    obtain ⟨ns, e, hn⟩ := all_nums h.2
    obtain ⟨i, rfl, a, b⟩ := withinD_true h.1
    refine ⟨i :: ns, by rw [e]; rfl, fun n hm => ?_⟩
    rcases List.mem_cons.mp hm with rfl | hm
    · exact ⟨a, b⟩
    · exact hn n hm
theorem way_true {d : PyData} (h : wayD d = true) : ∃ ns : List Int, d = .tuple (ns.map PyData.int) ∧ ∀ n ∈ ns, 0 ≤ n ∧ n ≤ 29 := by
  cases d with
  | tuple xs =>
    obtain ⟨ns, e, hn⟩ := all_nums (xs := xs) h
    exact ⟨ns, by rw [e], hn⟩
  | _ => cases h
theorem drawn_nums : ∀ {ds ys : List PyData}, Paired (fun _ y => ∃ n : Int, y = PyData.int n ∧ 0 ≤ n ∧ n ≤ 29) ds ys → ∃ ws : List Int, ys = ws.map PyData.int ∧ ∀ n ∈ ws, 0 ≤ n ∧ n ≤ 29
  | _, _, .nil => ⟨[], rfl, fun _ h => nomatch h⟩
  | _, _, .cons a t => by
    obtain ⟨n, rfl, n0, n1⟩ := a
    obtain ⟨ws, rfl, h⟩ := drawn_nums t
    refine ⟨n :: ws, rfl, fun x hx => ?_⟩
    rcases List.mem_cons.mp hx with rfl | hx
    · exact ⟨n0, n1⟩
    · exact h x hx
theorem eqv_nums (ns : List Int) : PyData.eqv (.tuple (ns.map PyData.int)) (.tuple (ns.map PyData.int)) = true := by
  have key : ∀ ns : List Int, PyData.eqvAll (ns.map PyData.int) (ns.map PyData.int) = true := by
    intro ns
    induction ns with
    | nil => simp [PyData.eqvAll]
    | cons n r ih => simp [PyData.eqvAll, PyData.eqv, ih]
  simp [PyData.eqv, key]
theorem way_chars {ns : List Int} (h : ∀ n ∈ ns, 0 ≤ n ∧ n ≤ 29) : ∀ c ∈ TL.tl (wayS ns), c < 100 := by
  intro c hc
  unfold wayS at hc
  by_cases e : ns = []
  · rw [if_pos e] at hc
    have : c ∈ [46] := hc
    rw [List.mem_singleton.mp this]
    decide
  · rw [if_neg e, tl_joinS] at hc
    rcases mem_joinL hc with z | ⟨y, hy, z⟩
    · rw [List.mem_singleton.mp z]
      decide
    · obtain ⟨w, hw, rfl⟩ := List.mem_map.mp hy
      obtain ⟨n, hn, rfl⟩ := List.mem_map.mp hw
      obtain ⟨m, rfl⟩ := Int.eq_ofNat_of_zero_le (h n hn).1
      unfold numS at z
      rw [TL.tl_num] at z
      have := TL.numL_digits m c z
      omega
theorem way_len {ns : List Int} (h : ∀ n ∈ ns, 0 ≤ n ∧ n ≤ 29) (hl : ns.length ≤ 100) : (wayS ns).length ≤ 400 := by
  unfold wayS
  by_cases e : ns = []
  · rw [if_pos e]
    decide
  · rw [if_neg e]
    exact joinS_len h hl
theorem way_sh {ns : List Int} (h : ∀ n ∈ ns, 0 ≤ n ∧ n ≤ 29) (hl : ns.length ≤ 100) : Sh (.str (wayS ns)) 5000 0 := by
  refine ⟨by rw [PyData.showable], ?_, by rw [PyData.depth]; exact Nat.le_refl _⟩
  rw [PyData.shown]
  have h1 := StrLaws.reprText_len (wayS ns) fun c hc => Nat.lt_of_lt_of_le (way_chars h c hc) (by decide)
  have := way_len h hl
  omega
theorem way_str {ns : List Int} (h : ∀ n ∈ ns, 0 ≤ n ∧ n ≤ 29) : PyData.strOk (wayS ns) = true := by
  unfold PyData.strOk
  rw [Array.all_eq_true']
  intro c hc
  exact decide_eq_true (Nat.lt_of_lt_of_le (way_chars h c (show c ∈ (wayS ns).cps.toList by simpa using hc)) (by decide))
theorem paired_right {S : PyData → PyData → Prop} : ∀ {ds ys : List PyData}, Paired S ds ys → ∀ y ∈ ys, ∃ d, S d y
  | _, _, .nil, _, h => nomatch h
  | _, _, .cons a t, y, h => by
    rcases List.mem_cons.mp h with rfl | h
    · exact ⟨_, a⟩
    · exact paired_right t y h
theorem wok_all {ws : List Int} (hl : ws.length ≤ 12) (h : ∀ n ∈ ws, 0 ≤ n ∧ n ≤ 29) : ∀ d ∈ [PyData.tuple (ws.map PyData.int), .tuple (ws.map PyData.int).reverse, .tuple (Dl.cutD (ws.map PyData.int) none (some (-1))), .tuple (ws.map PyData.int ++ ws.map PyData.int), .list (ws.map PyData.int), .tuple (ws.map PyData.int ++ [.int 30]), .tuple (.int (-1) :: ws.map PyData.int), .tuple (ws.map PyData.int ++ [.bool true])], WOk d := by
  have hp : ∀ e ∈ ws.map PyData.int, Pt e := fun e he => by
    obtain ⟨n, hn, rfl⟩ := List.mem_map.mp he
    have := h n hn
    exact pt_int (by omega)
  have el : (ws.map PyData.int).length ≤ 12 := by
    rw [List.length_map]
    exact hl
  intro d hd
  simp only [List.mem_cons, List.not_mem_nil, or_false] at hd
  rcases hd with rfl | rfl | rfl | rfl | rfl | rfl | rfl | rfl
  · exact wok_tup (by omega) hp
  · exact wok_tup (by rw [List.length_reverse]; omega) fun e he => hp e (List.mem_reverse.mp he)
  · exact wok_tup (Nat.le_trans (cut_len _ _ _) (by omega)) fun e he => hp e (cut_sub he)
  · exact wok_tup (by rw [List.length_append]; omega) fun e he => (List.mem_append.mp he).elim (hp e) (hp e)
  · exact wok_lst (by omega) hp
  · exact wok_tup (by rw [List.length_append, List.length_singleton]; omega) fun e he => (List.mem_append.mp he).elim (hp e) fun z => by
      rw [List.mem_singleton.mp z]
      exact pt_int (by decide)
  · exact wok_tup (by rw [List.length_cons]; omega) fun e he => by
      rcases List.mem_cons.mp he with rfl | he
      · exact pt_int (by decide)
      · exact hp e he
  · exact wok_tup (by rw [List.length_append, List.length_singleton]; omega) fun e he => (List.mem_append.mp he).elim (hp e) fun z => by
      rw [List.mem_singleton.mp z]
      exact pt_bool _
theorem oke_nums (ws : List Int) : OkE 0 (ws.map PyData.int) := fun d hd => by
  obtain ⟨n, _, rfl⟩ := List.mem_map.mp hd
  exact .inr (.inl ⟨n, rfl⟩)
def GoodK (kvs : List (Key × PyData)) : Prop := ∀ k y, valD kvs k = some y → ∃ ms : List Int, k = .inr (wayS ms) ∧ y = .tuple (ms.map PyData.int) ∧ ∀ m ∈ ms, 0 ≤ m
theorem GoodK.put {kvs : List (Key × PyData)} (g : GoodK kvs) {ns : List Int} (h : ∀ n ∈ ns, 0 ≤ n) : GoodK (putD kvs (.inr (wayS ns)) (.tuple (ns.map PyData.int))) := fun k y e => by
  rw [valD_put] at e
  by_cases z : k = .inr (wayS ns)
  · rw [if_pos z] at e
    cases e
    exact ⟨ns, z, rfl, h⟩
  · rw [if_neg z] at e
    exact g k y e
/-- a short list of two like things -/
theorem two_sh {d : PyData} {n m : Nat} (h : Sh d n m) (hn : n ≤ 100000) (hm : m ≤ 40) : Sh (.list [d, d]) 10000000 50 := (Sh.list (n := n) (m := m) (k := 2) (fun e he => by
  simp only [List.mem_cons, List.not_mem_nil, or_false, or_self] at he
  rw [he]
  exact h) (Nat.le_refl _)).mono (by omega) (by omega)
theorem two_ok {d : PyData} {n : Nat} (h : Lay d n) : okR (.list [d, d]) = true := okR_lay (n := n + 1) (lay_lst fun e he => by
  simp only [List.mem_cons, List.not_mem_nil, or_false, or_self] at he
  rw [he]
  exact h)
section
variable {P : Program} {w : World} {K : PySem.W.Frag} {mg : Str → Option Value} {base : Heap} {C : Nat → Addr} {cT cN cW : Addr}
set_option maxHeartbeats 4000000 in
theorem law_reads {fL c PL a : Addr} {cdv : Value} {s : Shared} {H : Hp} {ns : List Int} (T : Tx K mg C) (Z : Cl K mg C cT cN cW) (TBL : LamX.TabB base mg c PL) (hc : cdv = .ref c) (hr : Room 12 (callerA.deeper (envOfC "law" (defScope sLaw) s.heap.objs.size fL cdv))) (hPL : H PL = some (.tbl #[])) (hS : SqL K H a (ns.map V.int)) :
    ∃ t, PSs (cxOf CX0 P w K mg base ["_law_script", "_law_k", "_law_state_here", "_law_walk", "_law_turn", "_law_some", "_law_texts", "_law_what", "_law_lap", "_law_kept", "_law_due"] "law" (defScope sLaw) fL cdv callerA [] s H E0).nox (defBody sLaw) t ∧ t { nx := fun _ _ => V.non = .bl true, rt := fun v _ => v = .bl true } (L2.start ["_law_script", "_law_k", "_law_state_here", "_law_walk", "_law_turn", "_law_some", "_law_texts", "_law_what", "_law_lap", "_law_kept", "_law_due"] [.ref a]) H := by
  have hrW := hr.mono (show 8 ≤ 12 by decide)
  have hcode : (cxOf CX0 P w K mg base ["_law_script", "_law_k", "_law_state_here", "_law_walk", "_law_turn", "_law_some", "_law_texts", "_law_what", "_law_lap", "_law_kept", "_law_due"] "law" (defScope sLaw) fL cdv callerA [] s H E0).nox.env.code = .ref c := hc
  have hmL : (PL, qLaw) ∈ [(PL, qLaw)] := List.mem_cons_self
  have huL : ∀ p ∈ [(PL, qLaw)], p.1 = PL → p.2 = qLaw := fun p hp _ => by rw [List.mem_singleton.mp hp]
  obtain ⟨fWd, dWd, DWd⟩ := T.h__law_word
  obtain ⟨fSa, dSa, DSa⟩ := T.h__law_said
  obtain ⟨fMk, dMk, DMk⟩ := T.h__law_marks
  have GWd : Words P w K mg base 7 fWd dWd C cW := ok_words (k := 5) Z T.isinstance T.ValueError DMk DWd
  have X_way_text := c_way_text (P := P) (w := w) (base := base) T
  obtain ⟨ocS, odS, kVS, docS, pmS, anS, cdS, ctS, slS, rfl, lkS, hcS⟩ := DSa.F.ex
  have T0 : LamX.Tabs [(PL, qLaw)] H := fun p hp => by
    rw [List.mem_singleton.mp hp]
    exact LamX.TabS.nil hPL
  refine ⟨_, (pss_cons (ps_if (pt_cmpR (op_neK (K := K) rfl hr.units) (pe_lst (pa_cons (pe_ck (X_way_text) kb0_way_text (hr.mono (by decide)) (by rfl) pass00 (pa_cons (pe_tup pa_nil) pa_nil) pk_nil) (pa_cons (pe_ck (X_way_text) kb0_way_text (hr.mono (by decide)) (by rfl) pass00 (pa_cons (pe_tup (pa_cons pe_int pa_nil)) pa_nil) pk_nil) (pa_cons (pe_ck0 (X_way_text) kb1_way_text (hr.mono (by decide)) (by rfl) pass00 (pk_cons (pe_tup (pa_cons pe_int (pa_cons pe_int (pa_cons pe_int pa_nil)))) pk_nil)) pa_nil)))) (pe_lst (pa_cons pe_str (pa_cons pe_str (pa_cons pe_str pa_nil)))) (nomark _)) (pss_one (ps_ret pe_bl)) pss_nil)
    (pss_cons (ps_for PassesOwn.never rfl (pi_range1 (by rfl) T.range (pa_cons (pe_callB (call_max2 rfl) (by rfl) T.max (by decide +kernel) (pa_cons pe_int (pa_cons (pe_callB (call_min2 rfl) (by rfl) T.min (by decide +kernel) (pa_cons (pe_callB (call_lenK (K := K) rfl) (by rfl) T.len PySem.boot_len (pa_cons (pv 0) pa_nil)) (pa_cons pe_int pa_nil))) pa_nil))) pa_nil)) (pg_name (i := 1) scLaw.nd rfl (.inl rfl))
    (pss_cons (ps_set (i := 2) scLaw.nd rfl (.inr rfl) (pe_cb (c__law_state (K := K) T) (hr.mono (by decide)) (by rfl) pass0 (pa_cons (pv 0) (pa_cons (pv 1) pa_nil))))
    (pss_cons (ps_set (i := 3) scLaw.nd rfl (.inr rfl) (pe_callTy (call_tupleK (K := K) rfl) (by rfl) T.tuple (by decide +kernel) (pa_cons (pe_lc (own := [("_law_turn", 4)]) (g := (gName 4)) (tt := tYes) (by rfl) scLaw.nd (pi_range1 (by rfl) T.range (pa_cons (pe_cb (c__law_take (K := K) T) (hr.mono (by decide)) (by rfl) pass0 (pa_cons (pv 2) (pa_cons pe_int pa_nil))) pa_nil))
      (blkOk_by (own := [("_law_turn", 4)]) (N := ["_law_script", "_law_k", "_law_state_here", "_law_walk", "_law_turn", "_law_some", "_law_texts", "_law_what", "_law_lap", "_law_kept", "_law_due"]) (sc := defScope sLaw) (by decide +kernel)) (fun _ _ _ _ _ => (pg_name (i := 4) scLaw.nd rfl (.inl rfl))) (fun _ _ _ _ _ => pts_nil) (fun _ _ _ _ _ => (pe_cb (c__law_take (K := K) T) (hr.mono (by decide)) (by rfl) pass0 (pa_cons (pv 2) (pa_cons pe_int pa_nil))))) pa_nil)))
    (pss_cons (ps_set (i := 5) scLaw.nd rfl (.inl rfl) (pe_lst (pa_cons (pv 3) (pa_cons (pe_backK (K := K) rfl (pv 3)) (pa_cons (pe_slice (sl_anyK (K := K) rfl) (pv 3) po_none (po_some (pe_un un_neg pe_int))) (pa_cons (pe_op (op_addK (K := K) rfl) (pv 3) (pv 3)) (pa_cons (pe_callTy (call_listK (K := K) rfl) (by rfl) T.list (by decide +kernel) (pa_cons (pv 3) pa_nil)) (pa_cons (pe_op (op_addK (K := K) rfl) (pv 3) (pe_tup (pa_cons pe_int pa_nil))) (pa_cons (pe_op (op_addK (K := K) rfl) (pe_tup (pa_cons (pe_un un_neg pe_int) pa_nil)) (pv 3)) (pa_cons (pe_op (op_addK (K := K) rfl) (pv 3) (pe_tup (pa_cons pe_bl pa_nil))) pa_nil))))))))))
    (pss_cons (ps_set (i := 6) scLaw.nd rfl (.inl rfl) pe_dnewK)
    (pss_one (ps_for PassesOwn.never rfl (pi_listK (K := K) rfl (pe_op (op_addK (K := K) rfl) (pe_op (op_addK (K := K) rfl) (pv 5) (pe_lst (pa_cons (pe_cb (c__law_odd (K := K) T) (hr.mono (by decide)) (by rfl) pass0 (pa_cons (pv 2) pa_nil)) pa_nil))) (pe_lc (own := [("_law_lap", 8)]) (g := (gName 8)) (tt := tYes) (by rfl) scLaw.nd (pi_range1 (by rfl) T.range (pa_cons pe_int pa_nil))
      (blkOk_by (own := [("_law_lap", 8)]) (N := ["_law_script", "_law_k", "_law_state_here", "_law_walk", "_law_turn", "_law_some", "_law_texts", "_law_what", "_law_lap", "_law_kept", "_law_due"]) (sc := defScope sLaw) (by decide +kernel)) (fun _ _ _ _ _ => (pg_name (i := 8) scLaw.nd rfl (.inl rfl))) (fun _ _ _ _ _ => pts_nil) (fun _ _ _ _ _ => (pe_cb (c__law_spoilt_0 (K := K) T) (hr.mono (by decide)) (by rfl) pass0 (pa_cons (pv 2) (pa_cons (pv 3) (pa_cons pe_int pa_nil)))))))) (pg_name (i := 7) scLaw.nd rfl (.inr rfl))
    (pss_cons (ps_set (i := 9) scLaw.nd rfl (.inl rfl) (pe_callB (call_reprQ (K := K) rfl (by rfl) hr.units) (by rfl) T.repr (by decide +kernel) (pa_cons (pv 7) pa_nil)))
    (pss_cons (ps_set (i := 10) scLaw.nd rfl (.inl rfl) (pe_ifExp (pt_val (pe_cb (c__law_is_way (K := K) T) (hr.mono (by decide)) (by rfl) pass0 (pa_cons (pv 7) pa_nil))) (pe_tup (pa_cons pe_str (pa_cons (pe_cb (c__law_way_text (K := K) T) (hr.mono (by decide)) (by rfl) pass0 (pa_cons (pv 7) pa_nil)) pa_nil))) (pe_tup (pa_cons pe_str pa_nil))))
    (pss_cons (ps_if (PW.pt (pw_or (pt_cmpR op_ne (pe_callB (call_reprQ (K := K) rfl (by rfl) hr.units) (by rfl) T.repr (by decide +kernel) (pa_cons (pe_lc (own := [("_law_lap", 8)]) (g := (gName 8)) (tt := tYes) (by rfl) scLaw.nd (pi_range1 (by rfl) T.range (pa_cons pe_int pa_nil))
      (blkOk_by (own := [("_law_lap", 8)]) (N := ["_law_script", "_law_k", "_law_state_here", "_law_walk", "_law_turn", "_law_some", "_law_texts", "_law_what", "_law_lap", "_law_kept", "_law_due"]) (sc := defScope sLaw) (by decide +kernel)) (fun _ _ _ _ _ => (pg_name (i := 8) scLaw.nd rfl (.inl rfl))) (fun _ _ _ _ _ => pts_nil) (fun _ _ _ _ _ => (LamX.pe_lamcall (T := [(PL, qLaw)]) (TT := TSaid C [7] wordOf) (Ng := ["_law_call", "_law_e"]) (k := 9) (by rfl) DSa.g DSa.F.kp lkS hcS DSa.b scSaid rfl (.inl rfl) (said_gives GWd DWd hrW Z.gW) TBL hcode hmL huL (hr.mono (by decide)) (LamX.lamS_by (by rfl)) rfl (fun _ _ _ _ _ => rfl) (fun A outer s H E f2 c2 hr2 => (pe_ck (X_way_text) kb0_way_text (hr2.mono (by decide)) (by rfl) (passes_call (takes_of rfl rfl rfl rfl) fun _ _ _ _ h => h) (pa_cons (pv 7) pa_nil) pk_nil))))) pa_nil)) (pe_callB (call_reprQ (K := K) rfl (by rfl) hr.units) (by rfl) T.repr (by decide +kernel) (pa_cons (pe_lst (pa_cons (pv 10) (pa_cons (pv 10) pa_nil))) pa_nil)) (nomark _)) (pw_or1 (pt_cmpR op_ne (pe_callB (call_reprQ (K := K) rfl (by rfl) hr.units) (by rfl) T.repr (by decide +kernel) (pa_cons (pv 7) pa_nil)) (pv 9) (nomark _))))) (pss_one (ps_ret pe_bl)) pss_nil)
    (pss_one (ps_if (PW.pt (pw_and (pt_cmpR op_eq (pe_ix (ix_seqK (K := K) rfl) (pv 10) pe_int (fun _ _ => rfl)) pe_str (nomark _)) (pw_and1 (pt_cmpR (op_neK (K := K) rfl hr.units) (pe_bmK (K := K) rfl PySem.F.plainAttrs_dict PySem.F.slot_dict_setdefault PySem.F.type_dict_setdefault mt_setd (pv 6) (pa_cons (pe_ix (ix_seqK (K := K) rfl) (pv 10) pe_int (fun _ _ => rfl)) (pa_cons (pv 7) pa_nil))) (pv 7) (nomark _))))) (pss_one (ps_ret pe_bl)) pss_nil))))))))))))
    (pss_one (ps_ret pe_bl)))), ReadsL.run (τ := [(PL, qLaw)]) (E := E0) ⟨_, inferInstance, fun ns => ?_⟩ hS T0 (fun G => rfl)⟩
  try simp only [startD, iEn, cvs, cv, vS, Sl.dat, Sl.seq, Sl.sq, Sl.fz, dats, dSetI, dAug, wipeD, List.length_cons, List.length_nil, List.length_append, List.length_replicate, Nat.reduceAdd, Nat.reduceSub, Nat.zero_add, List.replicate_succ, List.replicate_zero, List.cons_append, List.nil_append, List.append_nil, List.set_cons_zero, List.set_cons_succ, List.set_nil, List.getElem?_cons_zero, List.getElem?_cons_succ, Option.getD_some, List.map_cons, List.map_nil, Option.bind_some, fI0_c, fI_c, fU_c, fAddX_i, fAddX_t, fAddX_s, fAddX_mm, fAddX_bm, fAddX_mb, fAddX_bb, fAddX_lm, fAddX_ll, fMulX_i, fMulX_m, fSlX_t, fSlX_m, fSlX_b, fSlX_l, fIs_n, fIs_i, fIs_b, fIs_s, fIs_l, fIs_t, fIs_m, fIs_bl, fLen_t, fLen_l, fLen_m, fLen_b, fLen_scr, fIsi_c, fEqD_c, fEqD_mm, fEqD_bm, fEqD_bb, fEqD_dm, fEq_ss, fInt_i, fInt_b, fTuple_m, fTuple_b, fTuple_t, fTuple_l, fList_m, fList_b, fList_t, fList_l, f2I_c, fRepr_c, fRepr_m, fRepr_b, fStr_c, Bool.not_true, Bool.not_false, true_and, netT, Road.dt, reduceIte, Bool.false_eq_true, decide_true, decide_false, tupK, lstK, dNext_c, dBreak_c, dCont_c, dSeq_c, dDrop_c, dRet_c, retK_d, retK_m, retK_r, dRetN_c, dIfS_c, iteS_t, iteS_f, dSet_c, setK_d, setK_m, setK_s, setK_r, dAsg_c, asgK_d, asgK_m, dFz_c, dNever_c, dRaise_c, dC_c, dOp_c, dUn_c, dTst_c, tstK_c, dTru_c, truK_n, truK_b, truK_i, truK_t, truK_l, truK_m, truK_bl, dNot_c, dAnd_c, andK_t, andK_f, dOr_c, orK_t, orK_f, dAndV_c, andV_t, andV_f, dOrV_c, orV_t, orV_f, dNotV_c, dIf_c, iteE_t, iteE_f, dChain_c, chK_t, chK_f, dNil_c, dCons_c, dCB_c, dCall_c, dCall0_c, dTup_c, dLst_c, dFor_c, dLc_c, iTp_c, tpK_c, iLst_c, lsK_d, lsK_m, iSeq_c, sqK_d, sqK_m, sqK_b, dSl_c, dNo_c, dPt_c, ptK_c, dYes_c, dBack_k, backK_c, dTupRg_c, dLstRg_c, dRg1_c, dRg2_c, rg1K_c, rg2K_c, tupRg_c, lstRg_c, dDict0_c, dDict1_c, gdName_c, gdTup_c, gdCons_c, gdNil_c, dApp_c, appK_c, apK_d, apK_m, dVar_c, varK_d, varK_m, varK_b, varK_s, varK_sc, varK_r, dNew_c, varK_mo, varK_bo, setK_mo, retK_mo, dDIn_c, dinK_i, dinK_s, dDGet_c, dDGet1_c, isBo_c, dget1K_i, dDPut_c, dputV_d, dputK_i, val_mo, dOwn0_c, dDispV_c, dispK_i, fRepT_c, fIsB_c, dM0_c, dM1_c, isStr_c, fQ0_c, fQ1_c, fSplit_c, fLenS_c, iEnSD_c, dSetdIf_c, setdB_f, enSK_m, enSK_d, dOrT_c, dAndT_c, orTK_n, dCallK_c, dCallK0_c, dCallD_c, dCallD0_c, dSaid_c, toldK_d, toldK_m, iRg1_c, rgK_c, iRg2_c, rgK2_c, iEnT_c, enK_c, iZp_c, zpK_tt, zpK_mm, zpK_ll, zpK_lm, zpK_ml, dPar_c, parK_im, parK_nm, parK_sm, parK_dd, parK_md]
  try simp only [show ((0 : Nat) ≤ sizeLine) = True from eq_true (by decide), show ((1 : Nat) ≤ sizeLine) = True from eq_true (by decide), show ((2 : Nat) ≤ sizeLine) = True from eq_true (by decide), show ((3 : Nat) ≤ sizeLine) = True from eq_true (by decide), show ((4 : Nat) ≤ sizeLine) = True from eq_true (by decide), show ((5 : Nat) ≤ sizeLine) = True from eq_true (by decide), show ((6 : Nat) ≤ sizeLine) = True from eq_true (by decide), show ((7 : Nat) ≤ sizeLine) = True from eq_true (by decide), show ((8 : Nat) ≤ sizeLine) = True from eq_true (by decide), show ((9 : Nat) ≤ sizeLine) = True from eq_true (by decide), show ((10 : Nat) ≤ sizeLine) = True from eq_true (by decide), show ((11 : Nat) ≤ sizeLine) = True from eq_true (by decide), show ((12 : Nat) ≤ sizeLine) = True from eq_true (by decide), show ((13 : Nat) ≤ sizeLine) = True from eq_true (by decide), show ((14 : Nat) ≤ sizeLine) = True from eq_true (by decide), show ((15 : Nat) ≤ sizeLine) = True from eq_true (by decide), show ((16 : Nat) ≤ sizeLine) = True from eq_true (by decide), show ((17 : Nat) ≤ sizeLine) = True from eq_true (by decide), show ((18 : Nat) ≤ sizeLine) = True from eq_true (by decide), show ((19 : Nat) ≤ sizeLine) = True from eq_true (by decide), show ((20 : Nat) ≤ sizeLine) = True from eq_true (by decide), show ((21 : Nat) ≤ sizeLine) = True from eq_true (by decide), show ((22 : Nat) ≤ sizeLine) = True from eq_true (by decide), show ((23 : Nat) ≤ sizeLine) = True from eq_true (by decide), show ((24 : Nat) ≤ sizeLine) = True from eq_true (by decide), show ((25 : Nat) ≤ sizeLine) = True from eq_true (by decide), show ((26 : Nat) ≤ sizeLine) = True from eq_true (by decide), show ((27 : Nat) ≤ sizeLine) = True from eq_true (by decide), show ((28 : Nat) ≤ sizeLine) = True from eq_true (by decide), show ((29 : Nat) ≤ sizeLine) = True from eq_true (by decide), show ((30 : Nat) ≤ sizeLine) = True from eq_true (by decide), show ((31 : Nat) ≤ sizeLine) = True from eq_true (by decide), show ((32 : Nat) ≤ sizeLine) = True from eq_true (by decide), show ((33 : Nat) ≤ sizeLine) = True from eq_true (by decide), show ((34 : Nat) ≤ sizeLine) = True from eq_true (by decide), show ((35 : Nat) ≤ sizeLine) = True from eq_true (by decide), show ((36 : Nat) ≤ sizeLine) = True from eq_true (by decide), show ((37 : Nat) ≤ sizeLine) = True from eq_true (by decide), show ((38 : Nat) ≤ sizeLine) = True from eq_true (by decide), show ((39 : Nat) ≤ sizeLine) = True from eq_true (by decide), show ((40 : Nat) ≤ sizeLine) = True from eq_true (by decide), true_and]
  refine kwK_i rfl rfl rfl ⟨_, rfl, (fun xs e => by cases e; decide), .inr ⟨[], rfl, (fun _ h => nomatch h), ?_⟩⟩
  try simp only [startD, iEn, cvs, cv, vS, Sl.dat, Sl.seq, Sl.sq, Sl.fz, dats, dSetI, dAug, wipeD, List.length_cons, List.length_nil, List.length_append, List.length_replicate, Nat.reduceAdd, Nat.reduceSub, Nat.zero_add, List.replicate_succ, List.replicate_zero, List.cons_append, List.nil_append, List.append_nil, List.set_cons_zero, List.set_cons_succ, List.set_nil, List.getElem?_cons_zero, List.getElem?_cons_succ, Option.getD_some, List.map_cons, List.map_nil, Option.bind_some, fI0_c, fI_c, fU_c, fAddX_i, fAddX_t, fAddX_s, fAddX_mm, fAddX_bm, fAddX_mb, fAddX_bb, fAddX_lm, fAddX_ll, fMulX_i, fMulX_m, fSlX_t, fSlX_m, fSlX_b, fSlX_l, fIs_n, fIs_i, fIs_b, fIs_s, fIs_l, fIs_t, fIs_m, fIs_bl, fLen_t, fLen_l, fLen_m, fLen_b, fLen_scr, fIsi_c, fEqD_c, fEqD_mm, fEqD_bm, fEqD_bb, fEqD_dm, fEq_ss, fInt_i, fInt_b, fTuple_m, fTuple_b, fTuple_t, fTuple_l, fList_m, fList_b, fList_t, fList_l, f2I_c, fRepr_c, fRepr_m, fRepr_b, fStr_c, Bool.not_true, Bool.not_false, true_and, netT, Road.dt, reduceIte, Bool.false_eq_true, decide_true, decide_false, tupK, lstK, dNext_c, dBreak_c, dCont_c, dSeq_c, dDrop_c, dRet_c, retK_d, retK_m, retK_r, dRetN_c, dIfS_c, iteS_t, iteS_f, dSet_c, setK_d, setK_m, setK_s, setK_r, dAsg_c, asgK_d, asgK_m, dFz_c, dNever_c, dRaise_c, dC_c, dOp_c, dUn_c, dTst_c, tstK_c, dTru_c, truK_n, truK_b, truK_i, truK_t, truK_l, truK_m, truK_bl, dNot_c, dAnd_c, andK_t, andK_f, dOr_c, orK_t, orK_f, dAndV_c, andV_t, andV_f, dOrV_c, orV_t, orV_f, dNotV_c, dIf_c, iteE_t, iteE_f, dChain_c, chK_t, chK_f, dNil_c, dCons_c, dCB_c, dCall_c, dCall0_c, dTup_c, dLst_c, dFor_c, dLc_c, iTp_c, tpK_c, iLst_c, lsK_d, lsK_m, iSeq_c, sqK_d, sqK_m, sqK_b, dSl_c, dNo_c, dPt_c, ptK_c, dYes_c, dBack_k, backK_c, dTupRg_c, dLstRg_c, dRg1_c, dRg2_c, rg1K_c, rg2K_c, tupRg_c, lstRg_c, dDict0_c, dDict1_c, gdName_c, gdTup_c, gdCons_c, gdNil_c, dApp_c, appK_c, apK_d, apK_m, dVar_c, varK_d, varK_m, varK_b, varK_s, varK_sc, varK_r, dNew_c, varK_mo, varK_bo, setK_mo, retK_mo, dDIn_c, dinK_i, dinK_s, dDGet_c, dDGet1_c, isBo_c, dget1K_i, dDPut_c, dputV_d, dputK_i, val_mo, dOwn0_c, dDispV_c, dispK_i, fRepT_c, fIsB_c, dM0_c, dM1_c, isStr_c, fQ0_c, fQ1_c, fSplit_c, fLenS_c, iEnSD_c, dSetdIf_c, setdB_f, enSK_m, enSK_d, dOrT_c, dAndT_c, orTK_n, dCallK_c, dCallK0_c, dCallD_c, dCallD0_c, dSaid_c, toldK_d, toldK_m, iRg1_c, rgK_c, iRg2_c, rgK2_c, iEnT_c, enK_c, iZp_c, zpK_tt, zpK_mm, zpK_ll, zpK_lm, zpK_ml, dPar_c, parK_im, parK_nm, parK_sm, parK_dd, parK_md]
  try simp only [show ((0 : Nat) ≤ sizeLine) = True from eq_true (by decide), show ((1 : Nat) ≤ sizeLine) = True from eq_true (by decide), show ((2 : Nat) ≤ sizeLine) = True from eq_true (by decide), show ((3 : Nat) ≤ sizeLine) = True from eq_true (by decide), show ((4 : Nat) ≤ sizeLine) = True from eq_true (by decide), show ((5 : Nat) ≤ sizeLine) = True from eq_true (by decide), show ((6 : Nat) ≤ sizeLine) = True from eq_true (by decide), show ((7 : Nat) ≤ sizeLine) = True from eq_true (by decide), show ((8 : Nat) ≤ sizeLine) = True from eq_true (by decide), show ((9 : Nat) ≤ sizeLine) = True from eq_true (by decide), show ((10 : Nat) ≤ sizeLine) = True from eq_true (by decide), show ((11 : Nat) ≤ sizeLine) = True from eq_true (by decide), show ((12 : Nat) ≤ sizeLine) = True from eq_true (by decide), show ((13 : Nat) ≤ sizeLine) = True from eq_true (by decide), show ((14 : Nat) ≤ sizeLine) = True from eq_true (by decide), show ((15 : Nat) ≤ sizeLine) = True from eq_true (by decide), show ((16 : Nat) ≤ sizeLine) = True from eq_true (by decide), show ((17 : Nat) ≤ sizeLine) = True from eq_true (by decide), show ((18 : Nat) ≤ sizeLine) = True from eq_true (by decide), show ((19 : Nat) ≤ sizeLine) = True from eq_true (by decide), show ((20 : Nat) ≤ sizeLine) = True from eq_true (by decide), show ((21 : Nat) ≤ sizeLine) = True from eq_true (by decide), show ((22 : Nat) ≤ sizeLine) = True from eq_true (by decide), show ((23 : Nat) ≤ sizeLine) = True from eq_true (by decide), show ((24 : Nat) ≤ sizeLine) = True from eq_true (by decide), show ((25 : Nat) ≤ sizeLine) = True from eq_true (by decide), show ((26 : Nat) ≤ sizeLine) = True from eq_true (by decide), show ((27 : Nat) ≤ sizeLine) = True from eq_true (by decide), show ((28 : Nat) ≤ sizeLine) = True from eq_true (by decide), show ((29 : Nat) ≤ sizeLine) = True from eq_true (by decide), show ((30 : Nat) ≤ sizeLine) = True from eq_true (by decide), show ((31 : Nat) ≤ sizeLine) = True from eq_true (by decide), show ((32 : Nat) ≤ sizeLine) = True from eq_true (by decide), show ((33 : Nat) ≤ sizeLine) = True from eq_true (by decide), show ((34 : Nat) ≤ sizeLine) = True from eq_true (by decide), show ((35 : Nat) ≤ sizeLine) = True from eq_true (by decide), show ((36 : Nat) ≤ sizeLine) = True from eq_true (by decide), show ((37 : Nat) ≤ sizeLine) = True from eq_true (by decide), show ((38 : Nat) ≤ sizeLine) = True from eq_true (by decide), show ((39 : Nat) ≤ sizeLine) = True from eq_true (by decide), show ((40 : Nat) ≤ sizeLine) = True from eq_true (by decide), true_and]
  refine kwK_i rfl rfl rfl ⟨_, rfl, (fun xs e => by cases e; decide), .inr ⟨[0], rfl, (fun n h => by rw [List.mem_singleton.mp h]; decide), ?_⟩⟩
  try simp only [startD, iEn, cvs, cv, vS, Sl.dat, Sl.seq, Sl.sq, Sl.fz, dats, dSetI, dAug, wipeD, List.length_cons, List.length_nil, List.length_append, List.length_replicate, Nat.reduceAdd, Nat.reduceSub, Nat.zero_add, List.replicate_succ, List.replicate_zero, List.cons_append, List.nil_append, List.append_nil, List.set_cons_zero, List.set_cons_succ, List.set_nil, List.getElem?_cons_zero, List.getElem?_cons_succ, Option.getD_some, List.map_cons, List.map_nil, Option.bind_some, fI0_c, fI_c, fU_c, fAddX_i, fAddX_t, fAddX_s, fAddX_mm, fAddX_bm, fAddX_mb, fAddX_bb, fAddX_lm, fAddX_ll, fMulX_i, fMulX_m, fSlX_t, fSlX_m, fSlX_b, fSlX_l, fIs_n, fIs_i, fIs_b, fIs_s, fIs_l, fIs_t, fIs_m, fIs_bl, fLen_t, fLen_l, fLen_m, fLen_b, fLen_scr, fIsi_c, fEqD_c, fEqD_mm, fEqD_bm, fEqD_bb, fEqD_dm, fEq_ss, fInt_i, fInt_b, fTuple_m, fTuple_b, fTuple_t, fTuple_l, fList_m, fList_b, fList_t, fList_l, f2I_c, fRepr_c, fRepr_m, fRepr_b, fStr_c, Bool.not_true, Bool.not_false, true_and, netT, Road.dt, reduceIte, Bool.false_eq_true, decide_true, decide_false, tupK, lstK, dNext_c, dBreak_c, dCont_c, dSeq_c, dDrop_c, dRet_c, retK_d, retK_m, retK_r, dRetN_c, dIfS_c, iteS_t, iteS_f, dSet_c, setK_d, setK_m, setK_s, setK_r, dAsg_c, asgK_d, asgK_m, dFz_c, dNever_c, dRaise_c, dC_c, dOp_c, dUn_c, dTst_c, tstK_c, dTru_c, truK_n, truK_b, truK_i, truK_t, truK_l, truK_m, truK_bl, dNot_c, dAnd_c, andK_t, andK_f, dOr_c, orK_t, orK_f, dAndV_c, andV_t, andV_f, dOrV_c, orV_t, orV_f, dNotV_c, dIf_c, iteE_t, iteE_f, dChain_c, chK_t, chK_f, dNil_c, dCons_c, dCB_c, dCall_c, dCall0_c, dTup_c, dLst_c, dFor_c, dLc_c, iTp_c, tpK_c, iLst_c, lsK_d, lsK_m, iSeq_c, sqK_d, sqK_m, sqK_b, dSl_c, dNo_c, dPt_c, ptK_c, dYes_c, dBack_k, backK_c, dTupRg_c, dLstRg_c, dRg1_c, dRg2_c, rg1K_c, rg2K_c, tupRg_c, lstRg_c, dDict0_c, dDict1_c, gdName_c, gdTup_c, gdCons_c, gdNil_c, dApp_c, appK_c, apK_d, apK_m, dVar_c, varK_d, varK_m, varK_b, varK_s, varK_sc, varK_r, dNew_c, varK_mo, varK_bo, setK_mo, retK_mo, dDIn_c, dinK_i, dinK_s, dDGet_c, dDGet1_c, isBo_c, dget1K_i, dDPut_c, dputV_d, dputK_i, val_mo, dOwn0_c, dDispV_c, dispK_i, fRepT_c, fIsB_c, dM0_c, dM1_c, isStr_c, fQ0_c, fQ1_c, fSplit_c, fLenS_c, iEnSD_c, dSetdIf_c, setdB_f, enSK_m, enSK_d, dOrT_c, dAndT_c, orTK_n, dCallK_c, dCallK0_c, dCallD_c, dCallD0_c, dSaid_c, toldK_d, toldK_m, iRg1_c, rgK_c, iRg2_c, rgK2_c, iEnT_c, enK_c, iZp_c, zpK_tt, zpK_mm, zpK_ll, zpK_lm, zpK_ml, dPar_c, parK_im, parK_nm, parK_sm, parK_dd, parK_md]
  try simp only [show ((0 : Nat) ≤ sizeLine) = True from eq_true (by decide), show ((1 : Nat) ≤ sizeLine) = True from eq_true (by decide), show ((2 : Nat) ≤ sizeLine) = True from eq_true (by decide), show ((3 : Nat) ≤ sizeLine) = True from eq_true (by decide), show ((4 : Nat) ≤ sizeLine) = True from eq_true (by decide), show ((5 : Nat) ≤ sizeLine) = True from eq_true (by decide), show ((6 : Nat) ≤ sizeLine) = True from eq_true (by decide), show ((7 : Nat) ≤ sizeLine) = True from eq_true (by decide), show ((8 : Nat) ≤ sizeLine) = True from eq_true (by decide), show ((9 : Nat) ≤ sizeLine) = True from eq_true (by decide), show ((10 : Nat) ≤ sizeLine) = True from eq_true (by decide), show ((11 : Nat) ≤ sizeLine) = True from eq_true (by decide), show ((12 : Nat) ≤ sizeLine) = True from eq_true (by decide), show ((13 : Nat) ≤ sizeLine) = True from eq_true (by decide), show ((14 : Nat) ≤ sizeLine) = True from eq_true (by decide), show ((15 : Nat) ≤ sizeLine) = True from eq_true (by decide), show ((16 : Nat) ≤ sizeLine) = True from eq_true (by decide), show ((17 : Nat) ≤ sizeLine) = True from eq_true (by decide), show ((18 : Nat) ≤ sizeLine) = True from eq_true (by decide), show ((19 : Nat) ≤ sizeLine) = True from eq_true (by decide), show ((20 : Nat) ≤ sizeLine) = True from eq_true (by decide), show ((21 : Nat) ≤ sizeLine) = True from eq_true (by decide), show ((22 : Nat) ≤ sizeLine) = True from eq_true (by decide), show ((23 : Nat) ≤ sizeLine) = True from eq_true (by decide), show ((24 : Nat) ≤ sizeLine) = True from eq_true (by decide), show ((25 : Nat) ≤ sizeLine) = True from eq_true (by decide), show ((26 : Nat) ≤ sizeLine) = True from eq_true (by decide), show ((27 : Nat) ≤ sizeLine) = True from eq_true (by decide), show ((28 : Nat) ≤ sizeLine) = True from eq_true (by decide), show ((29 : Nat) ≤ sizeLine) = True from eq_true (by decide), show ((30 : Nat) ≤ sizeLine) = True from eq_true (by decide), show ((31 : Nat) ≤ sizeLine) = True from eq_true (by decide), show ((32 : Nat) ≤ sizeLine) = True from eq_true (by decide), show ((33 : Nat) ≤ sizeLine) = True from eq_true (by decide), show ((34 : Nat) ≤ sizeLine) = True from eq_true (by decide), show ((35 : Nat) ≤ sizeLine) = True from eq_true (by decide), show ((36 : Nat) ≤ sizeLine) = True from eq_true (by decide), show ((37 : Nat) ≤ sizeLine) = True from eq_true (by decide), show ((38 : Nat) ≤ sizeLine) = True from eq_true (by decide), show ((39 : Nat) ≤ sizeLine) = True from eq_true (by decide), show ((40 : Nat) ≤ sizeLine) = True from eq_true (by decide), true_and]
  refine kwK_i rfl rfl rfl ⟨_, rfl, (fun xs e => by cases e; decide), .inr ⟨[29, 0, 7], rfl, (fun n h => by
    simp only [List.mem_cons, List.not_mem_nil, or_false] at h
    rcases h with rfl | rfl | rfl <;> decide), ?_⟩⟩
  rw [show wayS [] = ("." : Str) from rfl, show wayS [0] = ("0" : Str) from by decide +kernel, show wayS [29, 0, 7] = ("29-0-7" : Str) from by decide +kernel]
  try simp only [startD, iEn, cvs, cv, vS, Sl.dat, Sl.seq, Sl.sq, Sl.fz, dats, dSetI, dAug, wipeD, List.length_cons, List.length_nil, List.length_append, List.length_replicate, Nat.reduceAdd, Nat.reduceSub, Nat.zero_add, List.replicate_succ, List.replicate_zero, List.cons_append, List.nil_append, List.append_nil, List.set_cons_zero, List.set_cons_succ, List.set_nil, List.getElem?_cons_zero, List.getElem?_cons_succ, Option.getD_some, List.map_cons, List.map_nil, Option.bind_some, fI0_c, fI_c, fU_c, fAddX_i, fAddX_t, fAddX_s, fAddX_mm, fAddX_bm, fAddX_mb, fAddX_bb, fAddX_lm, fAddX_ll, fMulX_i, fMulX_m, fSlX_t, fSlX_m, fSlX_b, fSlX_l, fIs_n, fIs_i, fIs_b, fIs_s, fIs_l, fIs_t, fIs_m, fIs_bl, fLen_t, fLen_l, fLen_m, fLen_b, fLen_scr, fIsi_c, fEqD_c, fEqD_mm, fEqD_bm, fEqD_bb, fEqD_dm, fEq_ss, fInt_i, fInt_b, fTuple_m, fTuple_b, fTuple_t, fTuple_l, fList_m, fList_b, fList_t, fList_l, f2I_c, fRepr_c, fRepr_m, fRepr_b, fStr_c, Bool.not_true, Bool.not_false, true_and, netT, Road.dt, reduceIte, Bool.false_eq_true, decide_true, decide_false, tupK, lstK, dNext_c, dBreak_c, dCont_c, dSeq_c, dDrop_c, dRet_c, retK_d, retK_m, retK_r, dRetN_c, dIfS_c, iteS_t, iteS_f, dSet_c, setK_d, setK_m, setK_s, setK_r, dAsg_c, asgK_d, asgK_m, dFz_c, dNever_c, dRaise_c, dC_c, dOp_c, dUn_c, dTst_c, tstK_c, dTru_c, truK_n, truK_b, truK_i, truK_t, truK_l, truK_m, truK_bl, dNot_c, dAnd_c, andK_t, andK_f, dOr_c, orK_t, orK_f, dAndV_c, andV_t, andV_f, dOrV_c, orV_t, orV_f, dNotV_c, dIf_c, iteE_t, iteE_f, dChain_c, chK_t, chK_f, dNil_c, dCons_c, dCB_c, dCall_c, dCall0_c, dTup_c, dLst_c, dFor_c, dLc_c, iTp_c, tpK_c, iLst_c, lsK_d, lsK_m, iSeq_c, sqK_d, sqK_m, sqK_b, dSl_c, dNo_c, dPt_c, ptK_c, dYes_c, dBack_k, backK_c, dTupRg_c, dLstRg_c, dRg1_c, dRg2_c, rg1K_c, rg2K_c, tupRg_c, lstRg_c, dDict0_c, dDict1_c, gdName_c, gdTup_c, gdCons_c, gdNil_c, dApp_c, appK_c, apK_d, apK_m, dVar_c, varK_d, varK_m, varK_b, varK_s, varK_sc, varK_r, dNew_c, varK_mo, varK_bo, setK_mo, retK_mo, dDIn_c, dinK_i, dinK_s, dDGet_c, dDGet1_c, isBo_c, dget1K_i, dDPut_c, dputV_d, dputK_i, val_mo, dOwn0_c, dDispV_c, dispK_i, fRepT_c, fIsB_c, dM0_c, dM1_c, isStr_c, fQ0_c, fQ1_c, fSplit_c, fLenS_c, iEnSD_c, dSetdIf_c, setdB_f, enSK_m, enSK_d, dOrT_c, dAndT_c, orTK_n, dCallK_c, dCallK0_c, dCallD_c, dCallD0_c, dSaid_c, toldK_d, toldK_m, iRg1_c, rgK_c, iRg2_c, rgK2_c, iEnT_c, enK_c, iZp_c, zpK_tt, zpK_mm, zpK_ll, zpK_lm, zpK_ml, dPar_c, parK_im, parK_nm, parK_sm, parK_dd, parK_md]
  try simp only [show ((0 : Nat) ≤ sizeLine) = True from eq_true (by decide), show ((1 : Nat) ≤ sizeLine) = True from eq_true (by decide), show ((2 : Nat) ≤ sizeLine) = True from eq_true (by decide), show ((3 : Nat) ≤ sizeLine) = True from eq_true (by decide), show ((4 : Nat) ≤ sizeLine) = True from eq_true (by decide), show ((5 : Nat) ≤ sizeLine) = True from eq_true (by decide), show ((6 : Nat) ≤ sizeLine) = True from eq_true (by decide), show ((7 : Nat) ≤ sizeLine) = True from eq_true (by decide), show ((8 : Nat) ≤ sizeLine) = True from eq_true (by decide), show ((9 : Nat) ≤ sizeLine) = True from eq_true (by decide), show ((10 : Nat) ≤ sizeLine) = True from eq_true (by decide), show ((11 : Nat) ≤ sizeLine) = True from eq_true (by decide), show ((12 : Nat) ≤ sizeLine) = True from eq_true (by decide), show ((13 : Nat) ≤ sizeLine) = True from eq_true (by decide), show ((14 : Nat) ≤ sizeLine) = True from eq_true (by decide), show ((15 : Nat) ≤ sizeLine) = True from eq_true (by decide), show ((16 : Nat) ≤ sizeLine) = True from eq_true (by decide), show ((17 : Nat) ≤ sizeLine) = True from eq_true (by decide), show ((18 : Nat) ≤ sizeLine) = True from eq_true (by decide), show ((19 : Nat) ≤ sizeLine) = True from eq_true (by decide), show ((20 : Nat) ≤ sizeLine) = True from eq_true (by decide), show ((21 : Nat) ≤ sizeLine) = True from eq_true (by decide), show ((22 : Nat) ≤ sizeLine) = True from eq_true (by decide), show ((23 : Nat) ≤ sizeLine) = True from eq_true (by decide), show ((24 : Nat) ≤ sizeLine) = True from eq_true (by decide), show ((25 : Nat) ≤ sizeLine) = True from eq_true (by decide), show ((26 : Nat) ≤ sizeLine) = True from eq_true (by decide), show ((27 : Nat) ≤ sizeLine) = True from eq_true (by decide), show ((28 : Nat) ≤ sizeLine) = True from eq_true (by decide), show ((29 : Nat) ≤ sizeLine) = True from eq_true (by decide), show ((30 : Nat) ≤ sizeLine) = True from eq_true (by decide), show ((31 : Nat) ≤ sizeLine) = True from eq_true (by decide), show ((32 : Nat) ≤ sizeLine) = True from eq_true (by decide), show ((33 : Nat) ≤ sizeLine) = True from eq_true (by decide), show ((34 : Nat) ≤ sizeLine) = True from eq_true (by decide), show ((35 : Nat) ≤ sizeLine) = True from eq_true (by decide), show ((36 : Nat) ≤ sizeLine) = True from eq_true (by decide), show ((37 : Nat) ≤ sizeLine) = True from eq_true (by decide), show ((38 : Nat) ≤ sizeLine) = True from eq_true (by decide), show ((39 : Nat) ≤ sizeLine) = True from eq_true (by decide), show ((40 : Nat) ≤ sizeLine) = True from eq_true (by decide), true_and]
  try simp only [startD, iEn, cvs, cv, vS, Sl.dat, Sl.seq, Sl.sq, Sl.fz, dats, dSetI, dAug, wipeD, List.length_cons, List.length_nil, List.length_append, List.length_replicate, Nat.reduceAdd, Nat.reduceSub, Nat.zero_add, List.replicate_succ, List.replicate_zero, List.cons_append, List.nil_append, List.append_nil, List.set_cons_zero, List.set_cons_succ, List.set_nil, List.getElem?_cons_zero, List.getElem?_cons_succ, Option.getD_some, List.map_cons, List.map_nil, Option.bind_some, fI0_c, fI_c, fU_c, fAddX_i, fAddX_t, fAddX_s, fAddX_mm, fAddX_bm, fAddX_mb, fAddX_bb, fAddX_lm, fAddX_ll, fMulX_i, fMulX_m, fSlX_t, fSlX_m, fSlX_b, fSlX_l, fIs_n, fIs_i, fIs_b, fIs_s, fIs_l, fIs_t, fIs_m, fIs_bl, fLen_t, fLen_l, fLen_m, fLen_b, fLen_scr, fIsi_c, fEqD_c, fEqD_mm, fEqD_bm, fEqD_bb, fEqD_dm, fEq_ss, fInt_i, fInt_b, fTuple_m, fTuple_b, fTuple_t, fTuple_l, fList_m, fList_b, fList_t, fList_l, f2I_c, fRepr_c, fRepr_m, fRepr_b, fStr_c, Bool.not_true, Bool.not_false, true_and, netT, Road.dt, reduceIte, Bool.false_eq_true, decide_true, decide_false, tupK, lstK, dNext_c, dBreak_c, dCont_c, dSeq_c, dDrop_c, dRet_c, retK_d, retK_m, retK_r, dRetN_c, dIfS_c, iteS_t, iteS_f, dSet_c, setK_d, setK_m, setK_s, setK_r, dAsg_c, asgK_d, asgK_m, dFz_c, dNever_c, dRaise_c, dC_c, dOp_c, dUn_c, dTst_c, tstK_c, dTru_c, truK_n, truK_b, truK_i, truK_t, truK_l, truK_m, truK_bl, dNot_c, dAnd_c, andK_t, andK_f, dOr_c, orK_t, orK_f, dAndV_c, andV_t, andV_f, dOrV_c, orV_t, orV_f, dNotV_c, dIf_c, iteE_t, iteE_f, dChain_c, chK_t, chK_f, dNil_c, dCons_c, dCB_c, dCall_c, dCall0_c, dTup_c, dLst_c, dFor_c, dLc_c, iTp_c, tpK_c, iLst_c, lsK_d, lsK_m, iSeq_c, sqK_d, sqK_m, sqK_b, dSl_c, dNo_c, dPt_c, ptK_c, dYes_c, dBack_k, backK_c, dTupRg_c, dLstRg_c, dRg1_c, dRg2_c, rg1K_c, rg2K_c, tupRg_c, lstRg_c, dDict0_c, dDict1_c, gdName_c, gdTup_c, gdCons_c, gdNil_c, dApp_c, appK_c, apK_d, apK_m, dVar_c, varK_d, varK_m, varK_b, varK_s, varK_sc, varK_r, dNew_c, varK_mo, varK_bo, setK_mo, retK_mo, dDIn_c, dinK_i, dinK_s, dDGet_c, dDGet1_c, isBo_c, dget1K_i, dDPut_c, dputV_d, dputK_i, val_mo, dOwn0_c, dDispV_c, dispK_i, fRepT_c, fIsB_c, dM0_c, dM1_c, isStr_c, fQ0_c, fQ1_c, fSplit_c, fLenS_c, iEnSD_c, dSetdIf_c, setdB_f, enSK_m, enSK_d, dOrT_c, dAndT_c, orTK_n, dCallK_c, dCallK0_c, dCallD_c, dCallD0_c, dSaid_c, toldK_d, toldK_m, iRg1_c, rgK_c, iRg2_c, rgK2_c, iEnT_c, enK_c, iZp_c, zpK_tt, zpK_mm, zpK_ll, zpK_lm, zpK_ml, dPar_c, parK_im, parK_nm, parK_sm, parK_dd, parK_md]
  refine ⟨by decide +kernel, by decide +kernel, ?_⟩
  rw [show PyData.eqv (.list [.str ".", .str "0", .str "29-0-7"]) (.list [.str ".", .str "0", .str "29-0-7"]) = true from by decide +kernel]
  try simp only [startD, iEn, cvs, cv, vS, Sl.dat, Sl.seq, Sl.sq, Sl.fz, dats, dSetI, dAug, wipeD, List.length_cons, List.length_nil, List.length_append, List.length_replicate, Nat.reduceAdd, Nat.reduceSub, Nat.zero_add, List.replicate_succ, List.replicate_zero, List.cons_append, List.nil_append, List.append_nil, List.set_cons_zero, List.set_cons_succ, List.set_nil, List.getElem?_cons_zero, List.getElem?_cons_succ, Option.getD_some, List.map_cons, List.map_nil, Option.bind_some, fI0_c, fI_c, fU_c, fAddX_i, fAddX_t, fAddX_s, fAddX_mm, fAddX_bm, fAddX_mb, fAddX_bb, fAddX_lm, fAddX_ll, fMulX_i, fMulX_m, fSlX_t, fSlX_m, fSlX_b, fSlX_l, fIs_n, fIs_i, fIs_b, fIs_s, fIs_l, fIs_t, fIs_m, fIs_bl, fLen_t, fLen_l, fLen_m, fLen_b, fLen_scr, fIsi_c, fEqD_c, fEqD_mm, fEqD_bm, fEqD_bb, fEqD_dm, fEq_ss, fInt_i, fInt_b, fTuple_m, fTuple_b, fTuple_t, fTuple_l, fList_m, fList_b, fList_t, fList_l, f2I_c, fRepr_c, fRepr_m, fRepr_b, fStr_c, Bool.not_true, Bool.not_false, true_and, netT, Road.dt, reduceIte, Bool.false_eq_true, decide_true, decide_false, tupK, lstK, dNext_c, dBreak_c, dCont_c, dSeq_c, dDrop_c, dRet_c, retK_d, retK_m, retK_r, dRetN_c, dIfS_c, iteS_t, iteS_f, dSet_c, setK_d, setK_m, setK_s, setK_r, dAsg_c, asgK_d, asgK_m, dFz_c, dNever_c, dRaise_c, dC_c, dOp_c, dUn_c, dTst_c, tstK_c, dTru_c, truK_n, truK_b, truK_i, truK_t, truK_l, truK_m, truK_bl, dNot_c, dAnd_c, andK_t, andK_f, dOr_c, orK_t, orK_f, dAndV_c, andV_t, andV_f, dOrV_c, orV_t, orV_f, dNotV_c, dIf_c, iteE_t, iteE_f, dChain_c, chK_t, chK_f, dNil_c, dCons_c, dCB_c, dCall_c, dCall0_c, dTup_c, dLst_c, dFor_c, dLc_c, iTp_c, tpK_c, iLst_c, lsK_d, lsK_m, iSeq_c, sqK_d, sqK_m, sqK_b, dSl_c, dNo_c, dPt_c, ptK_c, dYes_c, dBack_k, backK_c, dTupRg_c, dLstRg_c, dRg1_c, dRg2_c, rg1K_c, rg2K_c, tupRg_c, lstRg_c, dDict0_c, dDict1_c, gdName_c, gdTup_c, gdCons_c, gdNil_c, dApp_c, appK_c, apK_d, apK_m, dVar_c, varK_d, varK_m, varK_b, varK_s, varK_sc, varK_r, dNew_c, varK_mo, varK_bo, setK_mo, retK_mo, dDIn_c, dinK_i, dinK_s, dDGet_c, dDGet1_c, isBo_c, dget1K_i, dDPut_c, dputV_d, dputK_i, val_mo, dOwn0_c, dDispV_c, dispK_i, fRepT_c, fIsB_c, dM0_c, dM1_c, isStr_c, fQ0_c, fQ1_c, fSplit_c, fLenS_c, iEnSD_c, dSetdIf_c, setdB_f, enSK_m, enSK_d, dOrT_c, dAndT_c, orTK_n, dCallK_c, dCallK0_c, dCallD_c, dCallD0_c, dSaid_c, toldK_d, toldK_m, iRg1_c, rgK_c, iRg2_c, rgK2_c, iEnT_c, enK_c, iZp_c, zpK_tt, zpK_mm, zpK_ll, zpK_lm, zpK_ml, dPar_c, parK_im, parK_nm, parK_sm, parK_dd, parK_md]
  refine ⟨by split <;> split <;> omega, by split <;> split <;> omega, ?_⟩
  refine forD_by (fun _ ρ => ∃ y1 y2 y3 y4 y5 y6 y7 y8 y9 y10, ρ = [.scr ns, y1, y2, y3, y4, y5, y6, y7, y8, y9, y10]) ⟨_, _, _, _, _, _, _, _, _, _, rfl⟩ (fun i d ρ N hd h hN => ?_) (fun ρ h => ?_)
  · obtain ⟨y1, y2, y3, y4, y5, y6, y7, y8, y9, y10, rfl⟩ := h
    obtain ⟨_, rfl⟩ := rangeD_get hd
    try simp only [startD, iEn, cvs, cv, vS, Sl.dat, Sl.seq, Sl.sq, Sl.fz, dats, dSetI, dAug, wipeD, List.length_cons, List.length_nil, List.length_append, List.length_replicate, Nat.reduceAdd, Nat.reduceSub, Nat.zero_add, List.replicate_succ, List.replicate_zero, List.cons_append, List.nil_append, List.append_nil, List.set_cons_zero, List.set_cons_succ, List.set_nil, List.getElem?_cons_zero, List.getElem?_cons_succ, Option.getD_some, List.map_cons, List.map_nil, Option.bind_some, fI0_c, fI_c, fU_c, fAddX_i, fAddX_t, fAddX_s, fAddX_mm, fAddX_bm, fAddX_mb, fAddX_bb, fAddX_lm, fAddX_ll, fMulX_i, fMulX_m, fSlX_t, fSlX_m, fSlX_b, fSlX_l, fIs_n, fIs_i, fIs_b, fIs_s, fIs_l, fIs_t, fIs_m, fIs_bl, fLen_t, fLen_l, fLen_m, fLen_b, fLen_scr, fIsi_c, fEqD_c, fEqD_mm, fEqD_bm, fEqD_bb, fEqD_dm, fEq_ss, fInt_i, fInt_b, fTuple_m, fTuple_b, fTuple_t, fTuple_l, fList_m, fList_b, fList_t, fList_l, f2I_c, fRepr_c, fRepr_m, fRepr_b, fStr_c, Bool.not_true, Bool.not_false, true_and, netT, Road.dt, reduceIte, Bool.false_eq_true, decide_true, decide_false, tupK, lstK, dNext_c, dBreak_c, dCont_c, dSeq_c, dDrop_c, dRet_c, retK_d, retK_m, retK_r, dRetN_c, dIfS_c, iteS_t, iteS_f, dSet_c, setK_d, setK_m, setK_s, setK_r, dAsg_c, asgK_d, asgK_m, dFz_c, dNever_c, dRaise_c, dC_c, dOp_c, dUn_c, dTst_c, tstK_c, dTru_c, truK_n, truK_b, truK_i, truK_t, truK_l, truK_m, truK_bl, dNot_c, dAnd_c, andK_t, andK_f, dOr_c, orK_t, orK_f, dAndV_c, andV_t, andV_f, dOrV_c, orV_t, orV_f, dNotV_c, dIf_c, iteE_t, iteE_f, dChain_c, chK_t, chK_f, dNil_c, dCons_c, dCB_c, dCall_c, dCall0_c, dTup_c, dLst_c, dFor_c, dLc_c, iTp_c, tpK_c, iLst_c, lsK_d, lsK_m, iSeq_c, sqK_d, sqK_m, sqK_b, dSl_c, dNo_c, dPt_c, ptK_c, dYes_c, dBack_k, backK_c, dTupRg_c, dLstRg_c, dRg1_c, dRg2_c, rg1K_c, rg2K_c, tupRg_c, lstRg_c, dDict0_c, dDict1_c, gdName_c, gdTup_c, gdCons_c, gdNil_c, dApp_c, appK_c, apK_d, apK_m, dVar_c, varK_d, varK_m, varK_b, varK_s, varK_sc, varK_r, dNew_c, varK_mo, varK_bo, setK_mo, retK_mo, dDIn_c, dinK_i, dinK_s, dDGet_c, dDGet1_c, isBo_c, dget1K_i, dDPut_c, dputV_d, dputK_i, val_mo, dOwn0_c, dDispV_c, dispK_i, fRepT_c, fIsB_c, dM0_c, dM1_c, isStr_c, fQ0_c, fQ1_c, fSplit_c, fLenS_c, iEnSD_c, dSetdIf_c, setdB_f, enSK_m, enSK_d, dOrT_c, dAndT_c, orTK_n, dCallK_c, dCallK0_c, dCallD_c, dCallD0_c, dSaid_c, toldK_d, toldK_m, iRg1_c, rgK_c, iRg2_c, rgK2_c, iEnT_c, enK_c, iZp_c, zpK_tt, zpK_mm, zpK_ll, zpK_lm, zpK_ml, dPar_c, parK_im, parK_nm, parK_sm, parK_dd, parK_md]
    refine ⟨⟨ns, i, by rw [Int.zero_add]⟩, 13, rfl, by decide, by decide, fun m m0 m1 => ?_⟩
    try simp only [startD, iEn, cvs, cv, vS, Sl.dat, Sl.seq, Sl.sq, Sl.fz, dats, dSetI, dAug, wipeD, List.length_cons, List.length_nil, List.length_append, List.length_replicate, Nat.reduceAdd, Nat.reduceSub, Nat.zero_add, List.replicate_succ, List.replicate_zero, List.cons_append, List.nil_append, List.append_nil, List.set_cons_zero, List.set_cons_succ, List.set_nil, List.getElem?_cons_zero, List.getElem?_cons_succ, Option.getD_some, List.map_cons, List.map_nil, Option.bind_some, fI0_c, fI_c, fU_c, fAddX_i, fAddX_t, fAddX_s, fAddX_mm, fAddX_bm, fAddX_mb, fAddX_bb, fAddX_lm, fAddX_ll, fMulX_i, fMulX_m, fSlX_t, fSlX_m, fSlX_b, fSlX_l, fIs_n, fIs_i, fIs_b, fIs_s, fIs_l, fIs_t, fIs_m, fIs_bl, fLen_t, fLen_l, fLen_m, fLen_b, fLen_scr, fIsi_c, fEqD_c, fEqD_mm, fEqD_bm, fEqD_bb, fEqD_dm, fEq_ss, fInt_i, fInt_b, fTuple_m, fTuple_b, fTuple_t, fTuple_l, fList_m, fList_b, fList_t, fList_l, f2I_c, fRepr_c, fRepr_m, fRepr_b, fStr_c, Bool.not_true, Bool.not_false, true_and, netT, Road.dt, reduceIte, Bool.false_eq_true, decide_true, decide_false, tupK, lstK, dNext_c, dBreak_c, dCont_c, dSeq_c, dDrop_c, dRet_c, retK_d, retK_m, retK_r, dRetN_c, dIfS_c, iteS_t, iteS_f, dSet_c, setK_d, setK_m, setK_s, setK_r, dAsg_c, asgK_d, asgK_m, dFz_c, dNever_c, dRaise_c, dC_c, dOp_c, dUn_c, dTst_c, tstK_c, dTru_c, truK_n, truK_b, truK_i, truK_t, truK_l, truK_m, truK_bl, dNot_c, dAnd_c, andK_t, andK_f, dOr_c, orK_t, orK_f, dAndV_c, andV_t, andV_f, dOrV_c, orV_t, orV_f, dNotV_c, dIf_c, iteE_t, iteE_f, dChain_c, chK_t, chK_f, dNil_c, dCons_c, dCB_c, dCall_c, dCall0_c, dTup_c, dLst_c, dFor_c, dLc_c, iTp_c, tpK_c, iLst_c, lsK_d, lsK_m, iSeq_c, sqK_d, sqK_m, sqK_b, dSl_c, dNo_c, dPt_c, ptK_c, dYes_c, dBack_k, backK_c, dTupRg_c, dLstRg_c, dRg1_c, dRg2_c, rg1K_c, rg2K_c, tupRg_c, lstRg_c, dDict0_c, dDict1_c, gdName_c, gdTup_c, gdCons_c, gdNil_c, dApp_c, appK_c, apK_d, apK_m, dVar_c, varK_d, varK_m, varK_b, varK_s, varK_sc, varK_r, dNew_c, varK_mo, varK_bo, setK_mo, retK_mo, dDIn_c, dinK_i, dinK_s, dDGet_c, dDGet1_c, isBo_c, dget1K_i, dDPut_c, dputV_d, dputK_i, val_mo, dOwn0_c, dDispV_c, dispK_i, fRepT_c, fIsB_c, dM0_c, dM1_c, isStr_c, fQ0_c, fQ1_c, fSplit_c, fLenS_c, iEnSD_c, dSetdIf_c, setdB_f, enSK_m, enSK_d, dOrT_c, dAndT_c, orTK_n, dCallK_c, dCallK0_c, dCallD_c, dCallD0_c, dSaid_c, toldK_d, toldK_m, iRg1_c, rgK_c, iRg2_c, rgK2_c, iEnT_c, enK_c, iZp_c, zpK_tt, zpK_mm, zpK_ll, zpK_lm, zpK_ml, dPar_c, parK_im, parK_nm, parK_sm, parK_dd, parK_md]
    refine ⟨by omega, by omega, ?_⟩
    refine lcD_all (fun _ y => ∃ n : Int, y = .int n ∧ 0 ≤ n ∧ n ≤ 29) (fun d acc N' ha hN' => ?_) _ [] (by rw [rangeD_len, List.length_nil]; omega) fun ys hys => ?_
    · unfold lcStep
      try simp only [startD, iEn, cvs, cv, vS, Sl.dat, Sl.seq, Sl.sq, Sl.fz, dats, dSetI, dAug, wipeD, List.length_cons, List.length_nil, List.length_append, List.length_replicate, Nat.reduceAdd, Nat.reduceSub, Nat.zero_add, List.replicate_succ, List.replicate_zero, List.cons_append, List.nil_append, List.append_nil, List.set_cons_zero, List.set_cons_succ, List.set_nil, List.getElem?_cons_zero, List.getElem?_cons_succ, Option.getD_some, List.map_cons, List.map_nil, Option.bind_some, fI0_c, fI_c, fU_c, fAddX_i, fAddX_t, fAddX_s, fAddX_mm, fAddX_bm, fAddX_mb, fAddX_bb, fAddX_lm, fAddX_ll, fMulX_i, fMulX_m, fSlX_t, fSlX_m, fSlX_b, fSlX_l, fIs_n, fIs_i, fIs_b, fIs_s, fIs_l, fIs_t, fIs_m, fIs_bl, fLen_t, fLen_l, fLen_m, fLen_b, fLen_scr, fIsi_c, fEqD_c, fEqD_mm, fEqD_bm, fEqD_bb, fEqD_dm, fEq_ss, fInt_i, fInt_b, fTuple_m, fTuple_b, fTuple_t, fTuple_l, fList_m, fList_b, fList_t, fList_l, f2I_c, fRepr_c, fRepr_m, fRepr_b, fStr_c, Bool.not_true, Bool.not_false, true_and, netT, Road.dt, reduceIte, Bool.false_eq_true, decide_true, decide_false, tupK, lstK, dNext_c, dBreak_c, dCont_c, dSeq_c, dDrop_c, dRet_c, retK_d, retK_m, retK_r, dRetN_c, dIfS_c, iteS_t, iteS_f, dSet_c, setK_d, setK_m, setK_s, setK_r, dAsg_c, asgK_d, asgK_m, dFz_c, dNever_c, dRaise_c, dC_c, dOp_c, dUn_c, dTst_c, tstK_c, dTru_c, truK_n, truK_b, truK_i, truK_t, truK_l, truK_m, truK_bl, dNot_c, dAnd_c, andK_t, andK_f, dOr_c, orK_t, orK_f, dAndV_c, andV_t, andV_f, dOrV_c, orV_t, orV_f, dNotV_c, dIf_c, iteE_t, iteE_f, dChain_c, chK_t, chK_f, dNil_c, dCons_c, dCB_c, dCall_c, dCall0_c, dTup_c, dLst_c, dFor_c, dLc_c, iTp_c, tpK_c, iLst_c, lsK_d, lsK_m, iSeq_c, sqK_d, sqK_m, sqK_b, dSl_c, dNo_c, dPt_c, ptK_c, dYes_c, dBack_k, backK_c, dTupRg_c, dLstRg_c, dRg1_c, dRg2_c, rg1K_c, rg2K_c, tupRg_c, lstRg_c, dDict0_c, dDict1_c, gdName_c, gdTup_c, gdCons_c, gdNil_c, dApp_c, appK_c, apK_d, apK_m, dVar_c, varK_d, varK_m, varK_b, varK_s, varK_sc, varK_r, dNew_c, varK_mo, varK_bo, setK_mo, retK_mo, dDIn_c, dinK_i, dinK_s, dDGet_c, dDGet1_c, isBo_c, dget1K_i, dDPut_c, dputV_d, dputK_i, val_mo, dOwn0_c, dDispV_c, dispK_i, fRepT_c, fIsB_c, dM0_c, dM1_c, isStr_c, fQ0_c, fQ1_c, fSplit_c, fLenS_c, iEnSD_c, dSetdIf_c, setdB_f, enSK_m, enSK_d, dOrT_c, dAndT_c, orTK_n, dCallK_c, dCallK0_c, dCallD_c, dCallD0_c, dSaid_c, toldK_d, toldK_m, iRg1_c, rgK_c, iRg2_c, rgK2_c, iEnT_c, enK_c, iZp_c, zpK_tt, zpK_mm, zpK_ll, zpK_lm, zpK_ml, dPar_c, parK_im, parK_nm, parK_sm, parK_dd, parK_md]
      exact ⟨30, rfl, by decide, by decide, fun n n0 n1 => ⟨ha, hN' _ ⟨n, rfl, n0, by omega⟩⟩⟩
    obtain ⟨ws, ew, hw⟩ := drawn_nums hys
    have wl : ws.length ≤ 12 := by
      have := hys.length
      rw [rangeD_len, ew, List.length_map] at this
      omega
    subst ew
    rw [List.nil_append]
    try simp only [startD, iEn, cvs, cv, vS, Sl.dat, Sl.seq, Sl.sq, Sl.fz, dats, dSetI, dAug, wipeD, List.length_cons, List.length_nil, List.length_append, List.length_replicate, Nat.reduceAdd, Nat.reduceSub, Nat.zero_add, List.replicate_succ, List.replicate_zero, List.cons_append, List.nil_append, List.append_nil, List.set_cons_zero, List.set_cons_succ, List.set_nil, List.getElem?_cons_zero, List.getElem?_cons_succ, Option.getD_some, List.map_cons, List.map_nil, Option.bind_some, fI0_c, fI_c, fU_c, fAddX_i, fAddX_t, fAddX_s, fAddX_mm, fAddX_bm, fAddX_mb, fAddX_bb, fAddX_lm, fAddX_ll, fMulX_i, fMulX_m, fSlX_t, fSlX_m, fSlX_b, fSlX_l, fIs_n, fIs_i, fIs_b, fIs_s, fIs_l, fIs_t, fIs_m, fIs_bl, fLen_t, fLen_l, fLen_m, fLen_b, fLen_scr, fIsi_c, fEqD_c, fEqD_mm, fEqD_bm, fEqD_bb, fEqD_dm, fEq_ss, fInt_i, fInt_b, fTuple_m, fTuple_b, fTuple_t, fTuple_l, fList_m, fList_b, fList_t, fList_l, f2I_c, fRepr_c, fRepr_m, fRepr_b, fStr_c, Bool.not_true, Bool.not_false, true_and, netT, Road.dt, reduceIte, Bool.false_eq_true, decide_true, decide_false, tupK, lstK, dNext_c, dBreak_c, dCont_c, dSeq_c, dDrop_c, dRet_c, retK_d, retK_m, retK_r, dRetN_c, dIfS_c, iteS_t, iteS_f, dSet_c, setK_d, setK_m, setK_s, setK_r, dAsg_c, asgK_d, asgK_m, dFz_c, dNever_c, dRaise_c, dC_c, dOp_c, dUn_c, dTst_c, tstK_c, dTru_c, truK_n, truK_b, truK_i, truK_t, truK_l, truK_m, truK_bl, dNot_c, dAnd_c, andK_t, andK_f, dOr_c, orK_t, orK_f, dAndV_c, andV_t, andV_f, dOrV_c, orV_t, orV_f, dNotV_c, dIf_c, iteE_t, iteE_f, dChain_c, chK_t, chK_f, dNil_c, dCons_c, dCB_c, dCall_c, dCall0_c, dTup_c, dLst_c, dFor_c, dLc_c, iTp_c, tpK_c, iLst_c, lsK_d, lsK_m, iSeq_c, sqK_d, sqK_m, sqK_b, dSl_c, dNo_c, dPt_c, ptK_c, dYes_c, dBack_k, backK_c, dTupRg_c, dLstRg_c, dRg1_c, dRg2_c, rg1K_c, rg2K_c, tupRg_c, lstRg_c, dDict0_c, dDict1_c, gdName_c, gdTup_c, gdCons_c, gdNil_c, dApp_c, appK_c, apK_d, apK_m, dVar_c, varK_d, varK_m, varK_b, varK_s, varK_sc, varK_r, dNew_c, varK_mo, varK_bo, setK_mo, retK_mo, dDIn_c, dinK_i, dinK_s, dDGet_c, dDGet1_c, isBo_c, dget1K_i, dDPut_c, dputV_d, dputK_i, val_mo, dOwn0_c, dDispV_c, dispK_i, fRepT_c, fIsB_c, dM0_c, dM1_c, isStr_c, fQ0_c, fQ1_c, fSplit_c, fLenS_c, iEnSD_c, dSetdIf_c, setdB_f, enSK_m, enSK_d, dOrT_c, dAndT_c, orTK_n, dCallK_c, dCallK0_c, dCallD_c, dCallD0_c, dSaid_c, toldK_d, toldK_m, iRg1_c, rgK_c, iRg2_c, rgK2_c, iEnT_c, enK_c, iZp_c, zpK_tt, zpK_mm, zpK_ll, zpK_lm, zpK_ml, dPar_c, parK_im, parK_nm, parK_sm, parK_dd, parK_md]
    have big : ∀ n, n ≤ 1000 → n ≤ sizeLine := fun n h => Nat.le_of_lt (line_1000 (by omega))
    have el : (ws.map PyData.int).length ≤ 12 := by
      rw [List.length_map]
      exact wl
    refine ⟨big _ (by omega), big _ (by omega), big _ (by omega), big _ (by omega), big _ (by omega), big _ (by omega), big _ (by omega), big _ (by omega), rfl, fun od hod => ?_⟩
    try simp only [startD, iEn, cvs, cv, vS, Sl.dat, Sl.seq, Sl.sq, Sl.fz, dats, dSetI, dAug, wipeD, List.length_cons, List.length_nil, List.length_append, List.length_replicate, Nat.reduceAdd, Nat.reduceSub, Nat.zero_add, List.replicate_succ, List.replicate_zero, List.cons_append, List.nil_append, List.append_nil, List.set_cons_zero, List.set_cons_succ, List.set_nil, List.getElem?_cons_zero, List.getElem?_cons_succ, Option.getD_some, List.map_cons, List.map_nil, Option.bind_some, fI0_c, fI_c, fU_c, fAddX_i, fAddX_t, fAddX_s, fAddX_mm, fAddX_bm, fAddX_mb, fAddX_bb, fAddX_lm, fAddX_ll, fMulX_i, fMulX_m, fSlX_t, fSlX_m, fSlX_b, fSlX_l, fIs_n, fIs_i, fIs_b, fIs_s, fIs_l, fIs_t, fIs_m, fIs_bl, fLen_t, fLen_l, fLen_m, fLen_b, fLen_scr, fIsi_c, fEqD_c, fEqD_mm, fEqD_bm, fEqD_bb, fEqD_dm, fEq_ss, fInt_i, fInt_b, fTuple_m, fTuple_b, fTuple_t, fTuple_l, fList_m, fList_b, fList_t, fList_l, f2I_c, fRepr_c, fRepr_m, fRepr_b, fStr_c, Bool.not_true, Bool.not_false, true_and, netT, Road.dt, reduceIte, Bool.false_eq_true, decide_true, decide_false, tupK, lstK, dNext_c, dBreak_c, dCont_c, dSeq_c, dDrop_c, dRet_c, retK_d, retK_m, retK_r, dRetN_c, dIfS_c, iteS_t, iteS_f, dSet_c, setK_d, setK_m, setK_s, setK_r, dAsg_c, asgK_d, asgK_m, dFz_c, dNever_c, dRaise_c, dC_c, dOp_c, dUn_c, dTst_c, tstK_c, dTru_c, truK_n, truK_b, truK_i, truK_t, truK_l, truK_m, truK_bl, dNot_c, dAnd_c, andK_t, andK_f, dOr_c, orK_t, orK_f, dAndV_c, andV_t, andV_f, dOrV_c, orV_t, orV_f, dNotV_c, dIf_c, iteE_t, iteE_f, dChain_c, chK_t, chK_f, dNil_c, dCons_c, dCB_c, dCall_c, dCall0_c, dTup_c, dLst_c, dFor_c, dLc_c, iTp_c, tpK_c, iLst_c, lsK_d, lsK_m, iSeq_c, sqK_d, sqK_m, sqK_b, dSl_c, dNo_c, dPt_c, ptK_c, dYes_c, dBack_k, backK_c, dTupRg_c, dLstRg_c, dRg1_c, dRg2_c, rg1K_c, rg2K_c, tupRg_c, lstRg_c, dDict0_c, dDict1_c, gdName_c, gdTup_c, gdCons_c, gdNil_c, dApp_c, appK_c, apK_d, apK_m, dVar_c, varK_d, varK_m, varK_b, varK_s, varK_sc, varK_r, dNew_c, varK_mo, varK_bo, setK_mo, retK_mo, dDIn_c, dinK_i, dinK_s, dDGet_c, dDGet1_c, isBo_c, dget1K_i, dDPut_c, dputV_d, dputK_i, val_mo, dOwn0_c, dDispV_c, dispK_i, fRepT_c, fIsB_c, dM0_c, dM1_c, isStr_c, fQ0_c, fQ1_c, fSplit_c, fLenS_c, iEnSD_c, dSetdIf_c, setdB_f, enSK_m, enSK_d, dOrT_c, dAndT_c, orTK_n, dCallK_c, dCallK0_c, dCallD_c, dCallD0_c, dSaid_c, toldK_d, toldK_m, iRg1_c, rgK_c, iRg2_c, rgK2_c, iEnT_c, enK_c, iZp_c, zpK_tt, zpK_mm, zpK_ll, zpK_lm, zpK_ml, dPar_c, parK_im, parK_nm, parK_sm, parK_dd, parK_md]
    try simp only [show ((0 : Nat) ≤ sizeLine) = True from eq_true (by decide), show ((1 : Nat) ≤ sizeLine) = True from eq_true (by decide), show ((2 : Nat) ≤ sizeLine) = True from eq_true (by decide), show ((3 : Nat) ≤ sizeLine) = True from eq_true (by decide), show ((4 : Nat) ≤ sizeLine) = True from eq_true (by decide), show ((5 : Nat) ≤ sizeLine) = True from eq_true (by decide), show ((6 : Nat) ≤ sizeLine) = True from eq_true (by decide), show ((7 : Nat) ≤ sizeLine) = True from eq_true (by decide), show ((8 : Nat) ≤ sizeLine) = True from eq_true (by decide), show ((9 : Nat) ≤ sizeLine) = True from eq_true (by decide), show ((10 : Nat) ≤ sizeLine) = True from eq_true (by decide), show ((11 : Nat) ≤ sizeLine) = True from eq_true (by decide), show ((12 : Nat) ≤ sizeLine) = True from eq_true (by decide), show ((13 : Nat) ≤ sizeLine) = True from eq_true (by decide), show ((14 : Nat) ≤ sizeLine) = True from eq_true (by decide), show ((15 : Nat) ≤ sizeLine) = True from eq_true (by decide), show ((16 : Nat) ≤ sizeLine) = True from eq_true (by decide), show ((17 : Nat) ≤ sizeLine) = True from eq_true (by decide), show ((18 : Nat) ≤ sizeLine) = True from eq_true (by decide), show ((19 : Nat) ≤ sizeLine) = True from eq_true (by decide), show ((20 : Nat) ≤ sizeLine) = True from eq_true (by decide), show ((21 : Nat) ≤ sizeLine) = True from eq_true (by decide), show ((22 : Nat) ≤ sizeLine) = True from eq_true (by decide), show ((23 : Nat) ≤ sizeLine) = True from eq_true (by decide), show ((24 : Nat) ≤ sizeLine) = True from eq_true (by decide), show ((25 : Nat) ≤ sizeLine) = True from eq_true (by decide), show ((26 : Nat) ≤ sizeLine) = True from eq_true (by decide), show ((27 : Nat) ≤ sizeLine) = True from eq_true (by decide), show ((28 : Nat) ≤ sizeLine) = True from eq_true (by decide), show ((29 : Nat) ≤ sizeLine) = True from eq_true (by decide), show ((30 : Nat) ≤ sizeLine) = True from eq_true (by decide), show ((31 : Nat) ≤ sizeLine) = True from eq_true (by decide), show ((32 : Nat) ≤ sizeLine) = True from eq_true (by decide), show ((33 : Nat) ≤ sizeLine) = True from eq_true (by decide), show ((34 : Nat) ≤ sizeLine) = True from eq_true (by decide), show ((35 : Nat) ≤ sizeLine) = True from eq_true (by decide), show ((36 : Nat) ≤ sizeLine) = True from eq_true (by decide), show ((37 : Nat) ≤ sizeLine) = True from eq_true (by decide), show ((38 : Nat) ≤ sizeLine) = True from eq_true (by decide), show ((39 : Nat) ≤ sizeLine) = True from eq_true (by decide), show ((40 : Nat) ≤ sizeLine) = True from eq_true (by decide), true_and]
    try simp only [startD, iEn, cvs, cv, vS, Sl.dat, Sl.seq, Sl.sq, Sl.fz, dats, dSetI, dAug, wipeD, List.length_cons, List.length_nil, List.length_append, List.length_replicate, Nat.reduceAdd, Nat.reduceSub, Nat.zero_add, List.replicate_succ, List.replicate_zero, List.cons_append, List.nil_append, List.append_nil, List.set_cons_zero, List.set_cons_succ, List.set_nil, List.getElem?_cons_zero, List.getElem?_cons_succ, Option.getD_some, List.map_cons, List.map_nil, Option.bind_some, fI0_c, fI_c, fU_c, fAddX_i, fAddX_t, fAddX_s, fAddX_mm, fAddX_bm, fAddX_mb, fAddX_bb, fAddX_lm, fAddX_ll, fMulX_i, fMulX_m, fSlX_t, fSlX_m, fSlX_b, fSlX_l, fIs_n, fIs_i, fIs_b, fIs_s, fIs_l, fIs_t, fIs_m, fIs_bl, fLen_t, fLen_l, fLen_m, fLen_b, fLen_scr, fIsi_c, fEqD_c, fEqD_mm, fEqD_bm, fEqD_bb, fEqD_dm, fEq_ss, fInt_i, fInt_b, fTuple_m, fTuple_b, fTuple_t, fTuple_l, fList_m, fList_b, fList_t, fList_l, f2I_c, fRepr_c, fRepr_m, fRepr_b, fStr_c, Bool.not_true, Bool.not_false, true_and, netT, Road.dt, reduceIte, Bool.false_eq_true, decide_true, decide_false, tupK, lstK, dNext_c, dBreak_c, dCont_c, dSeq_c, dDrop_c, dRet_c, retK_d, retK_m, retK_r, dRetN_c, dIfS_c, iteS_t, iteS_f, dSet_c, setK_d, setK_m, setK_s, setK_r, dAsg_c, asgK_d, asgK_m, dFz_c, dNever_c, dRaise_c, dC_c, dOp_c, dUn_c, dTst_c, tstK_c, dTru_c, truK_n, truK_b, truK_i, truK_t, truK_l, truK_m, truK_bl, dNot_c, dAnd_c, andK_t, andK_f, dOr_c, orK_t, orK_f, dAndV_c, andV_t, andV_f, dOrV_c, orV_t, orV_f, dNotV_c, dIf_c, iteE_t, iteE_f, dChain_c, chK_t, chK_f, dNil_c, dCons_c, dCB_c, dCall_c, dCall0_c, dTup_c, dLst_c, dFor_c, dLc_c, iTp_c, tpK_c, iLst_c, lsK_d, lsK_m, iSeq_c, sqK_d, sqK_m, sqK_b, dSl_c, dNo_c, dPt_c, ptK_c, dYes_c, dBack_k, backK_c, dTupRg_c, dLstRg_c, dRg1_c, dRg2_c, rg1K_c, rg2K_c, tupRg_c, lstRg_c, dDict0_c, dDict1_c, gdName_c, gdTup_c, gdCons_c, gdNil_c, dApp_c, appK_c, apK_d, apK_m, dVar_c, varK_d, varK_m, varK_b, varK_s, varK_sc, varK_r, dNew_c, varK_mo, varK_bo, setK_mo, retK_mo, dDIn_c, dinK_i, dinK_s, dDGet_c, dDGet1_c, isBo_c, dget1K_i, dDPut_c, dputV_d, dputK_i, val_mo, dOwn0_c, dDispV_c, dispK_i, fRepT_c, fIsB_c, dM0_c, dM1_c, isStr_c, fQ0_c, fQ1_c, fSplit_c, fLenS_c, iEnSD_c, dSetdIf_c, setdB_f, enSK_m, enSK_d, dOrT_c, dAndT_c, orTK_n, dCallK_c, dCallK0_c, dCallD_c, dCallD0_c, dSaid_c, toldK_d, toldK_m, iRg1_c, rgK_c, iRg2_c, rgK2_c, iEnT_c, enK_c, iZp_c, zpK_tt, zpK_mm, zpK_ll, zpK_lm, zpK_ml, dPar_c, parK_im, parK_nm, parK_sm, parK_dd, parK_md]
    refine ⟨by decide, by decide, ?_⟩
    refine lcD_all (fun _ y => SpR 0 (ws.map PyData.int) y) (fun d acc N' ha hN' => ?_) _ [] (by rw [rangeD_len, List.length_nil]; decide) fun ss hss => ?_
    · unfold lcStep
      try simp only [startD, iEn, cvs, cv, vS, Sl.dat, Sl.seq, Sl.sq, Sl.fz, dats, dSetI, dAug, wipeD, List.length_cons, List.length_nil, List.length_append, List.length_replicate, Nat.reduceAdd, Nat.reduceSub, Nat.zero_add, List.replicate_succ, List.replicate_zero, List.cons_append, List.nil_append, List.append_nil, List.set_cons_zero, List.set_cons_succ, List.set_nil, List.getElem?_cons_zero, List.getElem?_cons_succ, Option.getD_some, List.map_cons, List.map_nil, Option.bind_some, fI0_c, fI_c, fU_c, fAddX_i, fAddX_t, fAddX_s, fAddX_mm, fAddX_bm, fAddX_mb, fAddX_bb, fAddX_lm, fAddX_ll, fMulX_i, fMulX_m, fSlX_t, fSlX_m, fSlX_b, fSlX_l, fIs_n, fIs_i, fIs_b, fIs_s, fIs_l, fIs_t, fIs_m, fIs_bl, fLen_t, fLen_l, fLen_m, fLen_b, fLen_scr, fIsi_c, fEqD_c, fEqD_mm, fEqD_bm, fEqD_bb, fEqD_dm, fEq_ss, fInt_i, fInt_b, fTuple_m, fTuple_b, fTuple_t, fTuple_l, fList_m, fList_b, fList_t, fList_l, f2I_c, fRepr_c, fRepr_m, fRepr_b, fStr_c, Bool.not_true, Bool.not_false, true_and, netT, Road.dt, reduceIte, Bool.false_eq_true, decide_true, decide_false, tupK, lstK, dNext_c, dBreak_c, dCont_c, dSeq_c, dDrop_c, dRet_c, retK_d, retK_m, retK_r, dRetN_c, dIfS_c, iteS_t, iteS_f, dSet_c, setK_d, setK_m, setK_s, setK_r, dAsg_c, asgK_d, asgK_m, dFz_c, dNever_c, dRaise_c, dC_c, dOp_c, dUn_c, dTst_c, tstK_c, dTru_c, truK_n, truK_b, truK_i, truK_t, truK_l, truK_m, truK_bl, dNot_c, dAnd_c, andK_t, andK_f, dOr_c, orK_t, orK_f, dAndV_c, andV_t, andV_f, dOrV_c, orV_t, orV_f, dNotV_c, dIf_c, iteE_t, iteE_f, dChain_c, chK_t, chK_f, dNil_c, dCons_c, dCB_c, dCall_c, dCall0_c, dTup_c, dLst_c, dFor_c, dLc_c, iTp_c, tpK_c, iLst_c, lsK_d, lsK_m, iSeq_c, sqK_d, sqK_m, sqK_b, dSl_c, dNo_c, dPt_c, ptK_c, dYes_c, dBack_k, backK_c, dTupRg_c, dLstRg_c, dRg1_c, dRg2_c, rg1K_c, rg2K_c, tupRg_c, lstRg_c, dDict0_c, dDict1_c, gdName_c, gdTup_c, gdCons_c, gdNil_c, dApp_c, appK_c, apK_d, apK_m, dVar_c, varK_d, varK_m, varK_b, varK_s, varK_sc, varK_r, dNew_c, varK_mo, varK_bo, setK_mo, retK_mo, dDIn_c, dinK_i, dinK_s, dDGet_c, dDGet1_c, isBo_c, dget1K_i, dDPut_c, dputV_d, dputK_i, val_mo, dOwn0_c, dDispV_c, dispK_i, fRepT_c, fIsB_c, dM0_c, dM1_c, isStr_c, fQ0_c, fQ1_c, fSplit_c, fLenS_c, iEnSD_c, dSetdIf_c, setdB_f, enSK_m, enSK_d, dOrT_c, dAndT_c, orTK_n, dCallK_c, dCallK0_c, dCallD_c, dCallD0_c, dSaid_c, toldK_d, toldK_m, iRg1_c, rgK_c, iRg2_c, rgK2_c, iEnT_c, enK_c, iZp_c, zpK_tt, zpK_mm, zpK_ll, zpK_lm, zpK_ml, dPar_c, parK_im, parK_nm, parK_sm, parK_dd, parK_md]
      exact ⟨_, rfl, by omega, oke_nums ws, fun d hd => ⟨ha, hN' d hd⟩⟩
    have hsl : ss.length = 8 := by
      have := hss.length
      rw [rangeD_len] at this
      exact this.symm
    rw [List.nil_append]
    refine ⟨big _ (by rw [hsl]; decide), ?_⟩
    refine forD_by (fun j ρ => ∃ kvs y4 y5 y7 y8 y9 y10, GoodK kvs ∧ kvs.length ≤ j ∧ ρ = [.scr ns, .d (.int (0 + (i : Int))), .st, .d (.tuple (ws.map PyData.int)), y4, y5, .mo (.dk kvs), y7, y8, y9, y10]) ⟨[], _, _, _, _, _, _, (fun _ _ e => nomatch e), Nat.le_refl _, rfl⟩ (fun j d ρ N2 hd h hN2 => ?_) (fun ρ h => ?_)
    · obtain ⟨kvs, y4, y5, y7, y8, y9, y10, gk, lk, rfl⟩ := h
      have hm := List.mem_of_getElem? hd
      have hj : j < 17 := by
        have := (List.getElem?_eq_some_iff.mp hd).1
        simp only [List.length_cons, List.length_append, List.length_nil, hsl] at this
        omega
      have wk : WOk d := by
        have hm : d ∈ [_, _, _, _, _, _, _, _] ++ (od :: ss) := hm
        rcases List.mem_append.mp hm with hm | hm
        · exact wok_all wl hw d hm
        · rcases List.mem_cons.mp hm with rfl | hm
          · exact wok_odd _ hod
          · obtain ⟨_, z⟩ := paired_right hss d hm
            exact wok_spoilt (by omega) hw z
      try simp only [startD, iEn, cvs, cv, vS, Sl.dat, Sl.seq, Sl.sq, Sl.fz, dats, dSetI, dAug, wipeD, List.length_cons, List.length_nil, List.length_append, List.length_replicate, Nat.reduceAdd, Nat.reduceSub, Nat.zero_add, List.replicate_succ, List.replicate_zero, List.cons_append, List.nil_append, List.append_nil, List.set_cons_zero, List.set_cons_succ, List.set_nil, List.getElem?_cons_zero, List.getElem?_cons_succ, Option.getD_some, List.map_cons, List.map_nil, Option.bind_some, fI0_c, fI_c, fU_c, fAddX_i, fAddX_t, fAddX_s, fAddX_mm, fAddX_bm, fAddX_mb, fAddX_bb, fAddX_lm, fAddX_ll, fMulX_i, fMulX_m, fSlX_t, fSlX_m, fSlX_b, fSlX_l, fIs_n, fIs_i, fIs_b, fIs_s, fIs_l, fIs_t, fIs_m, fIs_bl, fLen_t, fLen_l, fLen_m, fLen_b, fLen_scr, fIsi_c, fEqD_c, fEqD_mm, fEqD_bm, fEqD_bb, fEqD_dm, fEq_ss, fInt_i, fInt_b, fTuple_m, fTuple_b, fTuple_t, fTuple_l, fList_m, fList_b, fList_t, fList_l, f2I_c, fRepr_c, fRepr_m, fRepr_b, fStr_c, Bool.not_true, Bool.not_false, true_and, netT, Road.dt, reduceIte, Bool.false_eq_true, decide_true, decide_false, tupK, lstK, dNext_c, dBreak_c, dCont_c, dSeq_c, dDrop_c, dRet_c, retK_d, retK_m, retK_r, dRetN_c, dIfS_c, iteS_t, iteS_f, dSet_c, setK_d, setK_m, setK_s, setK_r, dAsg_c, asgK_d, asgK_m, dFz_c, dNever_c, dRaise_c, dC_c, dOp_c, dUn_c, dTst_c, tstK_c, dTru_c, truK_n, truK_b, truK_i, truK_t, truK_l, truK_m, truK_bl, dNot_c, dAnd_c, andK_t, andK_f, dOr_c, orK_t, orK_f, dAndV_c, andV_t, andV_f, dOrV_c, orV_t, orV_f, dNotV_c, dIf_c, iteE_t, iteE_f, dChain_c, chK_t, chK_f, dNil_c, dCons_c, dCB_c, dCall_c, dCall0_c, dTup_c, dLst_c, dFor_c, dLc_c, iTp_c, tpK_c, iLst_c, lsK_d, lsK_m, iSeq_c, sqK_d, sqK_m, sqK_b, dSl_c, dNo_c, dPt_c, ptK_c, dYes_c, dBack_k, backK_c, dTupRg_c, dLstRg_c, dRg1_c, dRg2_c, rg1K_c, rg2K_c, tupRg_c, lstRg_c, dDict0_c, dDict1_c, gdName_c, gdTup_c, gdCons_c, gdNil_c, dApp_c, appK_c, apK_d, apK_m, dVar_c, varK_d, varK_m, varK_b, varK_s, varK_sc, varK_r, dNew_c, varK_mo, varK_bo, setK_mo, retK_mo, dDIn_c, dinK_i, dinK_s, dDGet_c, dDGet1_c, isBo_c, dget1K_i, dDPut_c, dputV_d, dputK_i, val_mo, dOwn0_c, dDispV_c, dispK_i, fRepT_c, fIsB_c, dM0_c, dM1_c, isStr_c, fQ0_c, fQ1_c, fSplit_c, fLenS_c, iEnSD_c, dSetdIf_c, setdB_f, enSK_m, enSK_d, dOrT_c, dAndT_c, orTK_n, dCallK_c, dCallK0_c, dCallD_c, dCallD0_c, dSaid_c, toldK_d, toldK_m, iRg1_c, rgK_c, iRg2_c, rgK2_c, iEnT_c, enK_c, iZp_c, zpK_tt, zpK_mm, zpK_ll, zpK_lm, zpK_ml, dPar_c, parK_im, parK_nm, parK_sm, parK_dd, parK_md]
      refine ⟨wk.sh, wk.ok, d, rfl, wk.el, ?_⟩
      try simp only [startD, iEn, cvs, cv, vS, Sl.dat, Sl.seq, Sl.sq, Sl.fz, dats, dSetI, dAug, wipeD, List.length_cons, List.length_nil, List.length_append, List.length_replicate, Nat.reduceAdd, Nat.reduceSub, Nat.zero_add, List.replicate_succ, List.replicate_zero, List.cons_append, List.nil_append, List.append_nil, List.set_cons_zero, List.set_cons_succ, List.set_nil, List.getElem?_cons_zero, List.getElem?_cons_succ, Option.getD_some, List.map_cons, List.map_nil, Option.bind_some, fI0_c, fI_c, fU_c, fAddX_i, fAddX_t, fAddX_s, fAddX_mm, fAddX_bm, fAddX_mb, fAddX_bb, fAddX_lm, fAddX_ll, fMulX_i, fMulX_m, fSlX_t, fSlX_m, fSlX_b, fSlX_l, fIs_n, fIs_i, fIs_b, fIs_s, fIs_l, fIs_t, fIs_m, fIs_bl, fLen_t, fLen_l, fLen_m, fLen_b, fLen_scr, fIsi_c, fEqD_c, fEqD_mm, fEqD_bm, fEqD_bb, fEqD_dm, fEq_ss, fInt_i, fInt_b, fTuple_m, fTuple_b, fTuple_t, fTuple_l, fList_m, fList_b, fList_t, fList_l, f2I_c, fRepr_c, fRepr_m, fRepr_b, fStr_c, Bool.not_true, Bool.not_false, true_and, netT, Road.dt, reduceIte, Bool.false_eq_true, decide_true, decide_false, tupK, lstK, dNext_c, dBreak_c, dCont_c, dSeq_c, dDrop_c, dRet_c, retK_d, retK_m, retK_r, dRetN_c, dIfS_c, iteS_t, iteS_f, dSet_c, setK_d, setK_m, setK_s, setK_r, dAsg_c, asgK_d, asgK_m, dFz_c, dNever_c, dRaise_c, dC_c, dOp_c, dUn_c, dTst_c, tstK_c, dTru_c, truK_n, truK_b, truK_i, truK_t, truK_l, truK_m, truK_bl, dNot_c, dAnd_c, andK_t, andK_f, dOr_c, orK_t, orK_f, dAndV_c, andV_t, andV_f, dOrV_c, orV_t, orV_f, dNotV_c, dIf_c, iteE_t, iteE_f, dChain_c, chK_t, chK_f, dNil_c, dCons_c, dCB_c, dCall_c, dCall0_c, dTup_c, dLst_c, dFor_c, dLc_c, iTp_c, tpK_c, iLst_c, lsK_d, lsK_m, iSeq_c, sqK_d, sqK_m, sqK_b, dSl_c, dNo_c, dPt_c, ptK_c, dYes_c, dBack_k, backK_c, dTupRg_c, dLstRg_c, dRg1_c, dRg2_c, rg1K_c, rg2K_c, tupRg_c, lstRg_c, dDict0_c, dDict1_c, gdName_c, gdTup_c, gdCons_c, gdNil_c, dApp_c, appK_c, apK_d, apK_m, dVar_c, varK_d, varK_m, varK_b, varK_s, varK_sc, varK_r, dNew_c, varK_mo, varK_bo, setK_mo, retK_mo, dDIn_c, dinK_i, dinK_s, dDGet_c, dDGet1_c, isBo_c, dget1K_i, dDPut_c, dputV_d, dputK_i, val_mo, dOwn0_c, dDispV_c, dispK_i, fRepT_c, fIsB_c, dM0_c, dM1_c, isStr_c, fQ0_c, fQ1_c, fSplit_c, fLenS_c, iEnSD_c, dSetdIf_c, setdB_f, enSK_m, enSK_d, dOrT_c, dAndT_c, orTK_n, dCallK_c, dCallK0_c, dCallD_c, dCallD0_c, dSaid_c, toldK_d, toldK_m, iRg1_c, rgK_c, iRg2_c, rgK2_c, iEnT_c, enK_c, iZp_c, zpK_tt, zpK_mm, zpK_ll, zpK_lm, zpK_ml, dPar_c, parK_im, parK_nm, parK_sm, parK_dd, parK_md]
      cases ew : wayD d with
      | true =>
        obtain ⟨vs, rfl, hv⟩ := way_true ew
        have vl : vs.length ≤ 100 := by
          have := (wk.el _ rfl).1
          rw [List.length_map] at this
          exact this
        try simp only [startD, iEn, cvs, cv, vS, Sl.dat, Sl.seq, Sl.sq, Sl.fz, dats, dSetI, dAug, wipeD, List.length_cons, List.length_nil, List.length_append, List.length_replicate, Nat.reduceAdd, Nat.reduceSub, Nat.zero_add, List.replicate_succ, List.replicate_zero, List.cons_append, List.nil_append, List.append_nil, List.set_cons_zero, List.set_cons_succ, List.set_nil, List.getElem?_cons_zero, List.getElem?_cons_succ, Option.getD_some, List.map_cons, List.map_nil, Option.bind_some, fI0_c, fI_c, fU_c, fAddX_i, fAddX_t, fAddX_s, fAddX_mm, fAddX_bm, fAddX_mb, fAddX_bb, fAddX_lm, fAddX_ll, fMulX_i, fMulX_m, fSlX_t, fSlX_m, fSlX_b, fSlX_l, fIs_n, fIs_i, fIs_b, fIs_s, fIs_l, fIs_t, fIs_m, fIs_bl, fLen_t, fLen_l, fLen_m, fLen_b, fLen_scr, fIsi_c, fEqD_c, fEqD_mm, fEqD_bm, fEqD_bb, fEqD_dm, fEq_ss, fInt_i, fInt_b, fTuple_m, fTuple_b, fTuple_t, fTuple_l, fList_m, fList_b, fList_t, fList_l, f2I_c, fRepr_c, fRepr_m, fRepr_b, fStr_c, Bool.not_true, Bool.not_false, true_and, netT, Road.dt, reduceIte, Bool.false_eq_true, decide_true, decide_false, tupK, lstK, dNext_c, dBreak_c, dCont_c, dSeq_c, dDrop_c, dRet_c, retK_d, retK_m, retK_r, dRetN_c, dIfS_c, iteS_t, iteS_f, dSet_c, setK_d, setK_m, setK_s, setK_r, dAsg_c, asgK_d, asgK_m, dFz_c, dNever_c, dRaise_c, dC_c, dOp_c, dUn_c, dTst_c, tstK_c, dTru_c, truK_n, truK_b, truK_i, truK_t, truK_l, truK_m, truK_bl, dNot_c, dAnd_c, andK_t, andK_f, dOr_c, orK_t, orK_f, dAndV_c, andV_t, andV_f, dOrV_c, orV_t, orV_f, dNotV_c, dIf_c, iteE_t, iteE_f, dChain_c, chK_t, chK_f, dNil_c, dCons_c, dCB_c, dCall_c, dCall0_c, dTup_c, dLst_c, dFor_c, dLc_c, iTp_c, tpK_c, iLst_c, lsK_d, lsK_m, iSeq_c, sqK_d, sqK_m, sqK_b, dSl_c, dNo_c, dPt_c, ptK_c, dYes_c, dBack_k, backK_c, dTupRg_c, dLstRg_c, dRg1_c, dRg2_c, rg1K_c, rg2K_c, tupRg_c, lstRg_c, dDict0_c, dDict1_c, gdName_c, gdTup_c, gdCons_c, gdNil_c, dApp_c, appK_c, apK_d, apK_m, dVar_c, varK_d, varK_m, varK_b, varK_s, varK_sc, varK_r, dNew_c, varK_mo, varK_bo, setK_mo, retK_mo, dDIn_c, dinK_i, dinK_s, dDGet_c, dDGet1_c, isBo_c, dget1K_i, dDPut_c, dputV_d, dputK_i, val_mo, dOwn0_c, dDispV_c, dispK_i, fRepT_c, fIsB_c, dM0_c, dM1_c, isStr_c, fQ0_c, fQ1_c, fSplit_c, fLenS_c, iEnSD_c, dSetdIf_c, setdB_f, enSK_m, enSK_d, dOrT_c, dAndT_c, orTK_n, dCallK_c, dCallK0_c, dCallD_c, dCallD0_c, dSaid_c, toldK_d, toldK_m, iRg1_c, rgK_c, iRg2_c, rgK2_c, iEnT_c, enK_c, iZp_c, zpK_tt, zpK_mm, zpK_ll, zpK_lm, zpK_ml, dPar_c, parK_im, parK_nm, parK_sm, parK_dd, parK_md]
        refine ⟨vs, rfl, vl, hv, ?_⟩
        try simp only [startD, iEn, cvs, cv, vS, Sl.dat, Sl.seq, Sl.sq, Sl.fz, dats, dSetI, dAug, wipeD, List.length_cons, List.length_nil, List.length_append, List.length_replicate, Nat.reduceAdd, Nat.reduceSub, Nat.zero_add, List.replicate_succ, List.replicate_zero, List.cons_append, List.nil_append, List.append_nil, List.set_cons_zero, List.set_cons_succ, List.set_nil, List.getElem?_cons_zero, List.getElem?_cons_succ, Option.getD_some, List.map_cons, List.map_nil, Option.bind_some, fI0_c, fI_c, fU_c, fAddX_i, fAddX_t, fAddX_s, fAddX_mm, fAddX_bm, fAddX_mb, fAddX_bb, fAddX_lm, fAddX_ll, fMulX_i, fMulX_m, fSlX_t, fSlX_m, fSlX_b, fSlX_l, fIs_n, fIs_i, fIs_b, fIs_s, fIs_l, fIs_t, fIs_m, fIs_bl, fLen_t, fLen_l, fLen_m, fLen_b, fLen_scr, fIsi_c, fEqD_c, fEqD_mm, fEqD_bm, fEqD_bb, fEqD_dm, fEq_ss, fInt_i, fInt_b, fTuple_m, fTuple_b, fTuple_t, fTuple_l, fList_m, fList_b, fList_t, fList_l, f2I_c, fRepr_c, fRepr_m, fRepr_b, fStr_c, Bool.not_true, Bool.not_false, true_and, netT, Road.dt, reduceIte, Bool.false_eq_true, decide_true, decide_false, tupK, lstK, dNext_c, dBreak_c, dCont_c, dSeq_c, dDrop_c, dRet_c, retK_d, retK_m, retK_r, dRetN_c, dIfS_c, iteS_t, iteS_f, dSet_c, setK_d, setK_m, setK_s, setK_r, dAsg_c, asgK_d, asgK_m, dFz_c, dNever_c, dRaise_c, dC_c, dOp_c, dUn_c, dTst_c, tstK_c, dTru_c, truK_n, truK_b, truK_i, truK_t, truK_l, truK_m, truK_bl, dNot_c, dAnd_c, andK_t, andK_f, dOr_c, orK_t, orK_f, dAndV_c, andV_t, andV_f, dOrV_c, orV_t, orV_f, dNotV_c, dIf_c, iteE_t, iteE_f, dChain_c, chK_t, chK_f, dNil_c, dCons_c, dCB_c, dCall_c, dCall0_c, dTup_c, dLst_c, dFor_c, dLc_c, iTp_c, tpK_c, iLst_c, lsK_d, lsK_m, iSeq_c, sqK_d, sqK_m, sqK_b, dSl_c, dNo_c, dPt_c, ptK_c, dYes_c, dBack_k, backK_c, dTupRg_c, dLstRg_c, dRg1_c, dRg2_c, rg1K_c, rg2K_c, tupRg_c, lstRg_c, dDict0_c, dDict1_c, gdName_c, gdTup_c, gdCons_c, gdNil_c, dApp_c, appK_c, apK_d, apK_m, dVar_c, varK_d, varK_m, varK_b, varK_s, varK_sc, varK_r, dNew_c, varK_mo, varK_bo, setK_mo, retK_mo, dDIn_c, dinK_i, dinK_s, dDGet_c, dDGet1_c, isBo_c, dget1K_i, dDPut_c, dputV_d, dputK_i, val_mo, dOwn0_c, dDispV_c, dispK_i, fRepT_c, fIsB_c, dM0_c, dM1_c, isStr_c, fQ0_c, fQ1_c, fSplit_c, fLenS_c, iEnSD_c, dSetdIf_c, setdB_f, enSK_m, enSK_d, dOrT_c, dAndT_c, orTK_n, dCallK_c, dCallK0_c, dCallD_c, dCallD0_c, dSaid_c, toldK_d, toldK_m, iRg1_c, rgK_c, iRg2_c, rgK2_c, iEnT_c, enK_c, iZp_c, zpK_tt, zpK_mm, zpK_ll, zpK_lm, zpK_ml, dPar_c, parK_im, parK_nm, parK_sm, parK_dd, parK_md]
        try simp only [show ((0 : Nat) ≤ sizeLine) = True from eq_true (by decide), show ((1 : Nat) ≤ sizeLine) = True from eq_true (by decide), show ((2 : Nat) ≤ sizeLine) = True from eq_true (by decide), show ((3 : Nat) ≤ sizeLine) = True from eq_true (by decide), show ((4 : Nat) ≤ sizeLine) = True from eq_true (by decide), show ((5 : Nat) ≤ sizeLine) = True from eq_true (by decide), show ((6 : Nat) ≤ sizeLine) = True from eq_true (by decide), show ((7 : Nat) ≤ sizeLine) = True from eq_true (by decide), show ((8 : Nat) ≤ sizeLine) = True from eq_true (by decide), show ((9 : Nat) ≤ sizeLine) = True from eq_true (by decide), show ((10 : Nat) ≤ sizeLine) = True from eq_true (by decide), show ((11 : Nat) ≤ sizeLine) = True from eq_true (by decide), show ((12 : Nat) ≤ sizeLine) = True from eq_true (by decide), show ((13 : Nat) ≤ sizeLine) = True from eq_true (by decide), show ((14 : Nat) ≤ sizeLine) = True from eq_true (by decide), show ((15 : Nat) ≤ sizeLine) = True from eq_true (by decide), show ((16 : Nat) ≤ sizeLine) = True from eq_true (by decide), show ((17 : Nat) ≤ sizeLine) = True from eq_true (by decide), show ((18 : Nat) ≤ sizeLine) = True from eq_true (by decide), show ((19 : Nat) ≤ sizeLine) = True from eq_true (by decide), show ((20 : Nat) ≤ sizeLine) = True from eq_true (by decide), show ((21 : Nat) ≤ sizeLine) = True from eq_true (by decide), show ((22 : Nat) ≤ sizeLine) = True from eq_true (by decide), show ((23 : Nat) ≤ sizeLine) = True from eq_true (by decide), show ((24 : Nat) ≤ sizeLine) = True from eq_true (by decide), show ((25 : Nat) ≤ sizeLine) = True from eq_true (by decide), show ((26 : Nat) ≤ sizeLine) = True from eq_true (by decide), show ((27 : Nat) ≤ sizeLine) = True from eq_true (by decide), show ((28 : Nat) ≤ sizeLine) = True from eq_true (by decide), show ((29 : Nat) ≤ sizeLine) = True from eq_true (by decide), show ((30 : Nat) ≤ sizeLine) = True from eq_true (by decide), show ((31 : Nat) ≤ sizeLine) = True from eq_true (by decide), show ((32 : Nat) ≤ sizeLine) = True from eq_true (by decide), show ((33 : Nat) ≤ sizeLine) = True from eq_true (by decide), show ((34 : Nat) ≤ sizeLine) = True from eq_true (by decide), show ((35 : Nat) ≤ sizeLine) = True from eq_true (by decide), show ((36 : Nat) ≤ sizeLine) = True from eq_true (by decide), show ((37 : Nat) ≤ sizeLine) = True from eq_true (by decide), show ((38 : Nat) ≤ sizeLine) = True from eq_true (by decide), show ((39 : Nat) ≤ sizeLine) = True from eq_true (by decide), show ((40 : Nat) ≤ sizeLine) = True from eq_true (by decide), true_and]
        try simp only [startD, iEn, cvs, cv, vS, Sl.dat, Sl.seq, Sl.sq, Sl.fz, dats, dSetI, dAug, wipeD, List.length_cons, List.length_nil, List.length_append, List.length_replicate, Nat.reduceAdd, Nat.reduceSub, Nat.zero_add, List.replicate_succ, List.replicate_zero, List.cons_append, List.nil_append, List.append_nil, List.set_cons_zero, List.set_cons_succ, List.set_nil, List.getElem?_cons_zero, List.getElem?_cons_succ, Option.getD_some, List.map_cons, List.map_nil, Option.bind_some, fI0_c, fI_c, fU_c, fAddX_i, fAddX_t, fAddX_s, fAddX_mm, fAddX_bm, fAddX_mb, fAddX_bb, fAddX_lm, fAddX_ll, fMulX_i, fMulX_m, fSlX_t, fSlX_m, fSlX_b, fSlX_l, fIs_n, fIs_i, fIs_b, fIs_s, fIs_l, fIs_t, fIs_m, fIs_bl, fLen_t, fLen_l, fLen_m, fLen_b, fLen_scr, fIsi_c, fEqD_c, fEqD_mm, fEqD_bm, fEqD_bb, fEqD_dm, fEq_ss, fInt_i, fInt_b, fTuple_m, fTuple_b, fTuple_t, fTuple_l, fList_m, fList_b, fList_t, fList_l, f2I_c, fRepr_c, fRepr_m, fRepr_b, fStr_c, Bool.not_true, Bool.not_false, true_and, netT, Road.dt, reduceIte, Bool.false_eq_true, decide_true, decide_false, tupK, lstK, dNext_c, dBreak_c, dCont_c, dSeq_c, dDrop_c, dRet_c, retK_d, retK_m, retK_r, dRetN_c, dIfS_c, iteS_t, iteS_f, dSet_c, setK_d, setK_m, setK_s, setK_r, dAsg_c, asgK_d, asgK_m, dFz_c, dNever_c, dRaise_c, dC_c, dOp_c, dUn_c, dTst_c, tstK_c, dTru_c, truK_n, truK_b, truK_i, truK_t, truK_l, truK_m, truK_bl, dNot_c, dAnd_c, andK_t, andK_f, dOr_c, orK_t, orK_f, dAndV_c, andV_t, andV_f, dOrV_c, orV_t, orV_f, dNotV_c, dIf_c, iteE_t, iteE_f, dChain_c, chK_t, chK_f, dNil_c, dCons_c, dCB_c, dCall_c, dCall0_c, dTup_c, dLst_c, dFor_c, dLc_c, iTp_c, tpK_c, iLst_c, lsK_d, lsK_m, iSeq_c, sqK_d, sqK_m, sqK_b, dSl_c, dNo_c, dPt_c, ptK_c, dYes_c, dBack_k, backK_c, dTupRg_c, dLstRg_c, dRg1_c, dRg2_c, rg1K_c, rg2K_c, tupRg_c, lstRg_c, dDict0_c, dDict1_c, gdName_c, gdTup_c, gdCons_c, gdNil_c, dApp_c, appK_c, apK_d, apK_m, dVar_c, varK_d, varK_m, varK_b, varK_s, varK_sc, varK_r, dNew_c, varK_mo, varK_bo, setK_mo, retK_mo, dDIn_c, dinK_i, dinK_s, dDGet_c, dDGet1_c, isBo_c, dget1K_i, dDPut_c, dputV_d, dputK_i, val_mo, dOwn0_c, dDispV_c, dispK_i, fRepT_c, fIsB_c, dM0_c, dM1_c, isStr_c, fQ0_c, fQ1_c, fSplit_c, fLenS_c, iEnSD_c, dSetdIf_c, setdB_f, enSK_m, enSK_d, dOrT_c, dAndT_c, orTK_n, dCallK_c, dCallK0_c, dCallD_c, dCallD0_c, dSaid_c, toldK_d, toldK_m, iRg1_c, rgK_c, iRg2_c, rgK2_c, iEnT_c, enK_c, iZp_c, zpK_tt, zpK_mm, zpK_ll, zpK_lm, zpK_ml, dPar_c, parK_im, parK_nm, parK_sm, parK_dd, parK_md]
        have told : Sh (.tuple [.str "told", .str (wayS vs)]) 20000 1 := (Sh.tuple (n := 5000) (m := 0) (k := 2) (fun e he => by
          simp only [List.mem_cons, List.not_mem_nil, or_false] at he
          rcases he with rfl | rfl
          · exact (sh_text (by decide +kernel)).mono (by decide) (by decide)
          · exact way_sh hv vl) (Nat.le_refl _)).mono (by decide) (by decide)
        have tlay : Lay (.tuple [.str "told", .str (wayS vs)]) 1 := lay_tup (n := 0) fun e he => by
          simp only [List.mem_cons, List.not_mem_nil, or_false] at he
          rcases he with rfl | rfl
          · exact lay_str (by decide +kernel) _
          · exact lay_str (way_str hv) _
        refine ⟨by decide, by decide, ?_⟩
        refine lcD_map (fun _ => .tuple [.str "told", .str (wayS vs)]) _ [] (fun d _ acc N' ha hN' => ?_) (by rw [rangeD_len, List.length_nil]; decide) ?_
        · unfold lcStep
          try simp only [startD, iEn, cvs, cv, vS, Sl.dat, Sl.seq, Sl.sq, Sl.fz, dats, dSetI, dAug, wipeD, List.length_cons, List.length_nil, List.length_append, List.length_replicate, Nat.reduceAdd, Nat.reduceSub, Nat.zero_add, List.replicate_succ, List.replicate_zero, List.cons_append, List.nil_append, List.append_nil, List.set_cons_zero, List.set_cons_succ, List.set_nil, List.getElem?_cons_zero, List.getElem?_cons_succ, Option.getD_some, List.map_cons, List.map_nil, Option.bind_some, fI0_c, fI_c, fU_c, fAddX_i, fAddX_t, fAddX_s, fAddX_mm, fAddX_bm, fAddX_mb, fAddX_bb, fAddX_lm, fAddX_ll, fMulX_i, fMulX_m, fSlX_t, fSlX_m, fSlX_b, fSlX_l, fIs_n, fIs_i, fIs_b, fIs_s, fIs_l, fIs_t, fIs_m, fIs_bl, fLen_t, fLen_l, fLen_m, fLen_b, fLen_scr, fIsi_c, fEqD_c, fEqD_mm, fEqD_bm, fEqD_bb, fEqD_dm, fEq_ss, fInt_i, fInt_b, fTuple_m, fTuple_b, fTuple_t, fTuple_l, fList_m, fList_b, fList_t, fList_l, f2I_c, fRepr_c, fRepr_m, fRepr_b, fStr_c, Bool.not_true, Bool.not_false, true_and, netT, Road.dt, reduceIte, Bool.false_eq_true, decide_true, decide_false, tupK, lstK, dNext_c, dBreak_c, dCont_c, dSeq_c, dDrop_c, dRet_c, retK_d, retK_m, retK_r, dRetN_c, dIfS_c, iteS_t, iteS_f, dSet_c, setK_d, setK_m, setK_s, setK_r, dAsg_c, asgK_d, asgK_m, dFz_c, dNever_c, dRaise_c, dC_c, dOp_c, dUn_c, dTst_c, tstK_c, dTru_c, truK_n, truK_b, truK_i, truK_t, truK_l, truK_m, truK_bl, dNot_c, dAnd_c, andK_t, andK_f, dOr_c, orK_t, orK_f, dAndV_c, andV_t, andV_f, dOrV_c, orV_t, orV_f, dNotV_c, dIf_c, iteE_t, iteE_f, dChain_c, chK_t, chK_f, dNil_c, dCons_c, dCB_c, dCall_c, dCall0_c, dTup_c, dLst_c, dFor_c, dLc_c, iTp_c, tpK_c, iLst_c, lsK_d, lsK_m, iSeq_c, sqK_d, sqK_m, sqK_b, dSl_c, dNo_c, dPt_c, ptK_c, dYes_c, dBack_k, backK_c, dTupRg_c, dLstRg_c, dRg1_c, dRg2_c, rg1K_c, rg2K_c, tupRg_c, lstRg_c, dDict0_c, dDict1_c, gdName_c, gdTup_c, gdCons_c, gdNil_c, dApp_c, appK_c, apK_d, apK_m, dVar_c, varK_d, varK_m, varK_b, varK_s, varK_sc, varK_r, dNew_c, varK_mo, varK_bo, setK_mo, retK_mo, dDIn_c, dinK_i, dinK_s, dDGet_c, dDGet1_c, isBo_c, dget1K_i, dDPut_c, dputV_d, dputK_i, val_mo, dOwn0_c, dDispV_c, dispK_i, fRepT_c, fIsB_c, dM0_c, dM1_c, isStr_c, fQ0_c, fQ1_c, fSplit_c, fLenS_c, iEnSD_c, dSetdIf_c, setdB_f, enSK_m, enSK_d, dOrT_c, dAndT_c, orTK_n, dCallK_c, dCallK0_c, dCallD_c, dCallD0_c, dSaid_c, toldK_d, toldK_m, iRg1_c, rgK_c, iRg2_c, rgK2_c, iEnT_c, enK_c, iZp_c, zpK_tt, zpK_mm, zpK_ll, zpK_lm, zpK_ml, dPar_c, parK_im, parK_nm, parK_sm, parK_dd, parK_md]
          refine kwK_i rfl rfl rfl ⟨_, rfl, (fun xs e => by cases e; rw [List.length_map]; exact vl), .inr ⟨vs, rfl, hv, ?_⟩⟩
          try simp only [startD, iEn, cvs, cv, vS, Sl.dat, Sl.seq, Sl.sq, Sl.fz, dats, dSetI, dAug, wipeD, List.length_cons, List.length_nil, List.length_append, List.length_replicate, Nat.reduceAdd, Nat.reduceSub, Nat.zero_add, List.replicate_succ, List.replicate_zero, List.cons_append, List.nil_append, List.append_nil, List.set_cons_zero, List.set_cons_succ, List.set_nil, List.getElem?_cons_zero, List.getElem?_cons_succ, Option.getD_some, List.map_cons, List.map_nil, Option.bind_some, fI0_c, fI_c, fU_c, fAddX_i, fAddX_t, fAddX_s, fAddX_mm, fAddX_bm, fAddX_mb, fAddX_bb, fAddX_lm, fAddX_ll, fMulX_i, fMulX_m, fSlX_t, fSlX_m, fSlX_b, fSlX_l, fIs_n, fIs_i, fIs_b, fIs_s, fIs_l, fIs_t, fIs_m, fIs_bl, fLen_t, fLen_l, fLen_m, fLen_b, fLen_scr, fIsi_c, fEqD_c, fEqD_mm, fEqD_bm, fEqD_bb, fEqD_dm, fEq_ss, fInt_i, fInt_b, fTuple_m, fTuple_b, fTuple_t, fTuple_l, fList_m, fList_b, fList_t, fList_l, f2I_c, fRepr_c, fRepr_m, fRepr_b, fStr_c, Bool.not_true, Bool.not_false, true_and, netT, Road.dt, reduceIte, Bool.false_eq_true, decide_true, decide_false, tupK, lstK, dNext_c, dBreak_c, dCont_c, dSeq_c, dDrop_c, dRet_c, retK_d, retK_m, retK_r, dRetN_c, dIfS_c, iteS_t, iteS_f, dSet_c, setK_d, setK_m, setK_s, setK_r, dAsg_c, asgK_d, asgK_m, dFz_c, dNever_c, dRaise_c, dC_c, dOp_c, dUn_c, dTst_c, tstK_c, dTru_c, truK_n, truK_b, truK_i, truK_t, truK_l, truK_m, truK_bl, dNot_c, dAnd_c, andK_t, andK_f, dOr_c, orK_t, orK_f, dAndV_c, andV_t, andV_f, dOrV_c, orV_t, orV_f, dNotV_c, dIf_c, iteE_t, iteE_f, dChain_c, chK_t, chK_f, dNil_c, dCons_c, dCB_c, dCall_c, dCall0_c, dTup_c, dLst_c, dFor_c, dLc_c, iTp_c, tpK_c, iLst_c, lsK_d, lsK_m, iSeq_c, sqK_d, sqK_m, sqK_b, dSl_c, dNo_c, dPt_c, ptK_c, dYes_c, dBack_k, backK_c, dTupRg_c, dLstRg_c, dRg1_c, dRg2_c, rg1K_c, rg2K_c, tupRg_c, lstRg_c, dDict0_c, dDict1_c, gdName_c, gdTup_c, gdCons_c, gdNil_c, dApp_c, appK_c, apK_d, apK_m, dVar_c, varK_d, varK_m, varK_b, varK_s, varK_sc, varK_r, dNew_c, varK_mo, varK_bo, setK_mo, retK_mo, dDIn_c, dinK_i, dinK_s, dDGet_c, dDGet1_c, isBo_c, dget1K_i, dDPut_c, dputV_d, dputK_i, val_mo, dOwn0_c, dDispV_c, dispK_i, fRepT_c, fIsB_c, dM0_c, dM1_c, isStr_c, fQ0_c, fQ1_c, fSplit_c, fLenS_c, iEnSD_c, dSetdIf_c, setdB_f, enSK_m, enSK_d, dOrT_c, dAndT_c, orTK_n, dCallK_c, dCallK0_c, dCallD_c, dCallD0_c, dSaid_c, toldK_d, toldK_m, iRg1_c, rgK_c, iRg2_c, rgK2_c, iEnT_c, enK_c, iZp_c, zpK_tt, zpK_mm, zpK_ll, zpK_lm, zpK_ml, dPar_c, parK_im, parK_nm, parK_sm, parK_dd, parK_md]
          exact ⟨ha, hN'⟩
        rw [List.nil_append, show ((rangeD 0 (Int.toNat 2)).map fun _ => PyData.tuple [.str "told", .str (wayS vs)]) = [.tuple [.str "told", .str (wayS vs)], .tuple [.str "told", .str (wayS vs)]] from rfl]
        try simp only [startD, iEn, cvs, cv, vS, Sl.dat, Sl.seq, Sl.sq, Sl.fz, dats, dSetI, dAug, wipeD, List.length_cons, List.length_nil, List.length_append, List.length_replicate, Nat.reduceAdd, Nat.reduceSub, Nat.zero_add, List.replicate_succ, List.replicate_zero, List.cons_append, List.nil_append, List.append_nil, List.set_cons_zero, List.set_cons_succ, List.set_nil, List.getElem?_cons_zero, List.getElem?_cons_succ, Option.getD_some, List.map_cons, List.map_nil, Option.bind_some, fI0_c, fI_c, fU_c, fAddX_i, fAddX_t, fAddX_s, fAddX_mm, fAddX_bm, fAddX_mb, fAddX_bb, fAddX_lm, fAddX_ll, fMulX_i, fMulX_m, fSlX_t, fSlX_m, fSlX_b, fSlX_l, fIs_n, fIs_i, fIs_b, fIs_s, fIs_l, fIs_t, fIs_m, fIs_bl, fLen_t, fLen_l, fLen_m, fLen_b, fLen_scr, fIsi_c, fEqD_c, fEqD_mm, fEqD_bm, fEqD_bb, fEqD_dm, fEq_ss, fInt_i, fInt_b, fTuple_m, fTuple_b, fTuple_t, fTuple_l, fList_m, fList_b, fList_t, fList_l, f2I_c, fRepr_c, fRepr_m, fRepr_b, fStr_c, Bool.not_true, Bool.not_false, true_and, netT, Road.dt, reduceIte, Bool.false_eq_true, decide_true, decide_false, tupK, lstK, dNext_c, dBreak_c, dCont_c, dSeq_c, dDrop_c, dRet_c, retK_d, retK_m, retK_r, dRetN_c, dIfS_c, iteS_t, iteS_f, dSet_c, setK_d, setK_m, setK_s, setK_r, dAsg_c, asgK_d, asgK_m, dFz_c, dNever_c, dRaise_c, dC_c, dOp_c, dUn_c, dTst_c, tstK_c, dTru_c, truK_n, truK_b, truK_i, truK_t, truK_l, truK_m, truK_bl, dNot_c, dAnd_c, andK_t, andK_f, dOr_c, orK_t, orK_f, dAndV_c, andV_t, andV_f, dOrV_c, orV_t, orV_f, dNotV_c, dIf_c, iteE_t, iteE_f, dChain_c, chK_t, chK_f, dNil_c, dCons_c, dCB_c, dCall_c, dCall0_c, dTup_c, dLst_c, dFor_c, dLc_c, iTp_c, tpK_c, iLst_c, lsK_d, lsK_m, iSeq_c, sqK_d, sqK_m, sqK_b, dSl_c, dNo_c, dPt_c, ptK_c, dYes_c, dBack_k, backK_c, dTupRg_c, dLstRg_c, dRg1_c, dRg2_c, rg1K_c, rg2K_c, tupRg_c, lstRg_c, dDict0_c, dDict1_c, gdName_c, gdTup_c, gdCons_c, gdNil_c, dApp_c, appK_c, apK_d, apK_m, dVar_c, varK_d, varK_m, varK_b, varK_s, varK_sc, varK_r, dNew_c, varK_mo, varK_bo, setK_mo, retK_mo, dDIn_c, dinK_i, dinK_s, dDGet_c, dDGet1_c, isBo_c, dget1K_i, dDPut_c, dputV_d, dputK_i, val_mo, dOwn0_c, dDispV_c, dispK_i, fRepT_c, fIsB_c, dM0_c, dM1_c, isStr_c, fQ0_c, fQ1_c, fSplit_c, fLenS_c, iEnSD_c, dSetdIf_c, setdB_f, enSK_m, enSK_d, dOrT_c, dAndT_c, orTK_n, dCallK_c, dCallK0_c, dCallD_c, dCallD0_c, dSaid_c, toldK_d, toldK_m, iRg1_c, rgK_c, iRg2_c, rgK2_c, iEnT_c, enK_c, iZp_c, zpK_tt, zpK_mm, zpK_ll, zpK_lm, zpK_ml, dPar_c, parK_im, parK_nm, parK_sm, parK_dd, parK_md]
        have s2 := two_sh told (by decide) (by decide)
        have o2 := two_ok tlay
        refine ⟨s2, o2, s2, o2, ?_⟩
        try simp only [startD, iEn, cvs, cv, vS, Sl.dat, Sl.seq, Sl.sq, Sl.fz, dats, dSetI, dAug, wipeD, List.length_cons, List.length_nil, List.length_append, List.length_replicate, Nat.reduceAdd, Nat.reduceSub, Nat.zero_add, List.replicate_succ, List.replicate_zero, List.cons_append, List.nil_append, List.append_nil, List.set_cons_zero, List.set_cons_succ, List.set_nil, List.getElem?_cons_zero, List.getElem?_cons_succ, Option.getD_some, List.map_cons, List.map_nil, Option.bind_some, fI0_c, fI_c, fU_c, fAddX_i, fAddX_t, fAddX_s, fAddX_mm, fAddX_bm, fAddX_mb, fAddX_bb, fAddX_lm, fAddX_ll, fMulX_i, fMulX_m, fSlX_t, fSlX_m, fSlX_b, fSlX_l, fIs_n, fIs_i, fIs_b, fIs_s, fIs_l, fIs_t, fIs_m, fIs_bl, fLen_t, fLen_l, fLen_m, fLen_b, fLen_scr, fIsi_c, fEqD_c, fEqD_mm, fEqD_bm, fEqD_bb, fEqD_dm, fEq_ss, fInt_i, fInt_b, fTuple_m, fTuple_b, fTuple_t, fTuple_l, fList_m, fList_b, fList_t, fList_l, f2I_c, fRepr_c, fRepr_m, fRepr_b, fStr_c, Bool.not_true, Bool.not_false, true_and, netT, Road.dt, reduceIte, Bool.false_eq_true, decide_true, decide_false, tupK, lstK, dNext_c, dBreak_c, dCont_c, dSeq_c, dDrop_c, dRet_c, retK_d, retK_m, retK_r, dRetN_c, dIfS_c, iteS_t, iteS_f, dSet_c, setK_d, setK_m, setK_s, setK_r, dAsg_c, asgK_d, asgK_m, dFz_c, dNever_c, dRaise_c, dC_c, dOp_c, dUn_c, dTst_c, tstK_c, dTru_c, truK_n, truK_b, truK_i, truK_t, truK_l, truK_m, truK_bl, dNot_c, dAnd_c, andK_t, andK_f, dOr_c, orK_t, orK_f, dAndV_c, andV_t, andV_f, dOrV_c, orV_t, orV_f, dNotV_c, dIf_c, iteE_t, iteE_f, dChain_c, chK_t, chK_f, dNil_c, dCons_c, dCB_c, dCall_c, dCall0_c, dTup_c, dLst_c, dFor_c, dLc_c, iTp_c, tpK_c, iLst_c, lsK_d, lsK_m, iSeq_c, sqK_d, sqK_m, sqK_b, dSl_c, dNo_c, dPt_c, ptK_c, dYes_c, dBack_k, backK_c, dTupRg_c, dLstRg_c, dRg1_c, dRg2_c, rg1K_c, rg2K_c, tupRg_c, lstRg_c, dDict0_c, dDict1_c, gdName_c, gdTup_c, gdCons_c, gdNil_c, dApp_c, appK_c, apK_d, apK_m, dVar_c, varK_d, varK_m, varK_b, varK_s, varK_sc, varK_r, dNew_c, varK_mo, varK_bo, setK_mo, retK_mo, dDIn_c, dinK_i, dinK_s, dDGet_c, dDGet1_c, isBo_c, dget1K_i, dDPut_c, dputV_d, dputK_i, val_mo, dOwn0_c, dDispV_c, dispK_i, fRepT_c, fIsB_c, dM0_c, dM1_c, isStr_c, fQ0_c, fQ1_c, fSplit_c, fLenS_c, iEnSD_c, dSetdIf_c, setdB_f, enSK_m, enSK_d, dOrT_c, dAndT_c, orTK_n, dCallK_c, dCallK0_c, dCallD_c, dCallD0_c, dSaid_c, toldK_d, toldK_m, iRg1_c, rgK_c, iRg2_c, rgK2_c, iEnT_c, enK_c, iZp_c, zpK_tt, zpK_mm, zpK_ll, zpK_lm, zpK_ml, dPar_c, parK_im, parK_nm, parK_sm, parK_dd, parK_md]
        refine ⟨wk.sh, wk.ok, ?_⟩
        try simp only [startD, iEn, cvs, cv, vS, Sl.dat, Sl.seq, Sl.sq, Sl.fz, dats, dSetI, dAug, wipeD, List.length_cons, List.length_nil, List.length_append, List.length_replicate, Nat.reduceAdd, Nat.reduceSub, Nat.zero_add, List.replicate_succ, List.replicate_zero, List.cons_append, List.nil_append, List.append_nil, List.set_cons_zero, List.set_cons_succ, List.set_nil, List.getElem?_cons_zero, List.getElem?_cons_succ, Option.getD_some, List.map_cons, List.map_nil, Option.bind_some, fI0_c, fI_c, fU_c, fAddX_i, fAddX_t, fAddX_s, fAddX_mm, fAddX_bm, fAddX_mb, fAddX_bb, fAddX_lm, fAddX_ll, fMulX_i, fMulX_m, fSlX_t, fSlX_m, fSlX_b, fSlX_l, fIs_n, fIs_i, fIs_b, fIs_s, fIs_l, fIs_t, fIs_m, fIs_bl, fLen_t, fLen_l, fLen_m, fLen_b, fLen_scr, fIsi_c, fEqD_c, fEqD_mm, fEqD_bm, fEqD_bb, fEqD_dm, fEq_ss, fInt_i, fInt_b, fTuple_m, fTuple_b, fTuple_t, fTuple_l, fList_m, fList_b, fList_t, fList_l, f2I_c, fRepr_c, fRepr_m, fRepr_b, fStr_c, Bool.not_true, Bool.not_false, true_and, netT, Road.dt, reduceIte, Bool.false_eq_true, decide_true, decide_false, tupK, lstK, dNext_c, dBreak_c, dCont_c, dSeq_c, dDrop_c, dRet_c, retK_d, retK_m, retK_r, dRetN_c, dIfS_c, iteS_t, iteS_f, dSet_c, setK_d, setK_m, setK_s, setK_r, dAsg_c, asgK_d, asgK_m, dFz_c, dNever_c, dRaise_c, dC_c, dOp_c, dUn_c, dTst_c, tstK_c, dTru_c, truK_n, truK_b, truK_i, truK_t, truK_l, truK_m, truK_bl, dNot_c, dAnd_c, andK_t, andK_f, dOr_c, orK_t, orK_f, dAndV_c, andV_t, andV_f, dOrV_c, orV_t, orV_f, dNotV_c, dIf_c, iteE_t, iteE_f, dChain_c, chK_t, chK_f, dNil_c, dCons_c, dCB_c, dCall_c, dCall0_c, dTup_c, dLst_c, dFor_c, dLc_c, iTp_c, tpK_c, iLst_c, lsK_d, lsK_m, iSeq_c, sqK_d, sqK_m, sqK_b, dSl_c, dNo_c, dPt_c, ptK_c, dYes_c, dBack_k, backK_c, dTupRg_c, dLstRg_c, dRg1_c, dRg2_c, rg1K_c, rg2K_c, tupRg_c, lstRg_c, dDict0_c, dDict1_c, gdName_c, gdTup_c, gdCons_c, gdNil_c, dApp_c, appK_c, apK_d, apK_m, dVar_c, varK_d, varK_m, varK_b, varK_s, varK_sc, varK_r, dNew_c, varK_mo, varK_bo, setK_mo, retK_mo, dDIn_c, dinK_i, dinK_s, dDGet_c, dDGet1_c, isBo_c, dget1K_i, dDPut_c, dputV_d, dputK_i, val_mo, dOwn0_c, dDispV_c, dispK_i, fRepT_c, fIsB_c, dM0_c, dM1_c, isStr_c, fQ0_c, fQ1_c, fSplit_c, fLenS_c, iEnSD_c, dSetdIf_c, setdB_f, enSK_m, enSK_d, dOrT_c, dAndT_c, orTK_n, dCallK_c, dCallK0_c, dCallD_c, dCallD0_c, dSaid_c, toldK_d, toldK_m, iRg1_c, rgK_c, iRg2_c, rgK2_c, iEnT_c, enK_c, iZp_c, zpK_tt, zpK_mm, zpK_ll, zpK_lm, zpK_ml, dPar_c, parK_im, parK_nm, parK_sm, parK_dd, parK_md]
        refine fIx_at (n := 0) rfl ?_
        try simp only [startD, iEn, cvs, cv, vS, Sl.dat, Sl.seq, Sl.sq, Sl.fz, dats, dSetI, dAug, wipeD, List.length_cons, List.length_nil, List.length_append, List.length_replicate, Nat.reduceAdd, Nat.reduceSub, Nat.zero_add, List.replicate_succ, List.replicate_zero, List.cons_append, List.nil_append, List.append_nil, List.set_cons_zero, List.set_cons_succ, List.set_nil, List.getElem?_cons_zero, List.getElem?_cons_succ, Option.getD_some, List.map_cons, List.map_nil, Option.bind_some, fI0_c, fI_c, fU_c, fAddX_i, fAddX_t, fAddX_s, fAddX_mm, fAddX_bm, fAddX_mb, fAddX_bb, fAddX_lm, fAddX_ll, fMulX_i, fMulX_m, fSlX_t, fSlX_m, fSlX_b, fSlX_l, fIs_n, fIs_i, fIs_b, fIs_s, fIs_l, fIs_t, fIs_m, fIs_bl, fLen_t, fLen_l, fLen_m, fLen_b, fLen_scr, fIsi_c, fEqD_c, fEqD_mm, fEqD_bm, fEqD_bb, fEqD_dm, fEq_ss, fInt_i, fInt_b, fTuple_m, fTuple_b, fTuple_t, fTuple_l, fList_m, fList_b, fList_t, fList_l, f2I_c, fRepr_c, fRepr_m, fRepr_b, fStr_c, Bool.not_true, Bool.not_false, true_and, netT, Road.dt, reduceIte, Bool.false_eq_true, decide_true, decide_false, tupK, lstK, dNext_c, dBreak_c, dCont_c, dSeq_c, dDrop_c, dRet_c, retK_d, retK_m, retK_r, dRetN_c, dIfS_c, iteS_t, iteS_f, dSet_c, setK_d, setK_m, setK_s, setK_r, dAsg_c, asgK_d, asgK_m, dFz_c, dNever_c, dRaise_c, dC_c, dOp_c, dUn_c, dTst_c, tstK_c, dTru_c, truK_n, truK_b, truK_i, truK_t, truK_l, truK_m, truK_bl, dNot_c, dAnd_c, andK_t, andK_f, dOr_c, orK_t, orK_f, dAndV_c, andV_t, andV_f, dOrV_c, orV_t, orV_f, dNotV_c, dIf_c, iteE_t, iteE_f, dChain_c, chK_t, chK_f, dNil_c, dCons_c, dCB_c, dCall_c, dCall0_c, dTup_c, dLst_c, dFor_c, dLc_c, iTp_c, tpK_c, iLst_c, lsK_d, lsK_m, iSeq_c, sqK_d, sqK_m, sqK_b, dSl_c, dNo_c, dPt_c, ptK_c, dYes_c, dBack_k, backK_c, dTupRg_c, dLstRg_c, dRg1_c, dRg2_c, rg1K_c, rg2K_c, tupRg_c, lstRg_c, dDict0_c, dDict1_c, gdName_c, gdTup_c, gdCons_c, gdNil_c, dApp_c, appK_c, apK_d, apK_m, dVar_c, varK_d, varK_m, varK_b, varK_s, varK_sc, varK_r, dNew_c, varK_mo, varK_bo, setK_mo, retK_mo, dDIn_c, dinK_i, dinK_s, dDGet_c, dDGet1_c, isBo_c, dget1K_i, dDPut_c, dputV_d, dputK_i, val_mo, dOwn0_c, dDispV_c, dispK_i, fRepT_c, fIsB_c, dM0_c, dM1_c, isStr_c, fQ0_c, fQ1_c, fSplit_c, fLenS_c, iEnSD_c, dSetdIf_c, setdB_f, enSK_m, enSK_d, dOrT_c, dAndT_c, orTK_n, dCallK_c, dCallK0_c, dCallD_c, dCallD0_c, dSaid_c, toldK_d, toldK_m, iRg1_c, rgK_c, iRg2_c, rgK2_c, iEnT_c, enK_c, iZp_c, zpK_tt, zpK_mm, zpK_ll, zpK_lm, zpK_ml, dPar_c, parK_im, parK_nm, parK_sm, parK_dd, parK_md]
        refine ⟨by decide, ⟨kvs, rfl⟩, ?_⟩
        try simp only [startD, iEn, cvs, cv, vS, Sl.dat, Sl.seq, Sl.sq, Sl.fz, dats, dSetI, dAug, wipeD, List.length_cons, List.length_nil, List.length_append, List.length_replicate, Nat.reduceAdd, Nat.reduceSub, Nat.zero_add, List.replicate_succ, List.replicate_zero, List.cons_append, List.nil_append, List.append_nil, List.set_cons_zero, List.set_cons_succ, List.set_nil, List.getElem?_cons_zero, List.getElem?_cons_succ, Option.getD_some, List.map_cons, List.map_nil, Option.bind_some, fI0_c, fI_c, fU_c, fAddX_i, fAddX_t, fAddX_s, fAddX_mm, fAddX_bm, fAddX_mb, fAddX_bb, fAddX_lm, fAddX_ll, fMulX_i, fMulX_m, fSlX_t, fSlX_m, fSlX_b, fSlX_l, fIs_n, fIs_i, fIs_b, fIs_s, fIs_l, fIs_t, fIs_m, fIs_bl, fLen_t, fLen_l, fLen_m, fLen_b, fLen_scr, fIsi_c, fEqD_c, fEqD_mm, fEqD_bm, fEqD_bb, fEqD_dm, fEq_ss, fInt_i, fInt_b, fTuple_m, fTuple_b, fTuple_t, fTuple_l, fList_m, fList_b, fList_t, fList_l, f2I_c, fRepr_c, fRepr_m, fRepr_b, fStr_c, Bool.not_true, Bool.not_false, true_and, netT, Road.dt, reduceIte, Bool.false_eq_true, decide_true, decide_false, tupK, lstK, dNext_c, dBreak_c, dCont_c, dSeq_c, dDrop_c, dRet_c, retK_d, retK_m, retK_r, dRetN_c, dIfS_c, iteS_t, iteS_f, dSet_c, setK_d, setK_m, setK_s, setK_r, dAsg_c, asgK_d, asgK_m, dFz_c, dNever_c, dRaise_c, dC_c, dOp_c, dUn_c, dTst_c, tstK_c, dTru_c, truK_n, truK_b, truK_i, truK_t, truK_l, truK_m, truK_bl, dNot_c, dAnd_c, andK_t, andK_f, dOr_c, orK_t, orK_f, dAndV_c, andV_t, andV_f, dOrV_c, orV_t, orV_f, dNotV_c, dIf_c, iteE_t, iteE_f, dChain_c, chK_t, chK_f, dNil_c, dCons_c, dCB_c, dCall_c, dCall0_c, dTup_c, dLst_c, dFor_c, dLc_c, iTp_c, tpK_c, iLst_c, lsK_d, lsK_m, iSeq_c, sqK_d, sqK_m, sqK_b, dSl_c, dNo_c, dPt_c, ptK_c, dYes_c, dBack_k, backK_c, dTupRg_c, dLstRg_c, dRg1_c, dRg2_c, rg1K_c, rg2K_c, tupRg_c, lstRg_c, dDict0_c, dDict1_c, gdName_c, gdTup_c, gdCons_c, gdNil_c, dApp_c, appK_c, apK_d, apK_m, dVar_c, varK_d, varK_m, varK_b, varK_s, varK_sc, varK_r, dNew_c, varK_mo, varK_bo, setK_mo, retK_mo, dDIn_c, dinK_i, dinK_s, dDGet_c, dDGet1_c, isBo_c, dget1K_i, dDPut_c, dputV_d, dputK_i, val_mo, dOwn0_c, dDispV_c, dispK_i, fRepT_c, fIsB_c, dM0_c, dM1_c, isStr_c, fQ0_c, fQ1_c, fSplit_c, fLenS_c, iEnSD_c, dSetdIf_c, setdB_f, enSK_m, enSK_d, dOrT_c, dAndT_c, orTK_n, dCallK_c, dCallK0_c, dCallD_c, dCallD0_c, dSaid_c, toldK_d, toldK_m, iRg1_c, rgK_c, iRg2_c, rgK2_c, iEnT_c, enK_c, iZp_c, zpK_tt, zpK_mm, zpK_ll, zpK_lm, zpK_ml, dPar_c, parK_im, parK_nm, parK_sm, parK_dd, parK_md]
        refine fIx_at (n := 1) rfl (setdK_i rfl rfl rfl (line_1000 (by omega)) ((lay_nums vs).sh (by decide)) (fun y ey => ?_) fun _ => ⟨eqv_nums vs, ?_⟩)
        · obtain ⟨ms, ek, rfl, hm0⟩ := gk _ _ ey
          have : ms = vs := by
            have ek : wayS vs = wayS ms := by injection ek
            exact (wayS_inj (fun n hn => (hv n hn).1) hm0 ek).symm
          subst this
          refine ⟨(lay_nums ms).sh (by decide), ?_⟩
          rw [if_pos (eqv_nums ms)]
          exact hN2 _ ⟨kvs, _, _, _, _, _, _, gk, by omega, rfl⟩
        · have := length_putD kvs (.inr (wayS vs)) (.tuple (vs.map PyData.int))
          exact hN2 _ ⟨_, _, _, _, _, _, _, gk.put fun n hn => (hv n hn).1, by omega, rfl⟩
      | false =>
        try simp only [startD, iEn, cvs, cv, vS, Sl.dat, Sl.seq, Sl.sq, Sl.fz, dats, dSetI, dAug, wipeD, List.length_cons, List.length_nil, List.length_append, List.length_replicate, Nat.reduceAdd, Nat.reduceSub, Nat.zero_add, List.replicate_succ, List.replicate_zero, List.cons_append, List.nil_append, List.append_nil, List.set_cons_zero, List.set_cons_succ, List.set_nil, List.getElem?_cons_zero, List.getElem?_cons_succ, Option.getD_some, List.map_cons, List.map_nil, Option.bind_some, fI0_c, fI_c, fU_c, fAddX_i, fAddX_t, fAddX_s, fAddX_mm, fAddX_bm, fAddX_mb, fAddX_bb, fAddX_lm, fAddX_ll, fMulX_i, fMulX_m, fSlX_t, fSlX_m, fSlX_b, fSlX_l, fIs_n, fIs_i, fIs_b, fIs_s, fIs_l, fIs_t, fIs_m, fIs_bl, fLen_t, fLen_l, fLen_m, fLen_b, fLen_scr, fIsi_c, fEqD_c, fEqD_mm, fEqD_bm, fEqD_bb, fEqD_dm, fEq_ss, fInt_i, fInt_b, fTuple_m, fTuple_b, fTuple_t, fTuple_l, fList_m, fList_b, fList_t, fList_l, f2I_c, fRepr_c, fRepr_m, fRepr_b, fStr_c, Bool.not_true, Bool.not_false, true_and, netT, Road.dt, reduceIte, Bool.false_eq_true, decide_true, decide_false, tupK, lstK, dNext_c, dBreak_c, dCont_c, dSeq_c, dDrop_c, dRet_c, retK_d, retK_m, retK_r, dRetN_c, dIfS_c, iteS_t, iteS_f, dSet_c, setK_d, setK_m, setK_s, setK_r, dAsg_c, asgK_d, asgK_m, dFz_c, dNever_c, dRaise_c, dC_c, dOp_c, dUn_c, dTst_c, tstK_c, dTru_c, truK_n, truK_b, truK_i, truK_t, truK_l, truK_m, truK_bl, dNot_c, dAnd_c, andK_t, andK_f, dOr_c, orK_t, orK_f, dAndV_c, andV_t, andV_f, dOrV_c, orV_t, orV_f, dNotV_c, dIf_c, iteE_t, iteE_f, dChain_c, chK_t, chK_f, dNil_c, dCons_c, dCB_c, dCall_c, dCall0_c, dTup_c, dLst_c, dFor_c, dLc_c, iTp_c, tpK_c, iLst_c, lsK_d, lsK_m, iSeq_c, sqK_d, sqK_m, sqK_b, dSl_c, dNo_c, dPt_c, ptK_c, dYes_c, dBack_k, backK_c, dTupRg_c, dLstRg_c, dRg1_c, dRg2_c, rg1K_c, rg2K_c, tupRg_c, lstRg_c, dDict0_c, dDict1_c, gdName_c, gdTup_c, gdCons_c, gdNil_c, dApp_c, appK_c, apK_d, apK_m, dVar_c, varK_d, varK_m, varK_b, varK_s, varK_sc, varK_r, dNew_c, varK_mo, varK_bo, setK_mo, retK_mo, dDIn_c, dinK_i, dinK_s, dDGet_c, dDGet1_c, isBo_c, dget1K_i, dDPut_c, dputV_d, dputK_i, val_mo, dOwn0_c, dDispV_c, dispK_i, fRepT_c, fIsB_c, dM0_c, dM1_c, isStr_c, fQ0_c, fQ1_c, fSplit_c, fLenS_c, iEnSD_c, dSetdIf_c, setdB_f, enSK_m, enSK_d, dOrT_c, dAndT_c, orTK_n, dCallK_c, dCallK0_c, dCallD_c, dCallD0_c, dSaid_c, toldK_d, toldK_m, iRg1_c, rgK_c, iRg2_c, rgK2_c, iEnT_c, enK_c, iZp_c, zpK_tt, zpK_mm, zpK_ll, zpK_lm, zpK_ml, dPar_c, parK_im, parK_nm, parK_sm, parK_dd, parK_md]
        refine ⟨by decide +kernel, by decide, by decide, ?_⟩
        refine lcD_map (fun _ => .tuple [.str "way"]) _ [] (fun d' _ acc N' ha hN' => ?_) (by rw [rangeD_len, List.length_nil]; decide) ?_
        · unfold lcStep
          try simp only [startD, iEn, cvs, cv, vS, Sl.dat, Sl.seq, Sl.sq, Sl.fz, dats, dSetI, dAug, wipeD, List.length_cons, List.length_nil, List.length_append, List.length_replicate, Nat.reduceAdd, Nat.reduceSub, Nat.zero_add, List.replicate_succ, List.replicate_zero, List.cons_append, List.nil_append, List.append_nil, List.set_cons_zero, List.set_cons_succ, List.set_nil, List.getElem?_cons_zero, List.getElem?_cons_succ, Option.getD_some, List.map_cons, List.map_nil, Option.bind_some, fI0_c, fI_c, fU_c, fAddX_i, fAddX_t, fAddX_s, fAddX_mm, fAddX_bm, fAddX_mb, fAddX_bb, fAddX_lm, fAddX_ll, fMulX_i, fMulX_m, fSlX_t, fSlX_m, fSlX_b, fSlX_l, fIs_n, fIs_i, fIs_b, fIs_s, fIs_l, fIs_t, fIs_m, fIs_bl, fLen_t, fLen_l, fLen_m, fLen_b, fLen_scr, fIsi_c, fEqD_c, fEqD_mm, fEqD_bm, fEqD_bb, fEqD_dm, fEq_ss, fInt_i, fInt_b, fTuple_m, fTuple_b, fTuple_t, fTuple_l, fList_m, fList_b, fList_t, fList_l, f2I_c, fRepr_c, fRepr_m, fRepr_b, fStr_c, Bool.not_true, Bool.not_false, true_and, netT, Road.dt, reduceIte, Bool.false_eq_true, decide_true, decide_false, tupK, lstK, dNext_c, dBreak_c, dCont_c, dSeq_c, dDrop_c, dRet_c, retK_d, retK_m, retK_r, dRetN_c, dIfS_c, iteS_t, iteS_f, dSet_c, setK_d, setK_m, setK_s, setK_r, dAsg_c, asgK_d, asgK_m, dFz_c, dNever_c, dRaise_c, dC_c, dOp_c, dUn_c, dTst_c, tstK_c, dTru_c, truK_n, truK_b, truK_i, truK_t, truK_l, truK_m, truK_bl, dNot_c, dAnd_c, andK_t, andK_f, dOr_c, orK_t, orK_f, dAndV_c, andV_t, andV_f, dOrV_c, orV_t, orV_f, dNotV_c, dIf_c, iteE_t, iteE_f, dChain_c, chK_t, chK_f, dNil_c, dCons_c, dCB_c, dCall_c, dCall0_c, dTup_c, dLst_c, dFor_c, dLc_c, iTp_c, tpK_c, iLst_c, lsK_d, lsK_m, iSeq_c, sqK_d, sqK_m, sqK_b, dSl_c, dNo_c, dPt_c, ptK_c, dYes_c, dBack_k, backK_c, dTupRg_c, dLstRg_c, dRg1_c, dRg2_c, rg1K_c, rg2K_c, tupRg_c, lstRg_c, dDict0_c, dDict1_c, gdName_c, gdTup_c, gdCons_c, gdNil_c, dApp_c, appK_c, apK_d, apK_m, dVar_c, varK_d, varK_m, varK_b, varK_s, varK_sc, varK_r, dNew_c, varK_mo, varK_bo, setK_mo, retK_mo, dDIn_c, dinK_i, dinK_s, dDGet_c, dDGet1_c, isBo_c, dget1K_i, dDPut_c, dputV_d, dputK_i, val_mo, dOwn0_c, dDispV_c, dispK_i, fRepT_c, fIsB_c, dM0_c, dM1_c, isStr_c, fQ0_c, fQ1_c, fSplit_c, fLenS_c, iEnSD_c, dSetdIf_c, setdB_f, enSK_m, enSK_d, dOrT_c, dAndT_c, orTK_n, dCallK_c, dCallK0_c, dCallD_c, dCallD0_c, dSaid_c, toldK_d, toldK_m, iRg1_c, rgK_c, iRg2_c, rgK2_c, iEnT_c, enK_c, iZp_c, zpK_tt, zpK_mm, zpK_ll, zpK_lm, zpK_ml, dPar_c, parK_im, parK_nm, parK_sm, parK_dd, parK_md]
          refine kwK_i rfl rfl rfl ⟨d, rfl, (fun xs e => (wk.el xs e).1), .inl ⟨ew, 7, by simp, rfl, ?_⟩⟩
          try simp only [startD, iEn, cvs, cv, vS, Sl.dat, Sl.seq, Sl.sq, Sl.fz, dats, dSetI, dAug, wipeD, List.length_cons, List.length_nil, List.length_append, List.length_replicate, Nat.reduceAdd, Nat.reduceSub, Nat.zero_add, List.replicate_succ, List.replicate_zero, List.cons_append, List.nil_append, List.append_nil, List.set_cons_zero, List.set_cons_succ, List.set_nil, List.getElem?_cons_zero, List.getElem?_cons_succ, Option.getD_some, List.map_cons, List.map_nil, Option.bind_some, fI0_c, fI_c, fU_c, fAddX_i, fAddX_t, fAddX_s, fAddX_mm, fAddX_bm, fAddX_mb, fAddX_bb, fAddX_lm, fAddX_ll, fMulX_i, fMulX_m, fSlX_t, fSlX_m, fSlX_b, fSlX_l, fIs_n, fIs_i, fIs_b, fIs_s, fIs_l, fIs_t, fIs_m, fIs_bl, fLen_t, fLen_l, fLen_m, fLen_b, fLen_scr, fIsi_c, fEqD_c, fEqD_mm, fEqD_bm, fEqD_bb, fEqD_dm, fEq_ss, fInt_i, fInt_b, fTuple_m, fTuple_b, fTuple_t, fTuple_l, fList_m, fList_b, fList_t, fList_l, f2I_c, fRepr_c, fRepr_m, fRepr_b, fStr_c, Bool.not_true, Bool.not_false, true_and, netT, Road.dt, reduceIte, Bool.false_eq_true, decide_true, decide_false, tupK, lstK, dNext_c, dBreak_c, dCont_c, dSeq_c, dDrop_c, dRet_c, retK_d, retK_m, retK_r, dRetN_c, dIfS_c, iteS_t, iteS_f, dSet_c, setK_d, setK_m, setK_s, setK_r, dAsg_c, asgK_d, asgK_m, dFz_c, dNever_c, dRaise_c, dC_c, dOp_c, dUn_c, dTst_c, tstK_c, dTru_c, truK_n, truK_b, truK_i, truK_t, truK_l, truK_m, truK_bl, dNot_c, dAnd_c, andK_t, andK_f, dOr_c, orK_t, orK_f, dAndV_c, andV_t, andV_f, dOrV_c, orV_t, orV_f, dNotV_c, dIf_c, iteE_t, iteE_f, dChain_c, chK_t, chK_f, dNil_c, dCons_c, dCB_c, dCall_c, dCall0_c, dTup_c, dLst_c, dFor_c, dLc_c, iTp_c, tpK_c, iLst_c, lsK_d, lsK_m, iSeq_c, sqK_d, sqK_m, sqK_b, dSl_c, dNo_c, dPt_c, ptK_c, dYes_c, dBack_k, backK_c, dTupRg_c, dLstRg_c, dRg1_c, dRg2_c, rg1K_c, rg2K_c, tupRg_c, lstRg_c, dDict0_c, dDict1_c, gdName_c, gdTup_c, gdCons_c, gdNil_c, dApp_c, appK_c, apK_d, apK_m, dVar_c, varK_d, varK_m, varK_b, varK_s, varK_sc, varK_r, dNew_c, varK_mo, varK_bo, setK_mo, retK_mo, dDIn_c, dinK_i, dinK_s, dDGet_c, dDGet1_c, isBo_c, dget1K_i, dDPut_c, dputV_d, dputK_i, val_mo, dOwn0_c, dDispV_c, dispK_i, fRepT_c, fIsB_c, dM0_c, dM1_c, isStr_c, fQ0_c, fQ1_c, fSplit_c, fLenS_c, iEnSD_c, dSetdIf_c, setdB_f, enSK_m, enSK_d, dOrT_c, dAndT_c, orTK_n, dCallK_c, dCallK0_c, dCallD_c, dCallD0_c, dSaid_c, toldK_d, toldK_m, iRg1_c, rgK_c, iRg2_c, rgK2_c, iEnT_c, enK_c, iZp_c, zpK_tt, zpK_mm, zpK_ll, zpK_lm, zpK_ml, dPar_c, parK_im, parK_nm, parK_sm, parK_dd, parK_md]
          exact ⟨ha, hN'⟩
        rw [List.nil_append, show ((rangeD 0 (Int.toNat 2)).map fun _ => PyData.tuple [.str "way"]) = [.tuple [.str "way"], .tuple [.str "way"]] from rfl]
        try simp only [startD, iEn, cvs, cv, vS, Sl.dat, Sl.seq, Sl.sq, Sl.fz, dats, dSetI, dAug, wipeD, List.length_cons, List.length_nil, List.length_append, List.length_replicate, Nat.reduceAdd, Nat.reduceSub, Nat.zero_add, List.replicate_succ, List.replicate_zero, List.cons_append, List.nil_append, List.append_nil, List.set_cons_zero, List.set_cons_succ, List.set_nil, List.getElem?_cons_zero, List.getElem?_cons_succ, Option.getD_some, List.map_cons, List.map_nil, Option.bind_some, fI0_c, fI_c, fU_c, fAddX_i, fAddX_t, fAddX_s, fAddX_mm, fAddX_bm, fAddX_mb, fAddX_bb, fAddX_lm, fAddX_ll, fMulX_i, fMulX_m, fSlX_t, fSlX_m, fSlX_b, fSlX_l, fIs_n, fIs_i, fIs_b, fIs_s, fIs_l, fIs_t, fIs_m, fIs_bl, fLen_t, fLen_l, fLen_m, fLen_b, fLen_scr, fIsi_c, fEqD_c, fEqD_mm, fEqD_bm, fEqD_bb, fEqD_dm, fEq_ss, fInt_i, fInt_b, fTuple_m, fTuple_b, fTuple_t, fTuple_l, fList_m, fList_b, fList_t, fList_l, f2I_c, fRepr_c, fRepr_m, fRepr_b, fStr_c, Bool.not_true, Bool.not_false, true_and, netT, Road.dt, reduceIte, Bool.false_eq_true, decide_true, decide_false, tupK, lstK, dNext_c, dBreak_c, dCont_c, dSeq_c, dDrop_c, dRet_c, retK_d, retK_m, retK_r, dRetN_c, dIfS_c, iteS_t, iteS_f, dSet_c, setK_d, setK_m, setK_s, setK_r, dAsg_c, asgK_d, asgK_m, dFz_c, dNever_c, dRaise_c, dC_c, dOp_c, dUn_c, dTst_c, tstK_c, dTru_c, truK_n, truK_b, truK_i, truK_t, truK_l, truK_m, truK_bl, dNot_c, dAnd_c, andK_t, andK_f, dOr_c, orK_t, orK_f, dAndV_c, andV_t, andV_f, dOrV_c, orV_t, orV_f, dNotV_c, dIf_c, iteE_t, iteE_f, dChain_c, chK_t, chK_f, dNil_c, dCons_c, dCB_c, dCall_c, dCall0_c, dTup_c, dLst_c, dFor_c, dLc_c, iTp_c, tpK_c, iLst_c, lsK_d, lsK_m, iSeq_c, sqK_d, sqK_m, sqK_b, dSl_c, dNo_c, dPt_c, ptK_c, dYes_c, dBack_k, backK_c, dTupRg_c, dLstRg_c, dRg1_c, dRg2_c, rg1K_c, rg2K_c, tupRg_c, lstRg_c, dDict0_c, dDict1_c, gdName_c, gdTup_c, gdCons_c, gdNil_c, dApp_c, appK_c, apK_d, apK_m, dVar_c, varK_d, varK_m, varK_b, varK_s, varK_sc, varK_r, dNew_c, varK_mo, varK_bo, setK_mo, retK_mo, dDIn_c, dinK_i, dinK_s, dDGet_c, dDGet1_c, isBo_c, dget1K_i, dDPut_c, dputV_d, dputK_i, val_mo, dOwn0_c, dDispV_c, dispK_i, fRepT_c, fIsB_c, dM0_c, dM1_c, isStr_c, fQ0_c, fQ1_c, fSplit_c, fLenS_c, iEnSD_c, dSetdIf_c, setdB_f, enSK_m, enSK_d, dOrT_c, dAndT_c, orTK_n, dCallK_c, dCallK0_c, dCallD_c, dCallD0_c, dSaid_c, toldK_d, toldK_m, iRg1_c, rgK_c, iRg2_c, rgK2_c, iEnT_c, enK_c, iZp_c, zpK_tt, zpK_mm, zpK_ll, zpK_lm, zpK_ml, dPar_c, parK_im, parK_nm, parK_sm, parK_dd, parK_md]
        have s2 := two_sh (d := .tuple [.str "way"]) (Sh.tuple (n := 40) (m := 0) (k := 1) (fun e he => by
          rw [List.mem_singleton.mp he]
          exact (sh_text (by decide +kernel)).mono (by decide) (by decide)) (Nat.le_refl _)) (by decide) (by decide)
        refine ⟨s2, by decide +kernel, by decide +kernel, s2, by decide +kernel, ?_⟩
        try simp only [startD, iEn, cvs, cv, vS, Sl.dat, Sl.seq, Sl.sq, Sl.fz, dats, dSetI, dAug, wipeD, List.length_cons, List.length_nil, List.length_append, List.length_replicate, Nat.reduceAdd, Nat.reduceSub, Nat.zero_add, List.replicate_succ, List.replicate_zero, List.cons_append, List.nil_append, List.append_nil, List.set_cons_zero, List.set_cons_succ, List.set_nil, List.getElem?_cons_zero, List.getElem?_cons_succ, Option.getD_some, List.map_cons, List.map_nil, Option.bind_some, fI0_c, fI_c, fU_c, fAddX_i, fAddX_t, fAddX_s, fAddX_mm, fAddX_bm, fAddX_mb, fAddX_bb, fAddX_lm, fAddX_ll, fMulX_i, fMulX_m, fSlX_t, fSlX_m, fSlX_b, fSlX_l, fIs_n, fIs_i, fIs_b, fIs_s, fIs_l, fIs_t, fIs_m, fIs_bl, fLen_t, fLen_l, fLen_m, fLen_b, fLen_scr, fIsi_c, fEqD_c, fEqD_mm, fEqD_bm, fEqD_bb, fEqD_dm, fEq_ss, fInt_i, fInt_b, fTuple_m, fTuple_b, fTuple_t, fTuple_l, fList_m, fList_b, fList_t, fList_l, f2I_c, fRepr_c, fRepr_m, fRepr_b, fStr_c, Bool.not_true, Bool.not_false, true_and, netT, Road.dt, reduceIte, Bool.false_eq_true, decide_true, decide_false, tupK, lstK, dNext_c, dBreak_c, dCont_c, dSeq_c, dDrop_c, dRet_c, retK_d, retK_m, retK_r, dRetN_c, dIfS_c, iteS_t, iteS_f, dSet_c, setK_d, setK_m, setK_s, setK_r, dAsg_c, asgK_d, asgK_m, dFz_c, dNever_c, dRaise_c, dC_c, dOp_c, dUn_c, dTst_c, tstK_c, dTru_c, truK_n, truK_b, truK_i, truK_t, truK_l, truK_m, truK_bl, dNot_c, dAnd_c, andK_t, andK_f, dOr_c, orK_t, orK_f, dAndV_c, andV_t, andV_f, dOrV_c, orV_t, orV_f, dNotV_c, dIf_c, iteE_t, iteE_f, dChain_c, chK_t, chK_f, dNil_c, dCons_c, dCB_c, dCall_c, dCall0_c, dTup_c, dLst_c, dFor_c, dLc_c, iTp_c, tpK_c, iLst_c, lsK_d, lsK_m, iSeq_c, sqK_d, sqK_m, sqK_b, dSl_c, dNo_c, dPt_c, ptK_c, dYes_c, dBack_k, backK_c, dTupRg_c, dLstRg_c, dRg1_c, dRg2_c, rg1K_c, rg2K_c, tupRg_c, lstRg_c, dDict0_c, dDict1_c, gdName_c, gdTup_c, gdCons_c, gdNil_c, dApp_c, appK_c, apK_d, apK_m, dVar_c, varK_d, varK_m, varK_b, varK_s, varK_sc, varK_r, dNew_c, varK_mo, varK_bo, setK_mo, retK_mo, dDIn_c, dinK_i, dinK_s, dDGet_c, dDGet1_c, isBo_c, dget1K_i, dDPut_c, dputV_d, dputK_i, val_mo, dOwn0_c, dDispV_c, dispK_i, fRepT_c, fIsB_c, dM0_c, dM1_c, isStr_c, fQ0_c, fQ1_c, fSplit_c, fLenS_c, iEnSD_c, dSetdIf_c, setdB_f, enSK_m, enSK_d, dOrT_c, dAndT_c, orTK_n, dCallK_c, dCallK0_c, dCallD_c, dCallD0_c, dSaid_c, toldK_d, toldK_m, iRg1_c, rgK_c, iRg2_c, rgK2_c, iEnT_c, enK_c, iZp_c, zpK_tt, zpK_mm, zpK_ll, zpK_lm, zpK_ml, dPar_c, parK_im, parK_nm, parK_sm, parK_dd, parK_md]
        refine ⟨wk.sh, wk.ok, ?_⟩
        try simp only [startD, iEn, cvs, cv, vS, Sl.dat, Sl.seq, Sl.sq, Sl.fz, dats, dSetI, dAug, wipeD, List.length_cons, List.length_nil, List.length_append, List.length_replicate, Nat.reduceAdd, Nat.reduceSub, Nat.zero_add, List.replicate_succ, List.replicate_zero, List.cons_append, List.nil_append, List.append_nil, List.set_cons_zero, List.set_cons_succ, List.set_nil, List.getElem?_cons_zero, List.getElem?_cons_succ, Option.getD_some, List.map_cons, List.map_nil, Option.bind_some, fI0_c, fI_c, fU_c, fAddX_i, fAddX_t, fAddX_s, fAddX_mm, fAddX_bm, fAddX_mb, fAddX_bb, fAddX_lm, fAddX_ll, fMulX_i, fMulX_m, fSlX_t, fSlX_m, fSlX_b, fSlX_l, fIs_n, fIs_i, fIs_b, fIs_s, fIs_l, fIs_t, fIs_m, fIs_bl, fLen_t, fLen_l, fLen_m, fLen_b, fLen_scr, fIsi_c, fEqD_c, fEqD_mm, fEqD_bm, fEqD_bb, fEqD_dm, fEq_ss, fInt_i, fInt_b, fTuple_m, fTuple_b, fTuple_t, fTuple_l, fList_m, fList_b, fList_t, fList_l, f2I_c, fRepr_c, fRepr_m, fRepr_b, fStr_c, Bool.not_true, Bool.not_false, true_and, netT, Road.dt, reduceIte, Bool.false_eq_true, decide_true, decide_false, tupK, lstK, dNext_c, dBreak_c, dCont_c, dSeq_c, dDrop_c, dRet_c, retK_d, retK_m, retK_r, dRetN_c, dIfS_c, iteS_t, iteS_f, dSet_c, setK_d, setK_m, setK_s, setK_r, dAsg_c, asgK_d, asgK_m, dFz_c, dNever_c, dRaise_c, dC_c, dOp_c, dUn_c, dTst_c, tstK_c, dTru_c, truK_n, truK_b, truK_i, truK_t, truK_l, truK_m, truK_bl, dNot_c, dAnd_c, andK_t, andK_f, dOr_c, orK_t, orK_f, dAndV_c, andV_t, andV_f, dOrV_c, orV_t, orV_f, dNotV_c, dIf_c, iteE_t, iteE_f, dChain_c, chK_t, chK_f, dNil_c, dCons_c, dCB_c, dCall_c, dCall0_c, dTup_c, dLst_c, dFor_c, dLc_c, iTp_c, tpK_c, iLst_c, lsK_d, lsK_m, iSeq_c, sqK_d, sqK_m, sqK_b, dSl_c, dNo_c, dPt_c, ptK_c, dYes_c, dBack_k, backK_c, dTupRg_c, dLstRg_c, dRg1_c, dRg2_c, rg1K_c, rg2K_c, tupRg_c, lstRg_c, dDict0_c, dDict1_c, gdName_c, gdTup_c, gdCons_c, gdNil_c, dApp_c, appK_c, apK_d, apK_m, dVar_c, varK_d, varK_m, varK_b, varK_s, varK_sc, varK_r, dNew_c, varK_mo, varK_bo, setK_mo, retK_mo, dDIn_c, dinK_i, dinK_s, dDGet_c, dDGet1_c, isBo_c, dget1K_i, dDPut_c, dputV_d, dputK_i, val_mo, dOwn0_c, dDispV_c, dispK_i, fRepT_c, fIsB_c, dM0_c, dM1_c, isStr_c, fQ0_c, fQ1_c, fSplit_c, fLenS_c, iEnSD_c, dSetdIf_c, setdB_f, enSK_m, enSK_d, dOrT_c, dAndT_c, orTK_n, dCallK_c, dCallK0_c, dCallD_c, dCallD0_c, dSaid_c, toldK_d, toldK_m, iRg1_c, rgK_c, iRg2_c, rgK2_c, iEnT_c, enK_c, iZp_c, zpK_tt, zpK_mm, zpK_ll, zpK_lm, zpK_ml, dPar_c, parK_im, parK_nm, parK_sm, parK_dd, parK_md]
        refine fIx_at (n := 0) rfl ?_
        try simp only [startD, iEn, cvs, cv, vS, Sl.dat, Sl.seq, Sl.sq, Sl.fz, dats, dSetI, dAug, wipeD, List.length_cons, List.length_nil, List.length_append, List.length_replicate, Nat.reduceAdd, Nat.reduceSub, Nat.zero_add, List.replicate_succ, List.replicate_zero, List.cons_append, List.nil_append, List.append_nil, List.set_cons_zero, List.set_cons_succ, List.set_nil, List.getElem?_cons_zero, List.getElem?_cons_succ, Option.getD_some, List.map_cons, List.map_nil, Option.bind_some, fI0_c, fI_c, fU_c, fAddX_i, fAddX_t, fAddX_s, fAddX_mm, fAddX_bm, fAddX_mb, fAddX_bb, fAddX_lm, fAddX_ll, fMulX_i, fMulX_m, fSlX_t, fSlX_m, fSlX_b, fSlX_l, fIs_n, fIs_i, fIs_b, fIs_s, fIs_l, fIs_t, fIs_m, fIs_bl, fLen_t, fLen_l, fLen_m, fLen_b, fLen_scr, fIsi_c, fEqD_c, fEqD_mm, fEqD_bm, fEqD_bb, fEqD_dm, fEq_ss, fInt_i, fInt_b, fTuple_m, fTuple_b, fTuple_t, fTuple_l, fList_m, fList_b, fList_t, fList_l, f2I_c, fRepr_c, fRepr_m, fRepr_b, fStr_c, Bool.not_true, Bool.not_false, true_and, netT, Road.dt, reduceIte, Bool.false_eq_true, decide_true, decide_false, tupK, lstK, dNext_c, dBreak_c, dCont_c, dSeq_c, dDrop_c, dRet_c, retK_d, retK_m, retK_r, dRetN_c, dIfS_c, iteS_t, iteS_f, dSet_c, setK_d, setK_m, setK_s, setK_r, dAsg_c, asgK_d, asgK_m, dFz_c, dNever_c, dRaise_c, dC_c, dOp_c, dUn_c, dTst_c, tstK_c, dTru_c, truK_n, truK_b, truK_i, truK_t, truK_l, truK_m, truK_bl, dNot_c, dAnd_c, andK_t, andK_f, dOr_c, orK_t, orK_f, dAndV_c, andV_t, andV_f, dOrV_c, orV_t, orV_f, dNotV_c, dIf_c, iteE_t, iteE_f, dChain_c, chK_t, chK_f, dNil_c, dCons_c, dCB_c, dCall_c, dCall0_c, dTup_c, dLst_c, dFor_c, dLc_c, iTp_c, tpK_c, iLst_c, lsK_d, lsK_m, iSeq_c, sqK_d, sqK_m, sqK_b, dSl_c, dNo_c, dPt_c, ptK_c, dYes_c, dBack_k, backK_c, dTupRg_c, dLstRg_c, dRg1_c, dRg2_c, rg1K_c, rg2K_c, tupRg_c, lstRg_c, dDict0_c, dDict1_c, gdName_c, gdTup_c, gdCons_c, gdNil_c, dApp_c, appK_c, apK_d, apK_m, dVar_c, varK_d, varK_m, varK_b, varK_s, varK_sc, varK_r, dNew_c, varK_mo, varK_bo, setK_mo, retK_mo, dDIn_c, dinK_i, dinK_s, dDGet_c, dDGet1_c, isBo_c, dget1K_i, dDPut_c, dputV_d, dputK_i, val_mo, dOwn0_c, dDispV_c, dispK_i, fRepT_c, fIsB_c, dM0_c, dM1_c, isStr_c, fQ0_c, fQ1_c, fSplit_c, fLenS_c, iEnSD_c, dSetdIf_c, setdB_f, enSK_m, enSK_d, dOrT_c, dAndT_c, orTK_n, dCallK_c, dCallK0_c, dCallD_c, dCallD0_c, dSaid_c, toldK_d, toldK_m, iRg1_c, rgK_c, iRg2_c, rgK2_c, iEnT_c, enK_c, iZp_c, zpK_tt, zpK_mm, zpK_ll, zpK_lm, zpK_ml, dPar_c, parK_im, parK_nm, parK_sm, parK_dd, parK_md]
        rw [show decide (V.str (Str.ofString "way") = V.str (Str.ofString "told")) = false from by decide +kernel]
        try simp only [startD, iEn, cvs, cv, vS, Sl.dat, Sl.seq, Sl.sq, Sl.fz, dats, dSetI, dAug, wipeD, List.length_cons, List.length_nil, List.length_append, List.length_replicate, Nat.reduceAdd, Nat.reduceSub, Nat.zero_add, List.replicate_succ, List.replicate_zero, List.cons_append, List.nil_append, List.append_nil, List.set_cons_zero, List.set_cons_succ, List.set_nil, List.getElem?_cons_zero, List.getElem?_cons_succ, Option.getD_some, List.map_cons, List.map_nil, Option.bind_some, fI0_c, fI_c, fU_c, fAddX_i, fAddX_t, fAddX_s, fAddX_mm, fAddX_bm, fAddX_mb, fAddX_bb, fAddX_lm, fAddX_ll, fMulX_i, fMulX_m, fSlX_t, fSlX_m, fSlX_b, fSlX_l, fIs_n, fIs_i, fIs_b, fIs_s, fIs_l, fIs_t, fIs_m, fIs_bl, fLen_t, fLen_l, fLen_m, fLen_b, fLen_scr, fIsi_c, fEqD_c, fEqD_mm, fEqD_bm, fEqD_bb, fEqD_dm, fEq_ss, fInt_i, fInt_b, fTuple_m, fTuple_b, fTuple_t, fTuple_l, fList_m, fList_b, fList_t, fList_l, f2I_c, fRepr_c, fRepr_m, fRepr_b, fStr_c, Bool.not_true, Bool.not_false, true_and, netT, Road.dt, reduceIte, Bool.false_eq_true, decide_true, decide_false, tupK, lstK, dNext_c, dBreak_c, dCont_c, dSeq_c, dDrop_c, dRet_c, retK_d, retK_m, retK_r, dRetN_c, dIfS_c, iteS_t, iteS_f, dSet_c, setK_d, setK_m, setK_s, setK_r, dAsg_c, asgK_d, asgK_m, dFz_c, dNever_c, dRaise_c, dC_c, dOp_c, dUn_c, dTst_c, tstK_c, dTru_c, truK_n, truK_b, truK_i, truK_t, truK_l, truK_m, truK_bl, dNot_c, dAnd_c, andK_t, andK_f, dOr_c, orK_t, orK_f, dAndV_c, andV_t, andV_f, dOrV_c, orV_t, orV_f, dNotV_c, dIf_c, iteE_t, iteE_f, dChain_c, chK_t, chK_f, dNil_c, dCons_c, dCB_c, dCall_c, dCall0_c, dTup_c, dLst_c, dFor_c, dLc_c, iTp_c, tpK_c, iLst_c, lsK_d, lsK_m, iSeq_c, sqK_d, sqK_m, sqK_b, dSl_c, dNo_c, dPt_c, ptK_c, dYes_c, dBack_k, backK_c, dTupRg_c, dLstRg_c, dRg1_c, dRg2_c, rg1K_c, rg2K_c, tupRg_c, lstRg_c, dDict0_c, dDict1_c, gdName_c, gdTup_c, gdCons_c, gdNil_c, dApp_c, appK_c, apK_d, apK_m, dVar_c, varK_d, varK_m, varK_b, varK_s, varK_sc, varK_r, dNew_c, varK_mo, varK_bo, setK_mo, retK_mo, dDIn_c, dinK_i, dinK_s, dDGet_c, dDGet1_c, isBo_c, dget1K_i, dDPut_c, dputV_d, dputK_i, val_mo, dOwn0_c, dDispV_c, dispK_i, fRepT_c, fIsB_c, dM0_c, dM1_c, isStr_c, fQ0_c, fQ1_c, fSplit_c, fLenS_c, iEnSD_c, dSetdIf_c, setdB_f, enSK_m, enSK_d, dOrT_c, dAndT_c, orTK_n, dCallK_c, dCallK0_c, dCallD_c, dCallD0_c, dSaid_c, toldK_d, toldK_m, iRg1_c, rgK_c, iRg2_c, rgK2_c, iEnT_c, enK_c, iZp_c, zpK_tt, zpK_mm, zpK_ll, zpK_lm, zpK_ml, dPar_c, parK_im, parK_nm, parK_sm, parK_dd, parK_md]
        exact hN2 _ ⟨kvs, _, _, _, _, _, _, gk, by omega, rfl⟩
    · obtain ⟨kvs, y4, y5, y7, y8, y9, y10, gk, lk, rfl⟩ := h
      exact hN _ ⟨_, _, _, _, _, _, _, _, _, _, rfl⟩
  · obtain ⟨y1, y2, y3, y4, y5, y6, y7, y8, y9, y10, rfl⟩ := h
    try simp only [startD, iEn, cvs, cv, vS, Sl.dat, Sl.seq, Sl.sq, Sl.fz, dats, dSetI, dAug, wipeD, List.length_cons, List.length_nil, List.length_append, List.length_replicate, Nat.reduceAdd, Nat.reduceSub, Nat.zero_add, List.replicate_succ, List.replicate_zero, List.cons_append, List.nil_append, List.append_nil, List.set_cons_zero, List.set_cons_succ, List.set_nil, List.getElem?_cons_zero, List.getElem?_cons_succ, Option.getD_some, List.map_cons, List.map_nil, Option.bind_some, fI0_c, fI_c, fU_c, fAddX_i, fAddX_t, fAddX_s, fAddX_mm, fAddX_bm, fAddX_mb, fAddX_bb, fAddX_lm, fAddX_ll, fMulX_i, fMulX_m, fSlX_t, fSlX_m, fSlX_b, fSlX_l, fIs_n, fIs_i, fIs_b, fIs_s, fIs_l, fIs_t, fIs_m, fIs_bl, fLen_t, fLen_l, fLen_m, fLen_b, fLen_scr, fIsi_c, fEqD_c, fEqD_mm, fEqD_bm, fEqD_bb, fEqD_dm, fEq_ss, fInt_i, fInt_b, fTuple_m, fTuple_b, fTuple_t, fTuple_l, fList_m, fList_b, fList_t, fList_l, f2I_c, fRepr_c, fRepr_m, fRepr_b, fStr_c, Bool.not_true, Bool.not_false, true_and, netT, Road.dt, reduceIte, Bool.false_eq_true, decide_true, decide_false, tupK, lstK, dNext_c, dBreak_c, dCont_c, dSeq_c, dDrop_c, dRet_c, retK_d, retK_m, retK_r, dRetN_c, dIfS_c, iteS_t, iteS_f, dSet_c, setK_d, setK_m, setK_s, setK_r, dAsg_c, asgK_d, asgK_m, dFz_c, dNever_c, dRaise_c, dC_c, dOp_c, dUn_c, dTst_c, tstK_c, dTru_c, truK_n, truK_b, truK_i, truK_t, truK_l, truK_m, truK_bl, dNot_c, dAnd_c, andK_t, andK_f, dOr_c, orK_t, orK_f, dAndV_c, andV_t, andV_f, dOrV_c, orV_t, orV_f, dNotV_c, dIf_c, iteE_t, iteE_f, dChain_c, chK_t, chK_f, dNil_c, dCons_c, dCB_c, dCall_c, dCall0_c, dTup_c, dLst_c, dFor_c, dLc_c, iTp_c, tpK_c, iLst_c, lsK_d, lsK_m, iSeq_c, sqK_d, sqK_m, sqK_b, dSl_c, dNo_c, dPt_c, ptK_c, dYes_c, dBack_k, backK_c, dTupRg_c, dLstRg_c, dRg1_c, dRg2_c, rg1K_c, rg2K_c, tupRg_c, lstRg_c, dDict0_c, dDict1_c, gdName_c, gdTup_c, gdCons_c, gdNil_c, dApp_c, appK_c, apK_d, apK_m, dVar_c, varK_d, varK_m, varK_b, varK_s, varK_sc, varK_r, dNew_c, varK_mo, varK_bo, setK_mo, retK_mo, dDIn_c, dinK_i, dinK_s, dDGet_c, dDGet1_c, isBo_c, dget1K_i, dDPut_c, dputV_d, dputK_i, val_mo, dOwn0_c, dDispV_c, dispK_i, fRepT_c, fIsB_c, dM0_c, dM1_c, isStr_c, fQ0_c, fQ1_c, fSplit_c, fLenS_c, iEnSD_c, dSetdIf_c, setdB_f, enSK_m, enSK_d, dOrT_c, dAndT_c, orTK_n, dCallK_c, dCallK0_c, dCallD_c, dCallD0_c, dSaid_c, toldK_d, toldK_m, iRg1_c, rgK_c, iRg2_c, rgK2_c, iEnT_c, enK_c, iZp_c, zpK_tt, zpK_mm, zpK_ll, zpK_lm, zpK_ml, dPar_c, parK_im, parK_nm, parK_sm, parK_dd, parK_md]
end
end Wy

namespace Wy
open PySem PySem.Spec PyProof.Rows L2 LamX Dl
set_option maxHeartbeats 4000000 in
theorem fin_mk {P : Program} {w : World} {K : PySem.W.Frag} {h : Heap} {mg : Str → Option Value} {fa cL TT fd0 fd1 fd2 fd3 fd4 fd5 fd6 fd7 fd8 fd9 fd10 fd11 fd12 fd13 fL e0 e1 e2 e3 e4 e5 e6 e7 e8 e9 e10 e11 e12 e13 e14 e15 e16 eT eN eW : Addr} {t0 : Tok}
    {odd0 and0 : Option Addr} {sld0 : Array (Option Value)} {ocd0 kVd0 dcd0 pmd0 ctd0 cdd0 : Value}
    {odd1 and1 : Option Addr} {sld1 : Array (Option Value)} {ocd1 kVd1 dcd1 pmd1 ctd1 cdd1 : Value}
    {odd2 and2 : Option Addr} {sld2 : Array (Option Value)} {ocd2 kVd2 dcd2 pmd2 ctd2 cdd2 : Value}
    {odd3 and3 : Option Addr} {sld3 : Array (Option Value)} {ocd3 kVd3 dcd3 pmd3 ctd3 cdd3 : Value}
    {odd4 and4 : Option Addr} {sld4 : Array (Option Value)} {ocd4 kVd4 dcd4 pmd4 ctd4 cdd4 : Value}
    {odd5 and5 : Option Addr} {sld5 : Array (Option Value)} {ocd5 kVd5 dcd5 pmd5 ctd5 cdd5 : Value}
    {odd6 and6 : Option Addr} {sld6 : Array (Option Value)} {ocd6 kVd6 dcd6 pmd6 ctd6 cdd6 : Value}
    {odd7 and7 : Option Addr} {sld7 : Array (Option Value)} {ocd7 kVd7 dcd7 pmd7 ctd7 cdd7 : Value}
    {odd8 and8 : Option Addr} {sld8 : Array (Option Value)} {ocd8 kVd8 dcd8 pmd8 ctd8 cdd8 : Value}
    {odd9 and9 : Option Addr} {sld9 : Array (Option Value)} {ocd9 kVd9 dcd9 pmd9 ctd9 cdd9 : Value}
    {odd10 and10 : Option Addr} {sld10 : Array (Option Value)} {ocd10 kVd10 dcd10 pmd10 ctd10 cdd10 : Value}
    {odd11 and11 : Option Addr} {sld11 : Array (Option Value)} {ocd11 kVd11 dcd11 pmd11 ctd11 cdd11 : Value}
    {odd12 and12 : Option Addr} {sld12 : Array (Option Value)} {ocd12 kVd12 dcd12 pmd12 ctd12 cdd12 : Value}
    {odd13 and13 : Option Addr} {sld13 : Array (Option Value)} {ocd13 kVd13 dcd13 pmd13 ctd13 cdd13 : Value}
    {odL anL : Option Addr} {slL : Array (Option Value)} {ocL kVL dcL pmL ctL : Value}
    (X : K.In h) (G : h.Ns mainGlobals mg) (hfa : mg "law" = some (.ref fa))
    (ad0 : PySem.W.nsIn K mainGlobals "is_whole" = some (some (.ref fd0)))
    (ld0 : K.lookup fd0 = some ⟨ocd0, odd0, .func (PySem.W.fnOf "is_whole" "is_whole" (defArgs s_is_whole) (defBody s_is_whole) (defScope s_is_whole) .none kVd0 dcd0 pmd0 and0 cdd0 ctd0), sld0⟩)
    (cd0_ : PySem.W.codeIn K cdd0 "is_whole" = true)
    (kd0_ : PySem.W.keepIn K (.ref fd0) = true)
    (ad1 : PySem.W.nsIn K mainGlobals "is_within" = some (some (.ref fd1)))
    (ld1 : K.lookup fd1 = some ⟨ocd1, odd1, .func (PySem.W.fnOf "is_within" "is_within" (defArgs s_is_within) (defBody s_is_within) (defScope s_is_within) .none kVd1 dcd1 pmd1 and1 cdd1 ctd1), sld1⟩)
    (cd1_ : PySem.W.codeIn K cdd1 "is_within" = true)
    (kd1_ : PySem.W.keepIn K (.ref fd1) = true)
    (ad2 : PySem.W.nsIn K mainGlobals "way_text" = some (some (.ref fd2)))
    (ld2 : K.lookup fd2 = some ⟨ocd2, odd2, .func (PySem.W.fnOf "way_text" "way_text" (defArgs s_way_text) (defBody s_way_text) (defScope s_way_text) .none kVd2 dcd2 pmd2 and2 cdd2 ctd2), sld2⟩)
    (cd2_ : PySem.W.codeIn K cdd2 "way_text" = true)
    (kd2_ : PySem.W.keepIn K (.ref fd2) = true)
    (ad3 : PySem.W.nsIn K mainGlobals "_law_cell_at" = some (some (.ref fd3)))
    (ld3 : K.lookup fd3 = some ⟨ocd3, odd3, .func (PySem.W.fnOf "_law_cell_at" "_law_cell_at" (defArgs s__law_cell_at) (defBody s__law_cell_at) (defScope s__law_cell_at) .none kVd3 dcd3 pmd3 and3 cdd3 ctd3), sld3⟩)
    (cd3_ : PySem.W.codeIn K cdd3 "_law_cell_at" = true)
    (kd3_ : PySem.W.keepIn K (.ref fd3) = true)
    (ad4 : PySem.W.nsIn K mainGlobals "_law_state" = some (some (.ref fd4)))
    (ld4 : K.lookup fd4 = some ⟨ocd4, odd4, .func (PySem.W.fnOf "_law_state" "_law_state" (defArgs s__law_state) (defBody s__law_state) (defScope s__law_state) .none kVd4 dcd4 pmd4 and4 cdd4 ctd4), sld4⟩)
    (cd4_ : PySem.W.codeIn K cdd4 "_law_state" = true)
    (kd4_ : PySem.W.keepIn K (.ref fd4) = true)
    (ad5 : PySem.W.nsIn K mainGlobals "_law_take" = some (some (.ref fd5)))
    (ld5 : K.lookup fd5 = some ⟨ocd5, odd5, .func (PySem.W.fnOf "_law_take" "_law_take" (defArgs s__law_take) (defBody s__law_take) (defScope s__law_take) .none kVd5 dcd5 pmd5 and5 cdd5 ctd5), sld5⟩)
    (cd5_ : PySem.W.codeIn K cdd5 "_law_take" = true)
    (kd5_ : PySem.W.keepIn K (.ref fd5) = true)
    (ad6 : PySem.W.nsIn K mainGlobals "_law_marks" = some (some (.ref fd6)))
    (ld6 : K.lookup fd6 = some ⟨ocd6, odd6, .func (PySem.W.fnOf "_law_marks" "_law_marks" (defArgs s__law_marks) (defBody s__law_marks) (defScope s__law_marks) .none kVd6 dcd6 pmd6 and6 cdd6 ctd6), sld6⟩)
    (cd6_ : PySem.W.codeIn K cdd6 "_law_marks" = true)
    (kd6_ : PySem.W.keepIn K (.ref fd6) = true)
    (ad7 : PySem.W.nsIn K mainGlobals "_law_word" = some (some (.ref fd7)))
    (ld7 : K.lookup fd7 = some ⟨ocd7, odd7, .func (PySem.W.fnOf "_law_word" "_law_word" (defArgs s__law_word) (defBody s__law_word) (defScope s__law_word) .none kVd7 dcd7 pmd7 and7 cdd7 ctd7), sld7⟩)
    (cd7_ : PySem.W.codeIn K cdd7 "_law_word" = true)
    (kd7_ : PySem.W.keepIn K (.ref fd7) = true)
    (ad8 : PySem.W.nsIn K mainGlobals "_law_said" = some (some (.ref fd8)))
    (ld8 : K.lookup fd8 = some ⟨ocd8, odd8, .func (PySem.W.fnOf "_law_said" "_law_said" (defArgs s__law_said) (defBody s__law_said) (defScope s__law_said) .none kVd8 dcd8 pmd8 and8 cdd8 ctd8), sld8⟩)
    (cd8_ : PySem.W.codeIn K cdd8 "_law_said" = true)
    (kd8_ : PySem.W.keepIn K (.ref fd8) = true)
    (ad9 : PySem.W.nsIn K mainGlobals "_law_number" = some (some (.ref fd9)))
    (ld9 : K.lookup fd9 = some ⟨ocd9, odd9, .func (PySem.W.fnOf "_law_number" "_law_number" (defArgs s__law_number) (defBody s__law_number) (defScope s__law_number) .none kVd9 dcd9 pmd9 and9 cdd9 ctd9), sld9⟩)
    (cd9_ : PySem.W.codeIn K cdd9 "_law_number" = true)
    (kd9_ : PySem.W.keepIn K (.ref fd9) = true)
    (ad10 : PySem.W.nsIn K mainGlobals "_law_odd" = some (some (.ref fd10)))
    (ld10 : K.lookup fd10 = some ⟨ocd10, odd10, .func (PySem.W.fnOf "_law_odd" "_law_odd" (defArgs s__law_odd) (defBody s__law_odd) (defScope s__law_odd) .none kVd10 dcd10 pmd10 and10 cdd10 ctd10), sld10⟩)
    (cd10_ : PySem.W.codeIn K cdd10 "_law_odd" = true)
    (kd10_ : PySem.W.keepIn K (.ref fd10) = true)
    (ad11 : PySem.W.nsIn K mainGlobals "_law_spoilt" = some (some (.ref fd11)))
    (ld11 : K.lookup fd11 = some ⟨ocd11, odd11, .func (PySem.W.fnOf "_law_spoilt" "_law_spoilt" (defArgs s__law_spoilt) (defBody s__law_spoilt) (defScope s__law_spoilt) .none kVd11 dcd11 pmd11 and11 cdd11 ctd11), sld11⟩)
    (cd11_ : PySem.W.codeIn K cdd11 "_law_spoilt" = true)
    (kd11_ : PySem.W.keepIn K (.ref fd11) = true)
    (ad12 : PySem.W.nsIn K mainGlobals "_law_is_way" = some (some (.ref fd12)))
    (ld12 : K.lookup fd12 = some ⟨ocd12, odd12, .func (PySem.W.fnOf "_law_is_way" "_law_is_way" (defArgs s__law_is_way) (defBody s__law_is_way) (defScope s__law_is_way) .none kVd12 dcd12 pmd12 and12 cdd12 ctd12), sld12⟩)
    (cd12_ : PySem.W.codeIn K cdd12 "_law_is_way" = true)
    (kd12_ : PySem.W.keepIn K (.ref fd12) = true)
    (ad13 : PySem.W.nsIn K mainGlobals "_law_way_text" = some (some (.ref fd13)))
    (ld13 : K.lookup fd13 = some ⟨ocd13, odd13, .func (PySem.W.fnOf "_law_way_text" "_law_way_text" (defArgs s__law_way_text) (defBody s__law_way_text) (defScope s__law_way_text) .none kVd13 dcd13 pmd13 and13 cdd13 ctd13), sld13⟩)
    (cd13_ : PySem.W.codeIn K cdd13 "_law_way_text" = true)
    (kd13_ : PySem.W.keepIn K (.ref fd13) = true)
    (aL : PySem.W.nsIn K mainGlobals "law" = some (some (.ref fL)))
    (lL : K.lookup fL = some ⟨ocL, odL, .func (PySem.W.fnOf "law" "law" (defArgs sLaw) (defBody sLaw) (defScope sLaw) .none kVL dcL pmL anL (.ref cL) ctL), slL⟩)
    (cL_ : PySem.W.codeIn K (.ref cL) "law" = true)
    (kL_ : PySem.W.keepIn K (.ref fL) = true)
    (z_len : PySem.W.nsIn K mainGlobals "len" = some none)
    (z_isinstance : PySem.W.nsIn K mainGlobals "isinstance" = some none)
    (z_all : PySem.W.nsIn K mainGlobals "all" = some none)
    (z_max : PySem.W.nsIn K mainGlobals "max" = some none)
    (z_min : PySem.W.nsIn K mainGlobals "min" = some none)
    (z_int : PySem.W.nsIn K mainGlobals "int" = some none)
    (z_str : PySem.W.nsIn K mainGlobals "str" = some none)
    (z_list : PySem.W.nsIn K mainGlobals "list" = some none)
    (z_tuple : PySem.W.nsIn K mainGlobals "tuple" = some none)
    (z_range : PySem.W.nsIn K mainGlobals "range" = some none)
    (z_enumerate : PySem.W.nsIn K mainGlobals "enumerate" = some none)
    (z_repr : PySem.W.nsIn K mainGlobals "repr" = some none)
    (z_bool : PySem.W.nsIn K mainGlobals "bool" = some none)
    (z_ValueError : PySem.W.nsIn K mainGlobals "ValueError" = some none)
    (q0 : PySem.W.nsIn K mainGlobals "MOST_ROADS" = some (some (.int 30 t0)))
    (g_g0 : PySem.W.nsIn K mainGlobals "NoNet" = some (some (.ref e0)))
    (g_g1 : PySem.W.nsIn K mainGlobals "NoPlace" = some (some (.ref e1)))
    (g_g2 : PySem.W.nsIn K mainGlobals "NoRoad" = some (some (.ref e2)))
    (g_g3 : PySem.W.nsIn K mainGlobals "NoMany" = some (some (.ref e3)))
    (g_g4 : PySem.W.nsIn K mainGlobals "NoShut" = some (some (.ref e4)))
    (g_g5 : PySem.W.nsIn K mainGlobals "NoCost" = some (some (.ref e5)))
    (g_g6 : PySem.W.nsIn K mainGlobals "NoNumber" = some (some (.ref e6)))
    (g_g7 : PySem.W.nsIn K mainGlobals "NoWay" = some (some (.ref e7)))
    (g_g8 : PySem.W.nsIn K mainGlobals "NoWord" = some (some (.ref e8)))
    (g_g9 : PySem.W.nsIn K mainGlobals "NoTime" = some (some (.ref e9)))
    (g_g10 : PySem.W.nsIn K mainGlobals "NoChange" = some (some (.ref e10)))
    (g_g11 : PySem.W.nsIn K mainGlobals "NoPaper" = some (some (.ref e11)))
    (g_g12 : PySem.W.nsIn K mainGlobals "NoLine" = some (some (.ref e12)))
    (g_g13 : PySem.W.nsIn K mainGlobals "NoText" = some (some (.ref e13)))
    (g_g14 : PySem.W.nsIn K mainGlobals "NoAsk" = some (some (.ref e14)))
    (g_g15 : PySem.W.nsIn K mainGlobals "Nothing" = some (some (.ref e15)))
    (g_g16 : PySem.W.nsIn K mainGlobals "TooMany" = some (some (.ref e16)))
    (g_gT : PySem.W.nsIn K mainGlobals "NoThing" = some (some (.ref eT)))
    (g_gN : PySem.W.nsIn K mainGlobals "NotNow" = some (some (.ref eN)))
    (g_gW : PySem.W.nsIn K mainGlobals "WayError" = some (some (.ref eW)))
    (x3_7 : PySem.W.subIn K (.ref e7) (.type "BaseException") = some true)
    (y1_7 : PySem.W.findIn K (.ref e7) "__getattribute__" = some (some (.builtin "BaseException.__getattribute__")))
    (y2_7 : PySem.W.findIn K (.ref e7) "__getattr__" = some none)
    (y3_7 : PySem.W.hasDictIn K e7 = true)
    (y4_7 : PySem.W.findIn K (.ref e7) "__class__" = some (some (.builtin "object.__class__")))
    (y5 : PySem.W.specialIn K (.builtin "object.__class__") "__get__" = some (some (.builtin "getset_descriptor.__get__")))
    (y6 : PySem.W.takesIn K (.builtin "object.__class__") = some true)
    (y7_7 : PySem.W.mroIn K e7 (.type "object") = some true)
    (j_k7_0 : PySem.W.kitOne K (.ref e7) (.ref e0) = some false)
    (j_k7_1 : PySem.W.kitOne K (.ref e7) (.ref e1) = some false)
    (j_k7_2 : PySem.W.kitOne K (.ref e7) (.ref e2) = some false)
    (j_k7_3 : PySem.W.kitOne K (.ref e7) (.ref e3) = some false)
    (j_k7_4 : PySem.W.kitOne K (.ref e7) (.ref e4) = some false)
    (j_k7_5 : PySem.W.kitOne K (.ref e7) (.ref e5) = some false)
    (j_k7_6 : PySem.W.kitOne K (.ref e7) (.ref e6) = some false)
    (j_k7_7 : PySem.W.kitOne K (.ref e7) (.ref e7) = some true)
    (j_k7_8 : PySem.W.kitOne K (.ref e7) (.ref e8) = some false)
    (j_k7_9 : PySem.W.kitOne K (.ref e7) (.ref e9) = some false)
    (j_k7_10 : PySem.W.kitOne K (.ref e7) (.ref e10) = some false)
    (j_k7_11 : PySem.W.kitOne K (.ref e7) (.ref e11) = some false)
    (j_k7_12 : PySem.W.kitOne K (.ref e7) (.ref e12) = some false)
    (j_k7_13 : PySem.W.kitOne K (.ref e7) (.ref e13) = some false)
    (j_k7_14 : PySem.W.kitOne K (.ref e7) (.ref e14) = some false)
    (j_k7_15 : PySem.W.kitOne K (.ref e7) (.ref e15) = some false)
    (j_k7_16 : PySem.W.kitOne K (.ref e7) (.ref e16) = some false)
    (j_kT7 : PySem.W.kitOne K (.ref e7) (.ref eT) = some true)
    (j_kN7 : PySem.W.kitOne K (.ref e7) (.ref eN) = some false)
    (j_kV7 : PySem.W.kitOne K (.ref e7) (.type "ValueError") = some true)
    (j_eW7 : PySem.W.exmOne K (.ref e7) (.ref eW) = some true)
    (x1_7 : PySem.W.excIn K e7 [.type "ValueError", .type "Exception", .type "BaseException", .type "object"] "ValueError.__new__" = true)
    (x2_7 : PySem.W.keepIn K (.ref e7) = true)
    (x4_7 : PySem.W.typeIn K (.ref e7) = some (.type "type"))
    (nT : K.lookup TT = none)
    (hd : PySem.W.codeHdIn K cL TT = true) :
    K.lookup TT = none ∧ ∃ c, PySem.W.codeHdIn K c TT = true ∧ Runs P w K mg c TT fa := by
  have e := hfa.symm.trans (PySem.W.mg_of X G aL)
  cases e
  have Fd0 := fun_mk (st := s_is_whole) ld0 cd0_ kd0_
  have Bd0 := Fd0.binds (ps := ["thing"]) fun _ _ _ _ _ _ us hl => match us, hl with | [_], _ => rfl
  have Fd1 := fun_mk (st := s_is_within) ld1 cd1_ kd1_
  have Bd1 := Fd1.binds (ps := ["thing", "low", "high"]) fun _ _ _ _ _ _ us hl => match us, hl with | [_, _, _], _ => rfl
  have Fd2 := fun_mk (st := s_way_text) ld2 cd2_ kd2_
  have Fd3 := fun_mk (st := s__law_cell_at) ld3 cd3_ kd3_
  have Bd3 := Fd3.binds (ps := ["_law_script", "_law_k"]) fun _ _ _ _ _ _ us hl => match us, hl with | [_, _], _ => rfl
  have Fd4 := fun_mk (st := s__law_state) ld4 cd4_ kd4_
  have Bd4 := Fd4.binds (ps := ["_law_script", "_law_k"]) fun _ _ _ _ _ _ us hl => match us, hl with | [_, _], _ => rfl
  have Fd5 := fun_mk (st := s__law_take) ld5 cd5_ kd5_
  have Bd5 := Fd5.binds (ps := ["_law_state_here", "_law_much"]) fun _ _ _ _ _ _ us hl => match us, hl with | [_, _], _ => rfl
  have Fd6 := fun_mk (st := s__law_marks) ld6 cd6_ kd6_
  have Bd6 := Fd6.binds (ps := ["_law_e"]) fun _ _ _ _ _ _ us hl => match us, hl with | [_], _ => rfl
  have Fd7 := fun_mk (st := s__law_word) ld7 cd7_ kd7_
  have Bd7 := Fd7.binds (ps := ["_law_e"]) fun _ _ _ _ _ _ us hl => match us, hl with | [_], _ => rfl
  have Fd8 := fun_mk (st := s__law_said) ld8 cd8_ kd8_
  have Bd8 := Fd8.binds (ps := ["_law_call"]) fun _ _ _ _ _ _ us hl => match us, hl with | [_], _ => rfl
  have Fd9 := fun_mk (st := s__law_number) ld9 cd9_ kd9_
  have Bd9 := Fd9.binds (ps := ["_law_what", "_law_least", "_law_most"]) fun _ _ _ _ _ _ us hl => match us, hl with | [_, _, _], _ => rfl
  have Fd10 := fun_mk (st := s__law_odd) ld10 cd10_ kd10_
  have Bd10 := Fd10.binds (ps := ["_law_state_here"]) fun _ _ _ _ _ _ us hl => match us, hl with | [_], _ => rfl
  have Fd11 := fun_mk (st := s__law_spoilt) ld11 cd11_ kd11_
  have Bd11 := Fd11.binds (ps := ["_law_state_here", "_law_what", "_law_deep"]) fun _ _ _ _ _ _ us hl => match us, hl with | [_, _, _], _ => rfl
  have Fd12 := fun_mk (st := s__law_is_way) ld12 cd12_ kd12_
  have Bd12 := Fd12.binds (ps := ["_law_what"]) fun _ _ _ _ _ _ us hl => match us, hl with | [_], _ => rfl
  have Fd13 := fun_mk (st := s__law_way_text) ld13 cd13_ kd13_
  have Bd13 := Fd13.binds (ps := ["_law_what"]) fun _ _ _ _ _ _ us hl => match us, hl with | [_], _ => rfl
  have FDd2 : FunD K "way_text" "way_text" (defArgs s_way_text) (defBody s_way_text) (defScope s_way_text) [] [] fd2 _ := ⟨⟨_, _, _, _, _, _, _, _, _, _, rfl, ld2, cd2_, .inl ⟨rfl, rfl⟩, .inl rfl⟩, kd2_⟩
  have T : Tx K mg (fun i => match i with | 0 => e0 | 1 => e1 | 2 => e2 | 3 => e3 | 4 => e4 | 5 => e5 | 6 => e6 | 7 => e7 | 8 => e8 | 9 => e9 | 10 => e10 | 11 => e11 | 12 => e12 | 13 => e13 | 14 => e14 | 15 => e15 | 16 => e16 | _ => 0) := { h_is_whole := ⟨_, _, Fd0, Bd0, PySem.W.mg_of X G ad0⟩, h_is_within := ⟨_, _, Fd1, Bd1, PySem.W.mg_of X G ad1⟩, h__law_cell_at := ⟨_, _, Fd3, Bd3, PySem.W.mg_of X G ad3⟩, h__law_state := ⟨_, _, Fd4, Bd4, PySem.W.mg_of X G ad4⟩, h__law_take := ⟨_, _, Fd5, Bd5, PySem.W.mg_of X G ad5⟩, h__law_marks := ⟨_, _, Fd6, Bd6, PySem.W.mg_of X G ad6⟩, h__law_word := ⟨_, _, Fd7, Bd7, PySem.W.mg_of X G ad7⟩, h__law_said := ⟨_, _, Fd8, Bd8, PySem.W.mg_of X G ad8⟩, h__law_number := ⟨_, _, Fd9, Bd9, PySem.W.mg_of X G ad9⟩, h__law_odd := ⟨_, _, Fd10, Bd10, PySem.W.mg_of X G ad10⟩, h__law_spoilt := ⟨_, _, Fd11, Bd11, PySem.W.mg_of X G ad11⟩, h__law_is_way := ⟨_, _, Fd12, Bd12, PySem.W.mg_of X G ad12⟩, h__law_way_text := ⟨_, _, Fd13, Bd13, PySem.W.mg_of X G ad13⟩, h_way_text := ⟨_, _, ⟨Fd2, FDd2, PySem.W.mg_of X G ad2⟩⟩, len := PySem.W.mg_none_of X G z_len, isinstance := PySem.W.mg_none_of X G z_isinstance, all := PySem.W.mg_none_of X G z_all, max := PySem.W.mg_none_of X G z_max, min := PySem.W.mg_none_of X G z_min, int := PySem.W.mg_none_of X G z_int, str := PySem.W.mg_none_of X G z_str, list := PySem.W.mg_none_of X G z_list, tuple := PySem.W.mg_none_of X G z_tuple, range := PySem.W.mg_none_of X G z_range, enumerate := PySem.W.mg_none_of X G z_enumerate, repr := PySem.W.mg_none_of X G z_repr, bool := PySem.W.mg_none_of X G z_bool, ValueError := PySem.W.mg_none_of X G z_ValueError, c_MOST_ROADS := ⟨_, PySem.W.mg_of X G q0⟩, e_NoWay := ⟨PySem.W.mg_of X G g_g7, x1_7, x2_7, x3_7, x4_7⟩ }
  have Z : Cl K mg (fun i => match i with | 0 => e0 | 1 => e1 | 2 => e2 | 3 => e3 | 4 => e4 | 5 => e5 | 6 => e6 | 7 => e7 | 8 => e8 | 9 => e9 | 10 => e10 | 11 => e11 | 12 => e12 | 13 => e13 | 14 => e14 | 15 => e15 | 16 => e16 | _ => 0) eT eN eW := { g0 := PySem.W.mg_of X G g_g0, g1 := PySem.W.mg_of X G g_g1, g2 := PySem.W.mg_of X G g_g2, g3 := PySem.W.mg_of X G g_g3, g4 := PySem.W.mg_of X G g_g4, g5 := PySem.W.mg_of X G g_g5, g6 := PySem.W.mg_of X G g_g6, g7 := PySem.W.mg_of X G g_g7, g8 := PySem.W.mg_of X G g_g8, g9 := PySem.W.mg_of X G g_g9, g10 := PySem.W.mg_of X G g_g10, g11 := PySem.W.mg_of X G g_g11, g12 := PySem.W.mg_of X G g_g12, g13 := PySem.W.mg_of X G g_g13, g14 := PySem.W.mg_of X G g_g14, g15 := PySem.W.mg_of X G g_g15, g16 := PySem.W.mg_of X G g_g16, gT := PySem.W.mg_of X G g_gT, gN := PySem.W.mg_of X G g_gN, gW := PySem.W.mg_of X G g_gW, c7 := ⟨y1_7, y2_7, x3_7, y3_7, y4_7, y5, y6, y7_7⟩, k7_0 := j_k7_0, k7_1 := j_k7_1, k7_2 := j_k7_2, k7_3 := j_k7_3, k7_4 := j_k7_4, k7_5 := j_k7_5, k7_6 := j_k7_6, k7_7 := j_k7_7, k7_8 := j_k7_8, k7_9 := j_k7_9, k7_10 := j_k7_10, k7_11 := j_k7_11, k7_12 := j_k7_12, k7_13 := j_k7_13, k7_14 := j_k7_14, k7_15 := j_k7_15, k7_16 := j_k7_16, kT7 := j_kT7, kN7 := j_kN7, kV7 := j_kV7, eW7 := j_eW7 }
  refine ⟨nT, cL, hd, fun base H s a ns tb hT sq env => ?_⟩
  refine LamX.run_ofS (k := 12) (N := ["_law_script", "_law_k", "_law_state_here", "_law_walk", "_law_turn", "_law_some", "_law_texts", "_law_what", "_law_lap", "_law_kept", "_law_due"]) (ps := ["_law_script"]) (us := [.ref a]) (vs := [.ref a]) lL cL_ scLaw ⟨rfl, by decide, by decide⟩ env (.of_eq rfl) (.cons rfl .nil) rfl fun hr => ?_
  obtain ⟨t, ht, hq⟩ := law_reads (P := P) (w := w) (base := base) (fL := fa) (s := s) (H := H) (a := a) (ns := ns) T Z tb rfl hr hT sq
  exact ⟨t, ht.nox, hq⟩
end Wy

open PySem PySem.W PyProof.Rows
set_option maxHeartbeats 0 in
theorem PySem.Challenge.cw_waysranked_k77_ways_written_holds : PySem.Challenge.rw_waysranked_k77_ways_written.Holds := by
  w_on; o_law; k_head; (case hw => w_witness2)
  k_fill
  refine Wy.walk_end (l := PySem.Challenge.rw_waysranked_k77_ways_written) (n := 63) rfl (by decide) rfl (fun w h Y => PySem.W.km_in_of Y) (fun w h Y => PySem.W.km_tabs_of Y _ (List.Mem.head _)) ?F
  case F =>
    intro w mg fa h KX G hmg
    refine' Wy.fin_mk KX G hmg ?zz_ad0 ?zz_ld0 ?zz_cd0_ ?zz_kd0_ ?zz_ad1 ?zz_ld1 ?zz_cd1_ ?zz_kd1_ ?zz_ad2 ?zz_ld2 ?zz_cd2_ ?zz_kd2_ ?zz_ad3 ?zz_ld3 ?zz_cd3_ ?zz_kd3_ ?zz_ad4 ?zz_ld4 ?zz_cd4_ ?zz_kd4_ ?zz_ad5 ?zz_ld5 ?zz_cd5_ ?zz_kd5_ ?zz_ad6 ?zz_ld6 ?zz_cd6_ ?zz_kd6_ ?zz_ad7 ?zz_ld7 ?zz_cd7_ ?zz_kd7_ ?zz_ad8 ?zz_ld8 ?zz_cd8_ ?zz_kd8_ ?zz_ad9 ?zz_ld9 ?zz_cd9_ ?zz_kd9_ ?zz_ad10 ?zz_ld10 ?zz_cd10_ ?zz_kd10_ ?zz_ad11 ?zz_ld11 ?zz_cd11_ ?zz_kd11_ ?zz_ad12 ?zz_ld12 ?zz_cd12_ ?zz_kd12_ ?zz_ad13 ?zz_ld13 ?zz_cd13_ ?zz_kd13_ ?zz_aL ?zz_lL ?zz_cL_ ?zz_kL_ ?zz_z_len ?zz_z_isinstance ?zz_z_all ?zz_z_max ?zz_z_min ?zz_z_int ?zz_z_str ?zz_z_list ?zz_z_tuple ?zz_z_range ?zz_z_enumerate ?zz_z_repr ?zz_z_bool ?zz_z_ValueError ?zz_q0 ?zz_g_g0 ?zz_g_g1 ?zz_g_g2 ?zz_g_g3 ?zz_g_g4 ?zz_g_g5 ?zz_g_g6 ?zz_g_g7 ?zz_g_g8 ?zz_g_g9 ?zz_g_g10 ?zz_g_g11 ?zz_g_g12 ?zz_g_g13 ?zz_g_g14 ?zz_g_g15 ?zz_g_g16 ?zz_g_gT ?zz_g_gN ?zz_g_gW ?zz_x3_7 ?zz_y1_7 ?zz_y2_7 ?zz_y3_7 ?zz_y4_7 ?zz_y5 ?zz_y6 ?zz_y7_7 ?zz_j_k7_0 ?zz_j_k7_1 ?zz_j_k7_2 ?zz_j_k7_3 ?zz_j_k7_4 ?zz_j_k7_5 ?zz_j_k7_6 ?zz_j_k7_7 ?zz_j_k7_8 ?zz_j_k7_9 ?zz_j_k7_10 ?zz_j_k7_11 ?zz_j_k7_12 ?zz_j_k7_13 ?zz_j_k7_14 ?zz_j_k7_15 ?zz_j_k7_16 ?zz_j_kT7 ?zz_j_kN7 ?zz_j_kV7 ?zz_j_eW7 ?zz_x1_7 ?zz_x2_7 ?zz_x4_7 ?zz_nT ?zz_hd
    (case zz_ad0 => first | k_is | rfl | decide +kernel | k_exc)
    (case zz_ld0 => first | k_is | rfl | decide +kernel | k_exc)
    (case zz_cd0_ => first | k_is | rfl | decide +kernel | k_exc)
    (case zz_kd0_ => first | k_is | rfl | decide +kernel | k_exc)
    (case zz_ad1 => first | k_is | rfl | decide +kernel | k_exc)
    (case zz_ld1 => first | k_is | rfl | decide +kernel | k_exc)
    (case zz_cd1_ => first | k_is | rfl | decide +kernel | k_exc)
    (case zz_kd1_ => first | k_is | rfl | decide +kernel | k_exc)
    (case zz_ad2 => first | k_is | rfl | decide +kernel | k_exc)
    (case zz_ld2 => first | k_is | rfl | decide +kernel | k_exc)
    (case zz_cd2_ => first | k_is | rfl | decide +kernel | k_exc)
    (case zz_kd2_ => first | k_is | rfl | decide +kernel | k_exc)
    (case zz_ad3 => first | k_is | rfl | decide +kernel | k_exc)
    (case zz_ld3 => first | k_is | rfl | decide +kernel | k_exc)
    (case zz_cd3_ => first | k_is | rfl | decide +kernel | k_exc)
    (case zz_kd3_ => first | k_is | rfl | decide +kernel | k_exc)
    (case zz_ad4 => first | k_is | rfl | decide +kernel | k_exc)
    (case zz_ld4 => first | k_is | rfl | decide +kernel | k_exc)
    (case zz_cd4_ => first | k_is | rfl | decide +kernel | k_exc)
    (case zz_kd4_ => first | k_is | rfl | decide +kernel | k_exc)
    (case zz_ad5 => first | k_is | rfl | decide +kernel | k_exc)
    (case zz_ld5 => first | k_is | rfl | decide +kernel | k_exc)
    (case zz_cd5_ => first | k_is | rfl | decide +kernel | k_exc)
    (case zz_kd5_ => first | k_is | rfl | decide +kernel | k_exc)
    (case zz_ad6 => first | k_is | rfl | decide +kernel | k_exc)
    (case zz_ld6 => first | k_is | rfl | decide +kernel | k_exc)
    (case zz_cd6_ => first | k_is | rfl | decide +kernel | k_exc)
    (case zz_kd6_ => first | k_is | rfl | decide +kernel | k_exc)
    (case zz_ad7 => first | k_is | rfl | decide +kernel | k_exc)
    (case zz_ld7 => first | k_is | rfl | decide +kernel | k_exc)
    (case zz_cd7_ => first | k_is | rfl | decide +kernel | k_exc)
    (case zz_kd7_ => first | k_is | rfl | decide +kernel | k_exc)
    (case zz_ad8 => first | k_is | rfl | decide +kernel | k_exc)
    (case zz_ld8 => first | k_is | rfl | decide +kernel | k_exc)
    (case zz_cd8_ => first | k_is | rfl | decide +kernel | k_exc)
    (case zz_kd8_ => first | k_is | rfl | decide +kernel | k_exc)
    (case zz_ad9 => first | k_is | rfl | decide +kernel | k_exc)
    (case zz_ld9 => first | k_is | rfl | decide +kernel | k_exc)
    (case zz_cd9_ => first | k_is | rfl | decide +kernel | k_exc)
    (case zz_kd9_ => first | k_is | rfl | decide +kernel | k_exc)
    (case zz_ad10 => first | k_is | rfl | decide +kernel | k_exc)
    (case zz_ld10 => first | k_is | rfl | decide +kernel | k_exc)
    (case zz_cd10_ => first | k_is | rfl | decide +kernel | k_exc)
    (case zz_kd10_ => first | k_is | rfl | decide +kernel | k_exc)
    (case zz_ad11 => first | k_is | rfl | decide +kernel | k_exc)
    (case zz_ld11 => first | k_is | rfl | decide +kernel | k_exc)
    (case zz_cd11_ => first | k_is | rfl | decide +kernel | k_exc)
    (case zz_kd11_ => first | k_is | rfl | decide +kernel | k_exc)
    (case zz_ad12 => first | k_is | rfl | decide +kernel | k_exc)
    (case zz_ld12 => first | k_is | rfl | decide +kernel | k_exc)
    (case zz_cd12_ => first | k_is | rfl | decide +kernel | k_exc)
    (case zz_kd12_ => first | k_is | rfl | decide +kernel | k_exc)
    (case zz_ad13 => first | k_is | rfl | decide +kernel | k_exc)
    (case zz_ld13 => first | k_is | rfl | decide +kernel | k_exc)
    (case zz_cd13_ => first | k_is | rfl | decide +kernel | k_exc)
    (case zz_kd13_ => first | k_is | rfl | decide +kernel | k_exc)
    (case zz_aL => first | k_is | rfl | decide +kernel | k_exc)
    (case zz_lL => first | k_is | rfl | decide +kernel | k_exc)
    (case zz_cL_ => first | k_is | rfl | decide +kernel | k_exc)
    (case zz_kL_ => first | k_is | rfl | decide +kernel | k_exc)
    (case zz_z_len => first | k_is | rfl | decide +kernel | k_exc)
    (case zz_z_isinstance => first | k_is | rfl | decide +kernel | k_exc)
    (case zz_z_all => first | k_is | rfl | decide +kernel | k_exc)
    (case zz_z_max => first | k_is | rfl | decide +kernel | k_exc)
    (case zz_z_min => first | k_is | rfl | decide +kernel | k_exc)
    (case zz_z_int => first | k_is | rfl | decide +kernel | k_exc)
    (case zz_z_str => first | k_is | rfl | decide +kernel | k_exc)
    (case zz_z_list => first | k_is | rfl | decide +kernel | k_exc)
    (case zz_z_tuple => first | k_is | rfl | decide +kernel | k_exc)
    (case zz_z_range => first | k_is | rfl | decide +kernel | k_exc)
    (case zz_z_enumerate => first | k_is | rfl | decide +kernel | k_exc)
    (case zz_z_repr => first | k_is | rfl | decide +kernel | k_exc)
    (case zz_z_bool => first | k_is | rfl | decide +kernel | k_exc)
    (case zz_z_ValueError => first | k_is | rfl | decide +kernel | k_exc)
    (case zz_q0 => first | k_is | rfl | decide +kernel | k_exc)
    (case zz_g_g0 => first | k_is | rfl | decide +kernel | k_exc)
    (case zz_g_g1 => first | k_is | rfl | decide +kernel | k_exc)
    (case zz_g_g2 => first | k_is | rfl | decide +kernel | k_exc)
    (case zz_g_g3 => first | k_is | rfl | decide +kernel | k_exc)
    (case zz_g_g4 => first | k_is | rfl | decide +kernel | k_exc)
    (case zz_g_g5 => first | k_is | rfl | decide +kernel | k_exc)
    (case zz_g_g6 => first | k_is | rfl | decide +kernel | k_exc)
    (case zz_g_g7 => first | k_is | rfl | decide +kernel | k_exc)
    (case zz_g_g8 => first | k_is | rfl | decide +kernel | k_exc)
    (case zz_g_g9 => first | k_is | rfl | decide +kernel | k_exc)
    (case zz_g_g10 => first | k_is | rfl | decide +kernel | k_exc)
    (case zz_g_g11 => first | k_is | rfl | decide +kernel | k_exc)
    (case zz_g_g12 => first | k_is | rfl | decide +kernel | k_exc)
    (case zz_g_g13 => first | k_is | rfl | decide +kernel | k_exc)
    (case zz_g_g14 => first | k_is | rfl | decide +kernel | k_exc)
    (case zz_g_g15 => first | k_is | rfl | decide +kernel | k_exc)
    (case zz_g_g16 => first | k_is | rfl | decide +kernel | k_exc)
    (case zz_g_gT => first | k_is | rfl | decide +kernel | k_exc)
    (case zz_g_gN => first | k_is | rfl | decide +kernel | k_exc)
    (case zz_g_gW => first | k_is | rfl | decide +kernel | k_exc)
    (case zz_x3_7 => first | k_is | rfl | decide +kernel | k_exc)
    (case zz_y1_7 => first | k_is | rfl | decide +kernel | k_exc)
    (case zz_y2_7 => first | k_is | rfl | decide +kernel | k_exc)
    (case zz_y3_7 => first | k_is | rfl | decide +kernel | k_exc)
    (case zz_y4_7 => first | k_is | rfl | decide +kernel | k_exc)
    (case zz_y5 => first | k_is | rfl | decide +kernel | k_exc)
    (case zz_y6 => first | k_is | rfl | decide +kernel | k_exc)
    (case zz_y7_7 => first | k_is | rfl | decide +kernel | k_exc)
    (case zz_j_k7_0 => first | k_is | rfl | decide +kernel | k_exc)
    (case zz_j_k7_1 => first | k_is | rfl | decide +kernel | k_exc)
    (case zz_j_k7_2 => first | k_is | rfl | decide +kernel | k_exc)
    (case zz_j_k7_3 => first | k_is | rfl | decide +kernel | k_exc)
    (case zz_j_k7_4 => first | k_is | rfl | decide +kernel | k_exc)
    (case zz_j_k7_5 => first | k_is | rfl | decide +kernel | k_exc)
    (case zz_j_k7_6 => first | k_is | rfl | decide +kernel | k_exc)
    (case zz_j_k7_7 => first | k_is | rfl | decide +kernel | k_exc)
    (case zz_j_k7_8 => first | k_is | rfl | decide +kernel | k_exc)
    (case zz_j_k7_9 => first | k_is | rfl | decide +kernel | k_exc)
    (case zz_j_k7_10 => first | k_is | rfl | decide +kernel | k_exc)
    (case zz_j_k7_11 => first | k_is | rfl | decide +kernel | k_exc)
    (case zz_j_k7_12 => first | k_is | rfl | decide +kernel | k_exc)
    (case zz_j_k7_13 => first | k_is | rfl | decide +kernel | k_exc)
    (case zz_j_k7_14 => first | k_is | rfl | decide +kernel | k_exc)
    (case zz_j_k7_15 => first | k_is | rfl | decide +kernel | k_exc)
    (case zz_j_k7_16 => first | k_is | rfl | decide +kernel | k_exc)
    (case zz_j_kT7 => first | k_is | rfl | decide +kernel | k_exc)
    (case zz_j_kN7 => first | k_is | rfl | decide +kernel | k_exc)
    (case zz_j_kV7 => first | k_is | rfl | decide +kernel | k_exc)
    (case zz_j_eW7 => first | k_is | rfl | decide +kernel | k_exc)
    (case zz_x1_7 => first | k_is | rfl | decide +kernel | k_exc)
    (case zz_x2_7 => first | k_is | rfl | decide +kernel | k_exc)
    (case zz_x4_7 => first | k_is | rfl | decide +kernel | k_exc)
    (case zz_nT => first | k_is | rfl | decide +kernel | k_exc)
    (case zz_hd => first | k_is | rfl | decide +kernel | k_exc)
