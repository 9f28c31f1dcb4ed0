import PyProof.Rows.All
import Wide.All
import OpenK.AllK
import Wide.FinOn
import PySem.Challenge.RW_waysranked_k76_texts_that_write_no_net
import HandS.ForMost
import HandS.ForExc
import HandS.IsInst
import HandS.ExcIs
import HandS.Lambda
import HandS.HotCalls
import HandS.Zip
import HandS.Strs
import HandS.Flow
import HandS.Style
import HandS.TupAny
import HandS.TupLe
import HandS.Defaults
import PyProof.ReprRoads
import KE.GoesMore
import PyProof.Draws
import HandS.Conv
import KE.DataMinMax
import KE.SortData
import HandS.Dict
import HandS.Words
import HandS.TupMul
import HandS.Text
import HandS.StrMore
import KE.GoesEnumKw
import PyProof.Rows.CallKwBuiltin
import HandS.BoundDict
import HandS.Iter
import PyProof.StrOps2
import HandS.Codes
import HandS.Wide
import KE.GoesZip
import PyProof.P3In
import PyProof.SeqIndex
import KE.DataCmp
import KE.KRevSl
import KE.DataFind
import KE.KDictWalk
import HandS.TupSets
import KE.KDictDisplayH
import PyProof.Rows.TupDisplay
import KE.KNestM
import HandS.Walk
import KE.KDictSum
import HandS.ExcValue
import HandS.SetFor
import KE.DataAny
import KE.KTupSum
import HandS.MakeKwOnly
import HandS.ExcInit
import HandS.ExcField
import HandS.Nested
import KE.KExcSuper
import KE.KSuper
import KE.KExcIs
import HandS.EndTab
set_option Elab.async false
set_option linter.all false
set_option maxRecDepth 100000
namespace Dl
open PySem PySem.Spec PyProof.Rows L2
/-! ### readings by data: no heap, no addresses -/
def keyD : Key → PyData
  | .inl i => .int i
  | .inr x => .str x
/-- a list that is read: tracked, none of A (a tuple may be a written one, too) -/
def SqLA (K : PySem.W.Frag) (A : Addr → Prop) (H : Hp) (a : Addr) (xs : List V) : Prop := H a = some (.lst xs) ∧ ¬ A a
def SqTA (K : PySem.W.Frag) (A : Addr → Prop) (H : Hp) (a : Addr) (xs : List V) : Prop := H a = some (.tup xs) ∧ ¬ A a
mutual
/-- v is the data d; none of its objects is one of A -/
inductive Rp (K : PySem.W.Frag) (A : Addr → Prop) (H : Hp) : V → PyData → Prop
  | non : Rp K A H .non .none
  | bl (b : Bool) : Rp K A H (.bl b) (.bool b)
  | int (i : Int) : Rp K A H (.int i) (.int i)
  | str (x : Str) : Rp K A H (.str x) (.str x)
  | lst {a : Addr} {xs : List V} {ds : List PyData} : SqLA K A H a xs → RpAll K A H xs ds → Rp K A H (.ref a) (.list ds)
  | tup {a : Addr} {xs : List V} {ds : List PyData} : SqTA K A H a xs → RpAll K A H xs ds → Rp K A H (.ref a) (.tuple ds)
  | dct {a : Addr} {kvs : List (Key × V)} {ds : List PyData} : H a = some (.dK kvs) → ¬ A a → RpAll K A H (kvs.map (·.2)) ds → Rp K A H (.ref a) (.dict ((kvs.map fun p => keyD p.1).zip ds))
inductive RpAll (K : PySem.W.Frag) (A : Addr → Prop) (H : Hp) : List V → List PyData → Prop
  | nil : RpAll K A H [] []
  | cons {v : V} {vs : List V} {d : PyData} {ds : List PyData} : Rp K A H v d → RpAll K A H vs ds → RpAll K A H (v :: vs) (d :: ds)
end
theorem sqLA_sq {K : PySem.W.Frag} {A : Addr → Prop} {H : Hp} {a : Addr} {xs : List V} (h : SqLA K A H a xs) : SqL K H a xs := SqL.of h.1
theorem sqTA_sq {K : PySem.W.Frag} {A : Addr → Prop} {H : Hp} {a : Addr} {xs : List V} (h : SqTA K A H a xs) : SqT K H a xs := SqT.of h.1
/-- no table of code -/
def NT (o : HO) : Prop := ∀ ps, o ≠ .tbl ps
def Ob (H : Hp) (a : Addr) : Prop := ∃ o, H a = some o ∧ NT o
theorem nob {H : Hp} {a : Addr} (h : H a = none) : ¬ Ob H a := fun ⟨o, e, _⟩ => nomatch e.symm.trans h
theorem ne_nob {H : Hp} {a b : Addr} {o : HO} (e : H a = some o) (t : NT o) (n : ¬ Ob H b) : a ≠ b := fun z => n ⟨o, z ▸ e, t⟩
theorem nt_lst {xs : List V} : NT (.lst xs) := fun _ q => nomatch q
theorem nt_tup {xs : List V} : NT (.tup xs) := fun _ q => nomatch q
theorem nt_dK {xs : List (Key × V)} : NT (.dK xs) := fun _ q => nomatch q
theorem nt_frz {o : Obj} {u : HO} : NT (.frz o u) := fun _ q => nomatch q
def Goes (A A' : Addr → Prop) (H H' : Hp) : Prop := ∀ b o, H b = some o → NT o → ¬ A b → H' b = some o ∧ ¬ A' b
theorem sqLA_go {K : PySem.W.Frag} {A A' : Addr → Prop} {H H' : Hp} (g : Goes A A' H H') {a : Addr} {xs : List V} (h : SqLA K A H a xs) : SqLA K A' H' a xs := g _ _ h.1 nt_lst h.2
theorem sqTA_go {K : PySem.W.Frag} {A A' : Addr → Prop} {H H' : Hp} (g : Goes A A' H H') {a : Addr} {xs : List V} (h : SqTA K A H a xs) : SqTA K A' H' a xs := g _ _ h.1 (fun _ q => nomatch q) h.2
mutual
theorem Rp.go {K : PySem.W.Frag} {A A' : Addr → Prop} {H H' : Hp} (g : Goes A A' H H') : ∀ {v : V} {d : PyData}, Rp K A H v d → Rp K A' H' v d
  | _, _, .non => .non
  | _, _, .bl b => .bl b
  | _, _, .int i => .int i
  | _, _, .str x => .str x
  | _, _, .lst h r => .lst (sqLA_go g h) (RpAll.go g r)
  | _, _, .tup h r => .tup (sqTA_go g h) (RpAll.go g r)
  | _, _, .dct h n r => .dct (g _ _ h nt_dK n).1 (g _ _ h nt_dK n).2 (RpAll.go g r)
theorem RpAll.go {K : PySem.W.Frag} {A A' : Addr → Prop} {H H' : Hp} (g : Goes A A' H H') : ∀ {vs : List V} {ds : List PyData}, RpAll K A H vs ds → RpAll K A' H' vs ds
  | _, _, .nil => .nil
  | _, _, .cons h r => .cons (Rp.go g h) (RpAll.go g r)
end
theorem RpAll.length {K : PySem.W.Frag} {A : Addr → Prop} {H : Hp} : ∀ {vs : List V} {ds : List PyData}, RpAll K A H vs ds → vs.length = ds.length
  | _, _, .nil => rfl
  | _, _, .cons _ r => by rw [List.length_cons, List.length_cons, RpAll.length r]
theorem RpAll.get {K : PySem.W.Frag} {A : Addr → Prop} {H : Hp} : ∀ {vs : List V} {ds : List PyData} {i : Nat} {d : PyData}, RpAll K A H vs ds → ds[i]? = some d → ∃ v, vs[i]? = some v ∧ Rp K A H v d
  | _, _, _, _, .nil, e => by simp at e
  | _, _, 0, _, .cons h _, e => by simp at e; subst e; exact ⟨_, rfl, h⟩
  | _, _, i + 1, d, .cons _ r, e => by
    obtain ⟨v, h1, h2⟩ := RpAll.get (i := i) (d := d) r (by simpa using e)
    exact ⟨v, by simpa using h1, h2⟩
theorem RpAll.getV {K : PySem.W.Frag} {A : Addr → Prop} {H : Hp} {vs : List V} {ds : List PyData} {i : Nat} {v : V} (h : RpAll K A H vs ds) (e : vs[i]? = some v) : ∃ d, ds[i]? = some d ∧ Rp K A H v d := by
  have hl := h.length
  have hi : i < ds.length := by
    have := (List.getElem?_eq_some_iff.mp e).1
    omega
  obtain ⟨u, e1, e2⟩ := h.get (List.getElem?_eq_getElem hi)
  rw [e] at e1
  cases e1
  exact ⟨_, List.getElem?_eq_getElem hi, e2⟩
theorem RpAll.append {K : PySem.W.Frag} {A : Addr → Prop} {H : Hp} : ∀ {vs us : List V} {ds es : List PyData}, RpAll K A H vs ds → RpAll K A H us es → RpAll K A H (vs ++ us) (ds ++ es)
  | _, _, _, _, .nil, s => s
  | _, _, _, _, .cons h r, s => .cons h (RpAll.append r s)
theorem RpAll.take {K : PySem.W.Frag} {A : Addr → Prop} {H : Hp} : ∀ {vs : List V} {ds : List PyData} (n : Nat), RpAll K A H vs ds → RpAll K A H (vs.take n) (ds.take n)
  | _, _, 0, _ => .nil
  | _, _, _ + 1, .nil => .nil
  | _, _, n + 1, .cons h r => .cons h (RpAll.take n r)
theorem RpAll.drop {K : PySem.W.Frag} {A : Addr → Prop} {H : Hp} : ∀ {vs : List V} {ds : List PyData} (n : Nat), RpAll K A H vs ds → RpAll K A H (vs.drop n) (ds.drop n)
  | _, _, 0, r => r
  | _, _, _ + 1, .nil => .nil
  | _, _, n + 1, .cons _ r => RpAll.drop n r
theorem RpAll.set {K : PySem.W.Frag} {A : Addr → Prop} {H : Hp} {v : V} {d : PyData} (h0 : Rp K A H v d) : ∀ {vs : List V} {ds : List PyData} (n : Nat), RpAll K A H vs ds → RpAll K A H (vs.set n v) (ds.set n d)
  | _, _, _, .nil => .nil
  | _, _, 0, .cons _ r => .cons h0 r
  | _, _, n + 1, .cons h r => .cons h (RpAll.set h0 n r)
theorem RpAll.one {K : PySem.W.Frag} {A : Addr → Prop} {H : Hp} {v : V} {d : PyData} (h : Rp K A H v d) : RpAll K A H [v] [d] := .cons h .nil
theorem RpAll.reverse {K : PySem.W.Frag} {A : Addr → Prop} {H : Hp} : ∀ {vs : List V} {ds : List PyData}, RpAll K A H vs ds → RpAll K A H vs.reverse ds.reverse
  | _, _, .nil => .nil
  | _, _, .cons h r => by
    rw [List.reverse_cons, List.reverse_cons]
    exact (RpAll.reverse r).append (.one h)
theorem RpAll.rep {K : PySem.W.Frag} {A : Addr → Prop} {H : Hp} {vs : List V} {ds : List PyData} (h : RpAll K A H vs ds) : ∀ n : Nat, RpAll K A H (List.replicate n vs).flatten (List.replicate n ds).flatten
  | 0 => .nil
  | n + 1 => by
    rw [List.replicate_succ, List.replicate_succ, List.flatten_cons, List.flatten_cons]
    exact h.append (RpAll.rep h n)
/-- flat ones -/
theorem RpAll.ints {K : PySem.W.Frag} {A : Addr → Prop} {H : Hp} : ∀ {vs : List V} {ns : List Int}, RpAll K A H vs (ns.map PyData.int) → vs = ns.map V.int
  | _, [], h => by cases h; rfl
  | _, n :: r, h => by
    cases h with
    | cons h t =>
      cases h
      rw [RpAll.ints t]
      rfl
theorem RpAll.bools {K : PySem.W.Frag} {A : Addr → Prop} {H : Hp} : ∀ {vs : List V} {ns : List Bool}, RpAll K A H vs (ns.map PyData.bool) → vs = ns.map V.bl
  | _, [], h => by cases h; rfl
  | _, n :: r, h => by
    cases h with
    | cons h t =>
      cases h
      rw [RpAll.bools t]
      rfl
theorem RpAll.strs {K : PySem.W.Frag} {A : Addr → Prop} {H : Hp} : ∀ {vs : List V} {ns : List Str}, RpAll K A H vs (ns.map PyData.str) → vs = ns.map V.str
  | _, [], h => by cases h; rfl
  | _, n :: r, h => by
    cases h with
    | cons h t =>
      cases h
      rw [RpAll.strs t]
      rfl
theorem RpAll.of_ints {K : PySem.W.Frag} {A : Addr → Prop} {H : Hp} : ∀ ns : List Int, RpAll K A H (ns.map V.int) (ns.map PyData.int)
  | [] => .nil
  | n :: r => .cons (.int n) (RpAll.of_ints r)
theorem RpAll.of_bools {K : PySem.W.Frag} {A : Addr → Prop} {H : Hp} : ∀ ns : List Bool, RpAll K A H (ns.map V.bl) (ns.map PyData.bool)
  | [] => .nil
  | n :: r => .cons (.bl n) (RpAll.of_bools r)
theorem RpAll.of_strs {K : PySem.W.Frag} {A : Addr → Prop} {H : Hp} : ∀ ns : List Str, RpAll K A H (ns.map V.str) (ns.map PyData.str)
  | [] => .nil
  | n :: r => .cons (.str n) (RpAll.of_strs r)
mutual
theorem Rp.dp {K : PySem.W.Frag} {A : Addr → Prop} {H : Hp} : ∀ {v : V} {d : PyData}, Rp K A H v d → d.canLay0 = true → Dp K H v d
  | _, _, .non, _ => .non
  | _, _, .bl b, _ => .bl b
  | _, _, .int i, _ => .int i
  | _, _, .str x, _ => .str x
  | _, _, .lst h r, e => .lst (sqLA_sq h) (RpAll.dp r (by simpa [PyData.canLay0] using e))
  | _, _, .tup h r, e => .tup (sqTA_sq h) (RpAll.dp r (by simpa [PyData.canLay0] using e))
  | _, _, .dct _ _ _, e => by simp [PyData.canLay0] at e
theorem RpAll.dp {K : PySem.W.Frag} {A : Addr → Prop} {H : Hp} : ∀ {vs : List V} {ds : List PyData}, RpAll K A H vs ds → PyData.canLayAll0 ds = true → DpAll K H vs ds
  | _, _, .nil, _ => .nil
  | _, _, .cons h r, e => by
    rw [PyData.canLayAll0, Bool.and_eq_true] at e
    exact .cons (Rp.dp h e.1) (RpAll.dp r e.2)
end
/-! ### where one stands -/
/-- what can be one's own: a list, a dict -/
inductive Mb : HO → Prop
  | lst (xs : List V) : Mb (.lst xs)
  | dK (kvs : List (Key × V)) : Mb (.dK kvs)
  | dT (kvs : List (List Key × V)) : Mb (.dT kvs)
theorem Mb.nt {o : HO} (h : Mb o) : NT o := by cases h <;> exact fun _ q => nomatch q
/-- a dict of one's own, by data -/
inductive OD where
  | dk (kvs : List (Key × PyData))
  | dt (kvs : List (List Key × PyData))
def OdR (K : PySem.W.Frag) (A : Addr → Prop) (H : Hp) : HO → OD → Prop
  | .dK ks, .dk kvs => ks.map (·.1) = kvs.map (·.1) ∧ RpAll K A H (ks.map (·.2)) (kvs.map (·.2))
  | .dT ks, .dt kvs => ks.map (·.1) = kvs.map (·.1) ∧ RpAll K A H (ks.map (·.2)) (kvs.map (·.2))
  | _, _ => False
theorem OdR.go {K : PySem.W.Frag} {A A' : Addr → Prop} {H H' : Hp} (g : Goes A A' H H') {o : HO} {d : OD} (h : OdR K A H o d) : OdR K A' H' o d := by
  cases o <;> cases d <;> first | exact ⟨h.1, h.2.go g⟩ | exact h.elim
theorem OdR.mb {K : PySem.W.Frag} {A : Addr → Prop} {H : Hp} {o : HO} {d : OD} (h : OdR K A H o d) : Mb o := by
  cases o <;> cases d <;> first | exact .dK _ | exact .dT _ | exact h.elim
def OD.dat : OD → Option PyData
  | .dk kvs => some (.dict ((kvs.map fun p => keyD p.1).zip (kvs.map (·.2))))
  | .dt _ => none
structure Wld (τ : List (Addr × Str)) where
  B : Addr → Prop
  I : Hp → Prop
  tab : ∀ H, I H → LamX.Tabs τ H
  tbI : ∀ H H', I H → LamX.ExtN H H' → LamX.Tabs τ H' → I H'
  stay : ∀ H H', Same H H' → I H → I H'
  own : ∀ H p o o', I H → H p = some o → Mb o → Mb o' → ¬ B p → I (upd H p o')
  nt : ∀ H, I H → ∀ (a : Addr) (xs : List V), B a → H a ≠ some (.tup xs)
def Fr (B : Addr → Prop) (H H' : Hp) : Prop := (∀ b o, H b = some o → NT o → ¬ B b → H' b = some o) ∧ ∀ b, Ob H b → Ob H' b
theorem Fr.refl {B : Addr → Prop} (H : Hp) : Fr B H H := ⟨fun _ _ h _ _ => h, fun _ h => h⟩
theorem Fr.trans {B : Addr → Prop} {H H1 H2 : Hp} (a : Fr B H H1) (b : Fr B H1 H2) : Fr B H H2 := ⟨fun c o h t n => b.1 c o (a.1 c o h t n) t n, fun c h => b.2 c (a.2 c h)⟩
theorem Fr.of {B : Addr → Prop} {H H' : Hp} (s : Same H H') : Fr B H H' := ⟨fun b o h _ _ => s b o h, fun b ⟨o, e, t⟩ => ⟨o, s b o e, t⟩⟩
theorem same_new {H : Hp} {p : Addr} {o : HO} (h : H p = none) : Same H (upd H p o) := fun b x e => by
  rw [upd_ne (ne_of_none e h)]
  exact e
theorem Fr.new {B : Addr → Prop} {H : Hp} {p : Addr} {o : HO} (h : H p = none) : Fr B H (upd H p o) := Fr.of (same_new h)
/-- the first number of a state may be any -/
def AnyX (_ : Int) : Prop := True
/-- a state for draws -/
def StOk (H : Hp) (z : Addr) : Prop := ∃ x y : Int, H z = some (.lst [.int x, .int y]) ∧ AnyX x ∧ 0 ≤ y ∧ y < 2147483647
structure StW (W : Wld τ) (z : Addr) : Prop where
  b : W.B z
  ok : ∀ H, W.I H → StOk H z
  set : ∀ H x y, W.I H → AnyX x → 0 ≤ y → y < 2147483647 → W.I (upd H z (.lst [.int x, .int y]))
/-- what a slot holds, what a value is: un nothing is known; d data; ml a list of one's own (a value: a new list); bl a list that is read; st the state; raw just this -/
inductive Sl where
  | un
  | d (x : PyData)
  | ml (xs : List PyData)
  | bl (xs : List PyData)
  | st
  | scr (ns : List Int)
  | raw (v : V)
  | mo (o : OD)
  | bo (o : OD)
def Sl.dat : Sl → Option PyData
  | .d x => some x
  | .ml xs => some (.list xs)
  | .mo o => o.dat
  | _ => none
def Sl.seq : Sl → Option (List PyData)
  | .d (.list xs) => some xs
  | .ml xs => some xs
  | .bl xs => some xs
  | _ => none
def Sl.sq : Sl → Option (List PyData)
  | .d (.list xs) => some xs
  | .d (.tuple xs) => some xs
  | .ml xs => some xs
  | .bl xs => some xs
  | .scr ns => some (ns.map PyData.int)
  | _ => none
def vS : V → Sl
  | .non => .d .none
  | .bl b => .d (.bool b)
  | .int i => .d (.int i)
  | .str x => .d (.str x)
  | v => .raw v
def Sl.flat : Sl → Option V
  | .d .none => some .non
  | .d (.bool b) => some (.bl b)
  | .d (.int i) => some (.int i)
  | .d (.str x) => some (.str x)
  | .raw v => some v
  | _ => none
def SlR (K : PySem.W.Frag) (W : Wld τ) (A : Addr → Prop) (H : Hp) (v : Option V) : Sl → Prop
  | .un => True
  | .d x => ∃ u, v = some u ∧ Rp K A H u x
  | .ml xs => ∃ p vs, v = some (.ref p) ∧ H p = some (.lst vs) ∧ ¬ W.B p ∧ A p ∧ RpAll K A H vs xs
  | .bl xs => ∃ p vs, v = some (.ref p) ∧ SqLA K W.B H p vs ∧ RpAll K A H vs xs
  | .st => ∃ z, v = some (.ref z) ∧ StW W z
  | .scr ns => ∃ a, v = some (.ref a) ∧ ∀ H, W.I H → SqL K H a (ns.map V.int)
  | .raw u => v = some u
  | .mo o => ∃ p ho, v = some (.ref p) ∧ H p = some ho ∧ ¬ W.B p ∧ A p ∧ OdR K A H ho o
  | .bo o => ∃ p ho, v = some (.ref p) ∧ H p = some ho ∧ ¬ W.B p ∧ OdR K A H ho o
/-- a value, from H0 on -/
def VlR (K : PySem.W.Frag) (W : Wld τ) (A : Addr → Prop) (H0 H : Hp) (v : V) : Sl → Prop
  | .un => False
  | .d x => Rp K A H v x
  | .ml xs => ∃ p vs, v = .ref p ∧ ¬ Ob H0 p ∧ H p = some (.lst vs) ∧ RpAll K (fun a => A a ∨ a = p) H vs xs
  | .bl xs => ∃ p vs, v = .ref p ∧ SqLA K W.B H p vs ∧ RpAll K A H vs xs
  | .st => ∃ z, v = .ref z ∧ StW W z
  | .scr ns => ∃ a, v = .ref a ∧ ∀ H, W.I H → SqL K H a (ns.map V.int)
  | .raw u => v = u
  | .mo o => ∃ p ho, v = .ref p ∧ ¬ Ob H0 p ∧ H p = some ho ∧ OdR K (fun a => A a ∨ a = p) H ho o
  | .bo o => ∃ p ho, v = .ref p ∧ H p = some ho ∧ ¬ W.B p ∧ OdR K A H ho o
/-- a thing of one's own -/
def Sl.isOwn : Sl → Prop
  | .ml _ => True
  | .mo _ => True
  | _ => False
/-- one's own, or read -/
def Sl.foot : Sl → Prop
  | .ml _ => True
  | .mo _ => True
  | .bl _ => True
  | .bo _ => True
  | _ => False
structure EnvR (K : PySem.W.Frag) (W : Wld τ) (A : Addr → Prop) (H : Hp) (σ : L2.St) (ρ : List Sl) : Prop where
  len : σ.length = ρ.length
  at_ : ∀ (i : Nat) (s : Sl), ρ[i]? = some s → ∃ v, σ[i]? = some v ∧ SlR K W A H v s
  /-- a list of one's own is no other slot's list, and none that is read -/
  dis : ∀ (i j : Nat) (p : Addr) (t s : Sl), i ≠ j → ρ[i]? = some t → t.isOwn → ρ[j]? = some s → s.foot → σ[i]? = some (some (.ref p)) → σ[j]? = some (some (.ref p)) → False
structure Bs (W : Wld τ) (A : Addr → Prop) (H : Hp) : Prop where
  ba : ∀ a, W.B a → A a
  dom : ∀ a, A a → Ob H a
  inv : W.I H
  nt : ∀ (a : Addr) (xs : List V), A a → H a ≠ some (.tup xs)
theorem Bs.fr {W : Wld τ} {A : Addr → Prop} {H H' : Hp} (b : Bs W A H) (f : Fr W.B H H') (i : W.I H') : Bs W A H' := ⟨b.ba, fun a h => f.2 a (b.dom a h), i, fun a xs h e => by
  by_cases z : W.B a
  · exact W.nt _ i a xs z e
  · obtain ⟨o, e1, t1⟩ := b.dom a h
    rw [f.1 a o e1 t1 z] at e
    cases e
    exact b.nt a xs h e1⟩
theorem Bs.nB {W : Wld τ} {A : Addr → Prop} {H : Hp} {p : Addr} (b : Bs W A H) (h : ¬ Ob H p) : ¬ W.B p := fun z => h (b.dom p (b.ba p z))
theorem Bs.nA {W : Wld τ} {A : Addr → Prop} {H : Hp} {p : Addr} (b : Bs W A H) (h : ¬ Ob H p) : ¬ A p := fun z => h (b.dom p z)
theorem goes_fr {W : Wld τ} {A : Addr → Prop} {H H' : Hp} (b : ∀ a, W.B a → A a) (f : Fr W.B H H') : Goes A A H H' := fun c o h t n => ⟨f.1 c o h t fun z => n (b c z), n⟩
theorem goes_less {A A' : Addr → Prop} {H : Hp} (m : ∀ a, A' a → A a) : Goes A A' H H := fun b o e _ n => ⟨e, fun z => n (m b z)⟩
theorem sqB_fr {K : PySem.W.Frag} {W : Wld τ} {H H' : Hp} (f : Fr W.B H H') {p : Addr} {vs : List V} (h : SqLA K W.B H p vs) : SqLA K W.B H' p vs := sqLA_go (fun c o e t n => ⟨f.1 c o e t n, n⟩) h
theorem VlR.fr {K : PySem.W.Frag} {W : Wld τ} {A : Addr → Prop} {H0 H H' : Hp} {v : V} {s : Sl} (b : Bs W A H0) (h : VlR K W A H0 H v s) (f : Fr W.B H H') : VlR K W A H0 H' v s := by
  cases s with
  | un => exact h
  | d x => exact Rp.go (goes_fr b.ba f) h
  | ml xs =>
    obtain ⟨p, vs, e, n, e1, r⟩ := h
    exact ⟨p, vs, e, n, f.1 _ _ e1 nt_lst (b.nB n), r.go (goes_fr (fun a z => .inl (b.ba a z)) f)⟩
  | bl xs =>
    obtain ⟨p, vs, e, q, r⟩ := h
    exact ⟨p, vs, e, sqB_fr f q, r.go (goes_fr b.ba f)⟩
  | st => exact h
  | scr ns => exact h
  | raw u => exact h
  | mo o =>
    obtain ⟨p, ho, e, n, e1, r⟩ := h
    exact ⟨p, ho, e, n, f.1 _ _ e1 r.mb.nt (b.nB n), r.go (goes_fr (fun a z => .inl (b.ba a z)) f)⟩
  | bo o =>
    obtain ⟨p, ho, e, e1, n, r⟩ := h
    exact ⟨p, ho, e, f.1 _ _ e1 r.mb.nt n, n, r.go (goes_fr b.ba f)⟩
/-- fresh from an earlier heap on -/
theorem VlR.early {K : PySem.W.Frag} {W : Wld τ} {A : Addr → Prop} {H0 H1 H : Hp} {v : V} {s : Sl} (h : VlR K W A H1 H v s) (f : Fr W.B H0 H1) : VlR K W A H0 H v s := by
  cases s with
  | ml xs =>
    obtain ⟨p, vs, e, n, e1, r⟩ := h
    exact ⟨p, vs, e, fun z => n (f.2 p z), e1, r⟩
  | mo o =>
    obtain ⟨p, vs, e, n, e1, r⟩ := h
    exact ⟨p, vs, e, fun z => n (f.2 p z), e1, r⟩
  | _ => exact h
theorem SlR.fr {K : PySem.W.Frag} {W : Wld τ} {A : Addr → Prop} {H H' : Hp} {v : Option V} {s : Sl} (b : ∀ a, W.B a → A a) (h : SlR K W A H v s) (f : Fr W.B H H') : SlR K W A H' v s := by
  cases s with
  | un => exact h
  | d x =>
    obtain ⟨u, e, r⟩ := h
    exact ⟨u, e, r.go (goes_fr b f)⟩
  | ml xs =>
    obtain ⟨p, vs, e, e1, n, a, r⟩ := h
    exact ⟨p, vs, e, f.1 _ _ e1 nt_lst n, n, a, r.go (goes_fr b f)⟩
  | bl xs =>
    obtain ⟨p, vs, e, q, r⟩ := h
    exact ⟨p, vs, e, sqB_fr f q, r.go (goes_fr b f)⟩
  | st => exact h
  | scr ns => exact h
  | raw u => exact h
  | mo o =>
    obtain ⟨p, ho, e, e1, n, a, r⟩ := h
    exact ⟨p, ho, e, f.1 _ _ e1 r.mb.nt n, n, a, r.go (goes_fr b f)⟩
  | bo o =>
    obtain ⟨p, ho, e, e1, n, r⟩ := h
    exact ⟨p, ho, e, f.1 _ _ e1 r.mb.nt n, n, r.go (goes_fr b f)⟩
theorem EnvR.fr {K : PySem.W.Frag} {W : Wld τ} {A : Addr → Prop} {H H' : Hp} {σ : L2.St} {ρ : List Sl} (b : ∀ a, W.B a → A a) (h : EnvR K W A H σ ρ) (f : Fr W.B H H') : EnvR K W A H' σ ρ := ⟨h.len, fun i s e => by
  obtain ⟨v, e1, r⟩ := h.at_ i s e
  exact ⟨v, e1, r.fr b f⟩, h.dis⟩
theorem VlR.dat {K : PySem.W.Frag} {W : Wld τ} {A : Addr → Prop} {H0 H : Hp} {v : V} {s : Sl} {x : PyData} (b : Bs W A H0) (h : VlR K W A H0 H v s) (e : s.dat = some x) : Rp K A H v x := by
  cases s with
  | d y =>
    cases e
    exact h
  | ml xs =>
    cases e
    obtain ⟨p, vs, rfl, n, e1, r⟩ := h
    exact .lst ⟨e1, b.nA n⟩ (r.go (goes_less fun a z => .inl z))
  | mo o =>
    cases o with
    | dk kvs =>
      cases e
      obtain ⟨p, ho, rfl, n, e1, r⟩ := h
      cases ho with
      | dK ks =>
        have r1 := r.2.go (goes_less (A' := A) fun a z => .inl z)
        have k1 : kvs.map (fun p => keyD p.1) = ks.map fun p => keyD p.1 := by
          have := congrArg (List.map keyD) r.1
          rw [List.map_map, List.map_map] at this
          exact this.symm
        show Rp K A H (.ref p) (.dict ((kvs.map fun p => keyD p.1).zip (kvs.map (·.2))))
        rw [k1]
        exact .dct e1 (b.nA n) r1
      | _ => exact r.elim
    | dt kvs => cases e
  | _ => cases e
/-- what can be looked at as data: a list that is read, too -/
def Sl.rd : Sl → Option PyData
  | .d x => some x
  | .ml xs => some (.list xs)
  | .bl xs => some (.list xs)
  | _ => none
theorem VlR.rd {K : PySem.W.Frag} {W : Wld τ} {A : Addr → Prop} {H0 H : Hp} {v : V} {s : Sl} {x : PyData} (b : Bs W A H0) (h : VlR K W A H0 H v s) (e : s.rd = some x) : ∃ A' : Addr → Prop, Rp K A' H v x := by
  cases s with
  | d y =>
    cases e
    exact ⟨A, h⟩
  | ml xs =>
    cases e
    exact ⟨A, VlR.dat (s := .ml xs) b h rfl⟩
  | bl xs =>
    cases e
    obtain ⟨p, vs, rfl, q, r⟩ := h
    exact ⟨W.B, .lst q (r.go (goes_less fun a z => b.ba a z))⟩
  | _ => cases e
theorem VlR.seq {K : PySem.W.Frag} {W : Wld τ} {A : Addr → Prop} {H0 H : Hp} {v : V} {s : Sl} {xs : List PyData} (b : Bs W A H0) (h : VlR K W A H0 H v s) (e : s.seq = some xs) : ∃ p vs, v = .ref p ∧ SqLA K W.B H p vs ∧ RpAll K A H vs xs := by
  cases s with
  | d y =>
    cases y with
    | list ys =>
      cases e
      cases h with
      | lst q r => exact ⟨_, _, rfl, sqLA_go (fun c o e _ n => ⟨e, fun z => n (b.ba c z)⟩) q, r⟩
    | _ => cases e
  | ml ys =>
    cases e
    obtain ⟨p, vs, rfl, n, e1, r⟩ := h
    exact ⟨p, vs, rfl, ⟨e1, b.nB n⟩, r.go (goes_less fun a z => .inl z)⟩
  | bl ys =>
    cases e
    exact h
  | _ => cases e
theorem VlR.sq {K : PySem.W.Frag} {W : Wld τ} {A : Addr → Prop} {H0 H : Hp} {v : V} {s : Sl} {xs : List PyData} (b : Bs W A H0) (i : W.I H) (h : VlR K W A H0 H v s) (e : s.sq = some xs) : ∃ p vs, v = .ref p ∧ (SqL K H p vs ∨ SqT K H p vs) ∧ RpAll K A H vs xs := by
  cases s with
  | d y =>
    cases y with
    | list ys =>
      cases e
      cases h with
      | lst q r => exact ⟨_, _, rfl, .inl (sqLA_sq q), r⟩
    | tuple ys =>
      cases e
      cases h with
      | tup q r => exact ⟨_, _, rfl, .inr (sqTA_sq q), r⟩
    | _ => cases e
  | ml ys =>
    cases e
    obtain ⟨p, vs, rfl, n, e1, r⟩ := h
    exact ⟨p, vs, rfl, .inl (SqL.of e1), r.go (goes_less fun a z => .inl z)⟩
  | bl ys =>
    cases e
    obtain ⟨p, vs, rfl, q, r⟩ := h
    exact ⟨p, vs, rfl, .inl (sqLA_sq q), r⟩
  | scr ns =>
    cases e
    obtain ⟨a, rfl, q⟩ := h
    exact ⟨a, _, rfl, .inl (q H i), .of_ints ns⟩
  | _ => cases e
theorem VlR.flat {K : PySem.W.Frag} {W : Wld τ} {A : Addr → Prop} {H0 H : Hp} {v u : V} {s : Sl} (h : VlR K W A H0 H v s) (e : s.flat = some u) : v = u := by
  cases s with
  | d y => cases y <;> first | (cases e; cases h; rfl) | cases e
  | raw w =>
    cases e
    exact h
  | _ => cases e
theorem vlr_vS {K : PySem.W.Frag} {W : Wld τ} {A : Addr → Prop} {H0 H : Hp} (v : V) : VlR K W A H0 H v (vS v) := by
  cases v with
  | non => exact Rp.non
  | bl b => exact Rp.bl b
  | int i => exact Rp.int i
  | str x => exact Rp.str x
  | _ => rfl
/-- what a slot is as a value -/
def Sl.val : Sl → Sl
  | .ml xs => .bl xs
  | .mo o => .bo o
  | s => s
theorem SlR.val {K : PySem.W.Frag} {W : Wld τ} {A : Addr → Prop} {H0 H : Hp} {v : Option V} {s : Sl} (h : SlR K W A H v s) (hs : s ≠ .un) : ∃ u, v = some u ∧ VlR K W A H0 H u s.val := by
  cases s with
  | un => exact absurd rfl hs
  | d x => exact h
  | ml xs =>
    obtain ⟨p, vs, e, e1, n, _, r⟩ := h
    exact ⟨_, e, p, vs, rfl, ⟨e1, n⟩, r⟩
  | bl xs =>
    obtain ⟨p, vs, e, q, r⟩ := h
    exact ⟨_, e, p, vs, rfl, q, r⟩
  | st =>
    obtain ⟨z, e, q⟩ := h
    exact ⟨_, e, z, rfl, q⟩
  | scr ns =>
    obtain ⟨z, e, q⟩ := h
    exact ⟨_, e, z, rfl, q⟩
  | raw u => exact ⟨u, h, rfl⟩
  | mo o =>
    obtain ⟨p, ho, e, e1, n, _, r⟩ := h
    exact ⟨_, e, p, ho, rfl, e1, n, r⟩
  | bo o =>
    obtain ⟨p, ho, e, e1, n, r⟩ := h
    exact ⟨_, e, p, ho, rfl, e1, n, r⟩
end Dl

namespace Dl
open PySem PySem.Spec PyProof.Rows L2
abbrev Er := Addr × List (Str × PyData)
/-- what is raised: its class, its own dict -/
def ErR (K : PySem.W.Frag) (A : Addr → Prop) (H : Hp) (er : Er) (x : Option Addr) : Prop :=
  (er.2 = [] ∧ x = none) ∨ (er.2 ≠ [] ∧ ∃ d vs, x = some d ∧ H d = some (.xd ((er.2.map (·.1)).zip vs)) ∧ RpAll K A H vs (er.2.map (·.2)))
def ErK (K : PySem.W.Frag) (W : Wld τ) (A : Addr → Prop) (E : XK) (H : Hp) (R : Er → Prop) : Prop := ∀ er x H', Fr W.B H H' → W.I H' → ErR K A H' er x → R er → E (.ref er.1) x H'
theorem ErR.mono {K : PySem.W.Frag} {A A0 : Addr → Prop} {H : Hp} {er : Er} {x : Option Addr} (h : ErR K A H er x) (m : ∀ a, A0 a → A a) : ErR K A0 H er x := by
  rcases h with h | ⟨h1, d, vs, h2, h3, h4⟩
  · exact .inl h
  · exact .inr ⟨h1, d, vs, h2, h3, h4.go fun b o e _ n => ⟨e, fun z => n (m b z)⟩⟩
structure At (K : PySem.W.Frag) (W : Wld τ) (A : Addr → Prop) (E : XK) (H : Hp) (σ : L2.St) (ρ : List Sl) (R : Er → Prop) : Prop where
  bs : Bs W A H
  env : EnvR K W A H σ ρ
  er : ErK K W A E H R
theorem At.fr {K : PySem.W.Frag} {W : Wld τ} {A : Addr → Prop} {E : XK} {H H' : Hp} {σ : L2.St} {ρ : List Sl} {R : Er → Prop} (h : At K W A E H σ ρ R) (f : Fr W.B H H') (i : W.I H') : At K W A E H' σ ρ R :=
  ⟨h.bs.fr f i, h.env.fr h.bs.ba f, fun er x H2 f2 i2 e r => h.er er x H2 (f.trans f2) i2 e r⟩
/-- what is wanted of a value from H on -/
def Want (K : PySem.W.Frag) (W : Wld τ) (A : Addr → Prop) (H : Hp) (Qd : Sl → Prop) (Q : VK) : Prop := ∀ v H' s, Fr W.B H H' → W.I H' → VlR K W A H H' v s → Qd s → Q v H'
abbrev TD := List Sl → (Sl → Prop) → (Er → Prop) → Prop
abbrev TDT := List Sl → (Bool → Prop) → (Er → Prop) → Prop
abbrev TDA := List Sl → (List Sl → Prop) → (Er → Prop) → Prop
class RefE (K : PySem.W.Frag) (τ : List (Addr × Str)) (E : XK) (t : TE) (f : outParam TD) : Prop where
  go : ∀ (W : Wld τ) (A : Addr → Prop) (H : Hp) (σ : L2.St) (ρ : List Sl) (Qd : Sl → Prop) (R : Er → Prop) (Q : VK), At K W A E H σ ρ R → f ρ Qd R → Want K W A H Qd Q → t σ H Q
class RefT (K : PySem.W.Frag) (τ : List (Addr × Str)) (E : XK) (t : TT) (f : outParam TDT) : Prop where
  go : ∀ (W : Wld τ) (A : Addr → Prop) (H : Hp) (σ : L2.St) (ρ : List Sl) (Qd : Bool → Prop) (R : Er → Prop) (Q : Bool → Hp → Prop), At K W A E H σ ρ R → f ρ Qd R → (∀ b H', Fr W.B H H' → W.I H' → Qd b → Q b H') → t σ H Q
/-- values in a row -/
inductive VlsR (K : PySem.W.Frag) (W : Wld τ) (A : Addr → Prop) (H0 H : Hp) : List V → List Sl → Prop
  | nil : VlsR K W A H0 H [] []
  | cons {v : V} {vs : List V} {s : Sl} {ss : List Sl} : VlR K W A H0 H v s → VlsR K W A H0 H vs ss → VlsR K W A H0 H (v :: vs) (s :: ss)
theorem VlsR.early {K : PySem.W.Frag} {W : Wld τ} {A : Addr → Prop} {H0 H1 H : Hp} {vs : List V} {ss : List Sl} (h : VlsR K W A H1 H vs ss) (f : Fr W.B H0 H1) : VlsR K W A H0 H vs ss := by
  induction h with
  | nil => exact .nil
  | cons a _ ih => exact .cons (a.early f) ih
theorem VlsR.fr {K : PySem.W.Frag} {W : Wld τ} {A : Addr → Prop} {H0 H H' : Hp} {vs : List V} {ss : List Sl} (b : Bs W A H0) (h : VlsR K W A H0 H vs ss) (f : Fr W.B H H') : VlsR K W A H0 H' vs ss := by
  induction h with
  | nil => exact .nil
  | cons a _ ih => exact .cons (a.fr b f) ih
class RefA (K : PySem.W.Frag) (τ : List (Addr × Str)) (E : XK) (t : TA) (f : outParam TDA) : Prop where
  go : ∀ (W : Wld τ) (A : Addr → Prop) (H : Hp) (σ : L2.St) (ρ : List Sl) (Qd : List Sl → Prop) (R : Er → Prop) (Q : List V → Hp → Prop), At K W A E H σ ρ R → f ρ Qd R → (∀ vs H' ss, Fr W.B H H' → W.I H' → VlsR K W A H H' vs ss → Qd ss → Q vs H') → t σ H Q
/-- operators of two values; of one; built-in calls -/
class Ref2 (K : PySem.W.Frag) (r : R2) (f : outParam (Sl → Sl → (Sl → Prop) → Prop)) : Prop where
  go : ∀ {τ : List (Addr × Str)} (W : Wld τ) (A : Addr → Prop) (H0 H : Hp) (x y : V) (s u : Sl) (Qd : Sl → Prop) (Q : VK), Bs W A H0 → Fr W.B H0 H → W.I H → VlR K W A H0 H x s → VlR K W A H0 H y u → f s u Qd → Want K W A H Qd Q → r x y H Q
class Ref1 (K : PySem.W.Frag) (r : V → Hp → VK → Prop) (f : outParam (Sl → (Sl → Prop) → Prop)) : Prop where
  go : ∀ {τ : List (Addr × Str)} (W : Wld τ) (A : Addr → Prop) (H0 H : Hp) (x : V) (s : Sl) (Qd : Sl → Prop) (Q : VK), Bs W A H0 → Fr W.B H0 H → W.I H → VlR K W A H0 H x s → f s Qd → Want K W A H Qd Q → r x H Q
class RefC (K : PySem.W.Frag) (r : List V → Hp → VK → Prop) (f : outParam (List Sl → (Sl → Prop) → Prop)) : Prop where
  go : ∀ {τ : List (Addr × Str)} (W : Wld τ) (A : Addr → Prop) (H0 H : Hp) (xs : List V) (ss : List Sl) (Qd : Sl → Prop) (Q : VK), Bs W A H0 → Fr W.B H0 H → W.I H → VlsR K W A H0 H xs ss → f ss Qd → Want K W A H Qd Q → r xs H Q
theorem Want.here {K : PySem.W.Frag} {W : Wld τ} {A : Addr → Prop} {H : Hp} {Qd : Sl → Prop} {Q : VK} (h : Want K W A H Qd Q) (i : W.I H) (v : V) (q : Qd (vS v)) : Q v H := h v H _ (Fr.refl H) i (vlr_vS v) q
theorem Want.back {K : PySem.W.Frag} {W : Wld τ} {A : Addr → Prop} {H H1 : Hp} {Qd : Sl → Prop} {Q : VK} (h : Want K W A H Qd Q) (f : Fr W.B H H1) : Want K W A H1 Qd Q := fun v H' s f' i r q => h v H' s (f.trans f') i (r.early f) q
/-- a new list -/
theorem Want.lst {K : PySem.W.Frag} {W : Wld τ} {A : Addr → Prop} {H : Hp} {Qd : Sl → Prop} {Q : VK} {vs : List V} {ds : List PyData} (b : Bs W A H) (h : Want K W A H Qd Q) (r : RpAll K A H vs ds) (q : Qd (.ml ds)) : ∀ p, H p = none → Q (.ref p) (upd H p (.lst vs)) := fun p n =>
  h _ _ (.ml ds) (Fr.new n) (W.stay _ _ (same_new n) b.inv) ⟨p, vs, rfl, nob n, upd_same, r.go fun c o e _ nc => ⟨same_new n _ _ e, fun z => z.elim nc (ne_of_none e n)⟩⟩ q
theorem Want.tup {K : PySem.W.Frag} {W : Wld τ} {A : Addr → Prop} {H : Hp} {Qd : Sl → Prop} {Q : VK} {vs : List V} {ds : List PyData} (b : Bs W A H) (h : Want K W A H Qd Q) (r : RpAll K A H vs ds) (q : Qd (.d (.tuple ds))) : ∀ p, H p = none → Q (.ref p) (upd H p (.tup vs)) := fun p n =>
  h _ _ (.d (.tuple ds)) (Fr.new n) (W.stay _ _ (same_new n) b.inv) (Rp.tup ⟨upd_same, b.nA (nob n)⟩ (r.go (goes_fr b.ba (Fr.new n)))) q
/-! ### names, constants -/
def dVar (i : Nat) : TD := fun ρ Qd _ => match (ρ[i]?).getD .un with
  | .un => False
  | .d x => Qd (.d x)
  | .ml xs => Qd (.bl xs)
  | .bl xs => Qd (.bl xs)
  | .st => Qd .st
  | .scr ns => Qd (.scr ns)
  | .raw v => Qd (.raw v)
  | .mo o => Qd (.bo o)
  | .bo o => Qd (.bo o)
theorem dVar_iff {i : Nat} {ρ : List Sl} {Qd : Sl → Prop} {R : Er → Prop} (h : dVar i ρ Qd R) : ∃ s, ρ[i]? = some s ∧ s ≠ .un ∧ Qd s.val := by
  unfold dVar at h
  cases e : ρ[i]? with
  | none =>
    rw [e] at h
    exact h.elim
  | some s =>
    rw [e] at h
    cases s with
    | un => exact h.elim
    | _ => exact ⟨_, rfl, (fun z => nomatch z), h⟩
section
variable {K : PySem.W.Frag} {E : XK}
instance {i : Nat} : RefE K τ E (tVar i) (dVar i) := ⟨fun W A H σ ρ Qd R Q a h w => by
  obtain ⟨s, e, hs, q⟩ := dVar_iff h
  obtain ⟨v, e1, r⟩ := a.env.at_ _ _ e
  obtain ⟨u, rfl, r2⟩ := r.val (H0 := H) hs
  exact ⟨u, e1, w u H _ (Fr.refl H) a.bs.inv r2 q⟩⟩
def dC (v : V) : TD := fun _ Qd _ => Qd (vS v)
instance {v : V} : RefE K τ E (tC v) (dC v) := ⟨fun W A H σ ρ Qd R Q a h w => w.here a.bs.inv v h⟩
/-! ### operators -/
def dOp (f : Sl → Sl → (Sl → Prop) → Prop) (fa fb : TD) : TD := fun ρ Qd R => fa ρ (fun s => fb ρ (fun u => f s u Qd) R) R
instance {r : R2} {ta tb : TE} {f : Sl → Sl → (Sl → Prop) → Prop} {fa fb : TD} [ha : RefE K τ E ta fa] [hb : RefE K τ E tb fb] [h2 : Ref2 K r f] : RefE K τ E (tOp r ta tb) (dOp f fa fb) := ⟨fun W A H σ ρ Qd R Q a h w => by
  refine ha.go W A H σ ρ _ R _ a h fun x H1 s f1 i1 r1 q1 => ?_
  refine hb.go W A H1 σ ρ _ R _ (a.fr f1 i1) q1 fun y H2 u f2 i2 r2 q2 => ?_
  exact h2.go W A H H2 x y s u Qd Q a.bs (f1.trans f2) i2 (r1.fr a.bs f2) (r2.early f1) q2 (w.back (f1.trans f2))⟩
def dUn (f : Sl → (Sl → Prop) → Prop) (fa : TD) : TD := fun ρ Qd R => fa ρ (fun s => f s Qd) R
instance {r : V → Hp → VK → Prop} {ta : TE} {f : Sl → (Sl → Prop) → Prop} {fa : TD} [ha : RefE K τ E ta fa] [h1 : Ref1 K r f] : RefE K τ E (tUn r ta) (dUn f fa) := ⟨fun W A H σ ρ Qd R Q a h w => by
  refine ha.go W A H σ ρ _ R _ a h fun x H1 s f1 i1 r1 q1 => ?_
  exact h1.go W A H H1 x s Qd Q a.bs f1 i1 r1 q1 (w.back f1)⟩
def fI0 (g : Int → Int → V) : Sl → Sl → (Sl → Prop) → Prop := fun s u Qd => match s, u with
  | .d (.int i), .d (.int j) => Qd (vS (g i j))
  | _, _ => False
theorem fI0_iff {g : Int → Int → V} {s u : Sl} {Qd : Sl → Prop} (h : fI0 g s u Qd) : ∃ i j, s = .d (.int i) ∧ u = .d (.int j) ∧ Qd (vS (g i j)) := by
  unfold fI0 at h
  split at h
  · exact ⟨_, _, rfl, rfl, h⟩
  · exact h.elim
instance {g : Int → Int → V} : Ref2 K (rI0 g) (fI0 g) := ⟨fun W A H0 H x y s u Qd Q b f i rx ry h w => by
  obtain ⟨m, n, rfl, rfl, q⟩ := fI0_iff h
  exact ⟨m, n, rx.flat (u := .int m) rfl, ry.flat (u := .int n) rfl, w.here i _ q⟩⟩
def fI (C : Int → Int → Prop) (g : Int → Int → V) : Sl → Sl → (Sl → Prop) → Prop := fun s u Qd => match s, u with
  | .d (.int i), .d (.int j) => C i j ∧ Qd (vS (g i j))
  | _, _ => False
instance {C : Int → Int → Prop} {g : Int → Int → V} : Ref2 K (rI C g) (fI C g) := ⟨fun W A H0 H x y s u Qd Q b f i rx ry h w => by
  unfold fI at h
  split at h
  · rename_i m n
    exact ⟨m, n, rx.flat (u := .int m) rfl, ry.flat (u := .int n) rfl, h.1, w.here i _ h.2⟩
  · exact h.elim⟩
def fU (g : Int → V) : Sl → (Sl → Prop) → Prop := fun s Qd => match s with
  | .d (.int i) => Qd (vS (g i))
  | _ => False
instance {g : Int → V} : Ref1 K (rU g) (fU g) := ⟨fun W A H0 H x s Qd Q b f i rx h w => by
  unfold fU at h
  split at h
  · rename_i m
    exact ⟨m, rx.flat (u := .int m) rfl, w.here i _ h⟩
  · exact h.elim⟩
def fEq (neg : Bool) : Sl → Sl → (Sl → Prop) → Prop := fun s u Qd => match s.flat, u.flat with
  | some x, some y => scal x y = true ∧ Qd (.d (.bool (if neg then !decide (x = y) else decide (x = y))))
  | _, _ => False
theorem fEq_iff {neg : Bool} {s u : Sl} {Qd : Sl → Prop} (h : fEq neg s u Qd) : ∃ x y, s.flat = some x ∧ u.flat = some y ∧ scal x y = true ∧ Qd (.d (.bool (if neg then !decide (x = y) else decide (x = y)))) := by
  unfold fEq at h
  split at h
  · rename_i x y e1 e2
    exact ⟨x, y, e1, e2, h.1, h.2⟩
  · exact h.elim
instance : Ref2 K rEq (fEq false) := ⟨fun W A H0 H x y s u Qd Q b f i rx ry h w => by
  obtain ⟨m, n, e1, e2, sc, q⟩ := fEq_iff h
  obtain rfl := rx.flat e1
  obtain rfl := ry.flat e2
  exact ⟨sc, w.here i _ q⟩⟩
instance : Ref2 K rNe (fEq true) := ⟨fun W A H0 H x y s u Qd Q b f i rx ry h w => by
  obtain ⟨m, n, e1, e2, sc, q⟩ := fEq_iff h
  obtain rfl := rx.flat e1
  obtain rfl := ry.flat e2
  exact ⟨sc, w.here i _ q⟩⟩
/-- == of data of any depth -/
def fEqD (neg : Bool) : Sl → Sl → (Sl → Prop) → Prop := fun s u Qd => match s.rd, u.rd with
  | some x, some y => SeqAt.shaped x = true ∧ SeqAt.shaped y = true ∧ Qd (.d (.bool (if neg then !PyData.eqv x y else PyData.eqv x y)))
  | _, _ => False
theorem shaped_lay {d : PyData} (h : SeqAt.shaped d = true) : d.canLay0 = true := by
  unfold SeqAt.shaped at h
  rw [Bool.and_eq_true] at h
  exact h.1
theorem fEqD_iff {neg : Bool} {s u : Sl} {Qd : Sl → Prop} (h : fEqD neg s u Qd) : ∃ x y, s.rd = some x ∧ u.rd = some y ∧ SeqAt.shaped x = true ∧ SeqAt.shaped y = true ∧ Qd (.d (.bool (if neg then !PyData.eqv x y else PyData.eqv x y))) := by
  unfold fEqD at h
  split at h
  · rename_i x y e1 e2
    exact ⟨x, y, e1, e2, h.1, h.2.1, h.2.2⟩
  · exact h.elim
instance : Ref2 K (rEqD K) (fEqD false) := ⟨fun W A H0 H x y s u Qd Q b f i rx ry h w => by
  obtain ⟨m, n, e1, e2, s1, s2, q⟩ := fEqD_iff h
  obtain ⟨_, r1⟩ := rx.rd b e1
  obtain ⟨_, r2⟩ := ry.rd b e2
  exact ⟨m, n, r1.dp (shaped_lay s1), r2.dp (shaped_lay s2), s1, s2, w.here i _ q⟩⟩
instance : Ref2 K (rNeD K) (fEqD true) := ⟨fun W A H0 H x y s u Qd Q b f i rx ry h w => by
  obtain ⟨m, n, e1, e2, s1, s2, q⟩ := fEqD_iff h
  obtain ⟨_, r1⟩ := rx.rd b e1
  obtain ⟨_, r2⟩ := ry.rd b e2
  exact ⟨m, n, r1.dp (shaped_lay s1), r2.dp (shaped_lay s2), s1, s2, w.here i _ q⟩⟩
/-- is None -/
def Sl.isNon : Sl → Bool
  | .d .none => true
  | _ => false
def fIs (neg : Bool) : Sl → Sl → (Sl → Prop) → Prop := fun s u Qd => match s, u with
  | .d x, .d .none => Qd (.d (.bool (if neg then !(Sl.d x).isNon else (Sl.d x).isNon)))
  | .ml xs, .d .none => Qd (.d (.bool neg))
  | .bl xs, .d .none => Qd (.d (.bool neg))
  | _, _ => False
theorem rp_non {K : PySem.W.Frag} {A : Addr → Prop} {H : Hp} {v : V} {x : PyData} (h : Rp K A H v x) : decide (v = .non) = (Sl.d x).isNon := by
  cases h <;> rfl
theorem fIs_iff {neg : Bool} {s u : Sl} {Qd : Sl → Prop} {K : PySem.W.Frag} {W : Wld τ} {A : Addr → Prop} {H0 H : Hp} {v : V} (r : VlR K W A H0 H v s) (h : fIs neg s u Qd) : u = .d .none ∧ Qd (.d (.bool (if neg then !decide (v = .non) else decide (v = .non)))) := by
  unfold fIs at h
  split at h
  · rename_i x
    refine ⟨rfl, ?_⟩
    rw [rp_non r]
    exact h
  · obtain ⟨p, vs, rfl, _⟩ := r
    refine ⟨rfl, ?_⟩
    cases neg <;> exact h
  · obtain ⟨p, vs, rfl, _⟩ := r
    refine ⟨rfl, ?_⟩
    cases neg <;> exact h
  · exact h.elim
instance : Ref2 K (fun x y H Q => y = .non ∧ Q (.bl (decide (x = .non))) H) (fIs false) := ⟨fun W A H0 H x y s u Qd Q b f i rx ry h w => by
  obtain ⟨rfl, q⟩ := fIs_iff rx h
  exact ⟨ry.flat (u := .non) rfl, w.here i _ q⟩⟩
instance : Ref2 K (fun x y H Q => y = .non ∧ Q (.bl (!decide (x = .non))) H) (fIs true) := ⟨fun W A H0 H x y s u Qd Q b f i rx ry h w => by
  obtain ⟨rfl, q⟩ := fIs_iff rx h
  exact ⟨ry.flat (u := .non) rfl, w.here i _ q⟩⟩
/-! ### tests -/
def dTst (fe : TD) : TDT := fun ρ Qd R => fe ρ (fun s => match s with
  | .d (.bool b) => Qd b
  | _ => False) R
theorem dTst_iff {Qd : Bool → Prop} {s : Sl} (h : (match s with
  | .d (.bool b) => Qd b
  | _ => False)) : ∃ b, s = .d (.bool b) ∧ Qd b := by
  split at h
  · exact ⟨_, rfl, h⟩
  · exact h.elim
instance {t : TE} {f : TD} [ht : RefE K τ E t f] : RefT K τ E (tB t) (dTst f) := ⟨fun W A H σ ρ Qd R Q a h w => by
  refine ht.go W A H σ ρ _ R _ a h fun x H1 s f1 i1 r1 q1 => ?_
  obtain ⟨b, rfl, q⟩ := dTst_iff q1
  exact ⟨b, r1.flat (u := .bl b) rfl, w b H1 f1 i1 q⟩⟩
instance {t : TE} {f : TD} [ht : RefE K τ E t f] : RefT K τ E (tTest t) (dTst f) := ⟨fun W A H σ ρ Qd R Q a h w => by
  refine ht.go W A H σ ρ _ R _ a h fun x H1 s f1 i1 r1 q1 => ?_
  obtain ⟨b, rfl, q⟩ := dTst_iff q1
  exact ⟨b, r1.flat (u := .bl b) rfl, w b H1 f1 i1 q⟩⟩
def dNot (c : TDT) : TDT := fun ρ Qd R => c ρ (fun b => Qd (!b)) R
instance {t : TT} {c : TDT} [ht : RefT K τ E t c] : RefT K τ E (tNot t) (dNot c) := ⟨fun W A H σ ρ Qd R Q a h w => ht.go W A H σ ρ _ R _ a h fun b H1 f1 i1 q => w _ _ f1 i1 q⟩
def dAnd (c e : TDT) : TDT := fun ρ Qd R => c ρ (fun b => match b with
  | true => e ρ Qd R
  | false => Qd false) R
def dOr (c e : TDT) : TDT := fun ρ Qd R => c ρ (fun b => match b with
  | true => Qd true
  | false => e ρ Qd R) R
instance {t u : TT} {c e : TDT} [ht : RefT K τ E t c] [hu : RefT K τ E u e] : RefT K τ E (tAnd t u) (dAnd c e) := ⟨fun W A H σ ρ Qd R Q a h w => by
  refine ht.go W A H σ ρ _ R _ a h fun b H1 f1 i1 q => ?_
  cases b with
  | true => exact iteT (hu.go W A H1 σ ρ _ R _ (a.fr f1 i1) q fun b H2 f2 i2 q2 => w b H2 (f1.trans f2) i2 q2)
  | false => exact iteF (w false H1 f1 i1 q)⟩
instance {t u : TT} {c e : TDT} [ht : RefT K τ E t c] [hu : RefT K τ E u e] : RefT K τ E (tOr t u) (dOr c e) := ⟨fun W A H σ ρ Qd R Q a h w => by
  refine ht.go W A H σ ρ _ R _ a h fun b H1 f1 i1 q => ?_
  cases b with
  | true => exact iteT (w true H1 f1 i1 q)
  | false => exact iteF (hu.go W A H1 σ ρ _ R _ (a.fr f1 i1) q fun b H2 f2 i2 q2 => w b H2 (f1.trans f2) i2 q2)⟩
/-- and, or, not as values -/
def dAndV (fa fb : TD) : TD := fun ρ Qd R => dTst fa ρ (fun b => match b with
  | true => fb ρ Qd R
  | false => Qd (.d (.bool false))) R
def dOrV (fa fb : TD) : TD := fun ρ Qd R => dTst fa ρ (fun b => match b with
  | true => Qd (.d (.bool true))
  | false => fb ρ Qd R) R
def dNotV (fa : TD) : TD := fun ρ Qd R => dTst fa ρ (fun b => Qd (.d (.bool !b))) R
instance {t u : TE} {c e : TD} [ht : RefE K τ E t c] [hu : RefE K τ E u e] : RefE K τ E (tAndV t u) (dAndV c e) := ⟨fun W A H σ ρ Qd R Q a h w => by
  refine ht.go W A H σ ρ _ R _ a h fun x H1 s f1 i1 r1 q1 => ?_
  obtain ⟨b, rfl, q⟩ := dTst_iff (Qd := fun b => match b with
    | true => e ρ Qd R
    | false => Qd (.d (.bool false))) q1
  refine ⟨b, r1.flat (u := .bl b) rfl, ?_⟩
  cases b with
  | true => exact iteT (hu.go W A H1 σ ρ _ R _ (a.fr f1 i1) q (w.back f1))
  | false => exact iteF ((w.back f1).here i1 _ q)⟩
instance {t u : TE} {c e : TD} [ht : RefE K τ E t c] [hu : RefE K τ E u e] : RefE K τ E (tOrV t u) (dOrV c e) := ⟨fun W A H σ ρ Qd R Q a h w => by
  refine ht.go W A H σ ρ _ R _ a h fun x H1 s f1 i1 r1 q1 => ?_
  obtain ⟨b, rfl, q⟩ := dTst_iff (Qd := fun b => match b with
    | true => Qd (.d (.bool true))
    | false => e ρ Qd R) q1
  refine ⟨b, r1.flat (u := .bl b) rfl, ?_⟩
  cases b with
  | true => exact iteT ((w.back f1).here i1 _ q)
  | false => exact iteF (hu.go W A H1 σ ρ _ R _ (a.fr f1 i1) q (w.back f1))⟩
instance {t : TE} {c : TD} [ht : RefE K τ E t c] : RefE K τ E (tNotV t) (dNotV c) := ⟨fun W A H σ ρ Qd R Q a h w => by
  refine ht.go W A H σ ρ _ R _ a h fun x H1 s f1 i1 r1 q1 => ?_
  obtain ⟨b, rfl, q⟩ := dTst_iff (Qd := fun b => Qd (.d (.bool !b))) q1
  exact ⟨b, r1.flat (u := .bl b) rfl, (w.back f1).here i1 _ q⟩⟩
/-- a if t else b -/
def dIf (c : TDT) (fa fb : TD) : TD := fun ρ Qd R => c ρ (fun b => match b with
  | true => fa ρ Qd R
  | false => fb ρ Qd R) R
instance {t : TT} {ta tb : TE} {c : TDT} {fa fb : TD} [ht : RefT K τ E t c] [ha : RefE K τ E ta fa] [hb : RefE K τ E tb fb] : RefE K τ E (tIf t ta tb) (dIf c fa fb) := ⟨fun W A H σ ρ Qd R Q a h w => by
  refine ht.go W A H σ ρ _ R _ a h fun b H1 f1 i1 q => ?_
  cases b with
  | true => exact iteT (ha.go W A H1 σ ρ _ R _ (a.fr f1 i1) q (w.back f1))
  | false => exact iteF (hb.go W A H1 σ ρ _ R _ (a.fr f1 i1) q (w.back f1))⟩
/-- a < b < c -/
def dChain (f g : Sl → Sl → (Sl → Prop) → Prop) (fa fb fc : TD) : TD := fun ρ Qd R => fa ρ (fun s => fb ρ (fun u => f s u fun z => match z with
  | .d (.bool b) => (match b with
    | true => fc ρ (fun y => g u y Qd) R
    | false => Qd (.d (.bool false)))
  | _ => False) R) R
instance {r r' : R2} {ta tb tc : TE} {f g : Sl → Sl → (Sl → Prop) → Prop} {fa fb fc : TD} [ha : RefE K τ E ta fa] [hb : RefE K τ E tb fb] [hc : RefE K τ E tc fc] [h2 : Ref2 K r f] [h3 : Ref2 K r' g] : RefE K τ E (tChain r r' ta tb tc) (dChain f g fa fb fc) := ⟨fun W A H σ ρ Qd R Q a h w => by
  refine ha.go W A H σ ρ _ R _ a h fun x H1 s f1 i1 r1 q1 => ?_
  refine hb.go W A H1 σ ρ _ R _ (a.fr f1 i1) q1 fun y H2 u f2 i2 r2 q2 => ?_
  refine h2.go W A H H2 x y s u _ _ a.bs (f1.trans f2) i2 (r1.fr a.bs f2) (r2.early f1) q2 fun z H3 c f3 i3 r3 q3 => ?_
  obtain ⟨b, rfl, q⟩ := dTst_iff (Qd := fun b => match b with
    | true => fc ρ (fun y => g u y Qd) R
    | false => Qd (.d (.bool false))) q3
  have f13 := (f1.trans f2).trans f3
  refine ⟨b, r3.flat (u := .bl b) rfl, ?_⟩
  cases b with
  | true =>
    refine iteT (hc.go W A H3 σ ρ _ R _ (a.fr f13 i3) q fun y' H4 c' f4 i4 r4 q4 => ?_)
    exact h3.go W A H H4 y y' u c' Qd Q a.bs (f13.trans f4) i4 ((r2.early f1).fr a.bs (f3.trans f4)) (r4.early f13) q4 (w.back (f13.trans f4))
  | false => exact iteF ((w.back f13).here i3 _ q)⟩
/-! ### arguments, displays, built-in calls -/
def dNil : TDA := fun _ Qd _ => Qd []
def dCons (fa : TD) (fr : TDA) : TDA := fun ρ Qd R => fa ρ (fun s => fr ρ (fun ss => Qd (s :: ss)) R) R
instance : RefA K τ E tNil dNil := ⟨fun W A H σ ρ Qd R Q a h w => w [] H [] (Fr.refl H) a.bs.inv .nil h⟩
instance {ta : TE} {tr : TA} {fa : TD} {fr : TDA} [ha : RefE K τ E ta fa] [hr : RefA K τ E tr fr] : RefA K τ E (tCons ta tr) (dCons fa fr) := ⟨fun W A H σ ρ Qd R Q a h w => by
  refine ha.go W A H σ ρ _ R _ a h fun x H1 s f1 i1 r1 q1 => ?_
  refine hr.go W A H1 σ ρ _ R _ (a.fr f1 i1) q1 fun ys H2 ss f2 i2 r2 q2 => ?_
  exact w (x :: ys) H2 (s :: ss) (f1.trans f2) i2 (.cons (r1.fr a.bs f2) (r2.early f1)) q2⟩
/-- all of them data -/
def dats : List Sl → Option (List PyData)
  | [] => some []
  | s :: r => match s.dat, dats r with
    | some x, some xs => some (x :: xs)
    | _, _ => none
theorem VlsR.dats {W : Wld τ} {A : Addr → Prop} {H0 H : Hp} (b : Bs W A H0) {vs : List V} {ss : List Sl} (h : VlsR K W A H0 H vs ss) : ∀ {ds : List PyData}, Dl.dats ss = some ds → RpAll K A H vs ds := by
  induction h with
  | nil =>
    intro ds e
    cases e
    exact .nil
  | @cons v vs s ss h1 h2 ih =>
    intro ds e
    unfold Dl.dats at e
    split at e
    · rename_i x xs e1 e2
      cases e
      exact .cons (h1.dat b e1) (ih e2)
    · cases e
theorem VlsR.length {W : Wld τ} {A : Addr → Prop} {H0 H : Hp} {vs : List V} {ss : List Sl} (h : VlsR K W A H0 H vs ss) : vs.length = ss.length := by
  induction h with
  | nil => rfl
  | cons _ _ ih => rw [List.length_cons, List.length_cons, ih]
def dTup (fa : TDA) : TD := fun ρ Qd R => fa ρ (fun ss => ss.length ≤ sizeLine ∧ match dats ss with
  | some ds => Qd (.d (.tuple ds))
  | none => False) R
def dLst (fa : TDA) : TD := fun ρ Qd R => fa ρ (fun ss => ss.length ≤ sizeLine ∧ match dats ss with
  | some ds => Qd (.ml ds)
  | none => False) R
theorem dats_iff {ss : List Sl} {P : List PyData → Prop} (h : (match dats ss with
  | some ds => P ds
  | none => False)) : ∃ ds, dats ss = some ds ∧ P ds := by
  split at h
  · rename_i ds e
    exact ⟨ds, e, h⟩
  · exact h.elim
instance {t : TA} {fa : TDA} [ha : RefA K τ E t fa] : RefE K τ E (tTup t) (dTup fa) := ⟨fun W A H σ ρ Qd R Q a h w => by
  refine ha.go W A H σ ρ _ R _ a h fun vs H1 ss f1 i1 r1 q1 => ?_
  obtain ⟨hl, q⟩ := q1
  obtain ⟨ds, e, q⟩ := dats_iff (P := fun ds => Qd (.d (.tuple ds))) q
  exact ⟨by rw [r1.length]; exact hl, Want.tup (a.bs.fr f1 i1) (w.back f1) (r1.dats a.bs e) q⟩⟩
instance {t : TA} {fa : TDA} [ha : RefA K τ E t fa] : RefE K τ E (tLst t) (dLst fa) := ⟨fun W A H σ ρ Qd R Q a h w => by
  refine ha.go W A H σ ρ _ R _ a h fun vs H1 ss f1 i1 r1 q1 => ?_
  obtain ⟨hl, q⟩ := q1
  obtain ⟨ds, e, q⟩ := dats_iff (P := fun ds => Qd (.ml ds)) q
  exact ⟨by rw [r1.length]; exact hl, Want.lst (a.bs.fr f1 i1) (w.back f1) (r1.dats a.bs e) q⟩⟩
def dCB (f : List Sl → (Sl → Prop) → Prop) (fa : TDA) : TD := fun ρ Qd R => fa ρ (fun ss => f ss Qd) R
instance {r : List V → Hp → VK → Prop} {t : TA} {f : List Sl → (Sl → Prop) → Prop} {fa : TDA} [ha : RefA K τ E t fa] [hc : RefC K r f] : RefE K τ E (tCB r t) (dCB f fa) := ⟨fun W A H σ ρ Qd R Q a h w => by
  refine ha.go W A H σ ρ _ R _ a h fun vs H1 ss f1 i1 r1 q1 => ?_
  exact hc.go W A H H1 vs ss Qd Q a.bs f1 i1 r1 q1 (w.back f1)⟩
end
end Dl

namespace Dl
open PySem PySem.Spec PyProof.Rows L2
/-! ### slots -/
theorem EnvR.pre {K : PySem.W.Frag} {W : Wld τ} {A : Addr → Prop} {H : Hp} {σ gσ : L2.St} {ρ gρ : List Sl} (h : EnvR K W A H (σ ++ gσ) (ρ ++ gρ)) (hl : σ.length = ρ.length) : EnvR K W A H σ ρ := by
  have up : ∀ {i : Nat} {s : Sl}, ρ[i]? = some s → (ρ ++ gρ)[i]? = some s ∧ (σ ++ gσ)[i]? = σ[i]? := fun {i s} e => by
    have hi := (List.getElem?_eq_some_iff.mp e).1
    exact ⟨by rw [List.getElem?_append_left hi]; exact e, List.getElem?_append_left (by omega)⟩
  refine ⟨hl, fun i s e => ?_, fun i j p t s ne e1 e0 e2 e3 e4 e5 => ?_⟩
  · obtain ⟨v, e1, r⟩ := h.at_ i s (up e).1
    rw [(up e).2] at e1
    exact ⟨v, e1, r⟩
  · exact h.dis i j p t s ne (up e1).1 e0 (up e2).1 e3 ((up e1).2.trans e4) ((up e2).2.trans e5)
theorem get_set {α : Type} {xs : List α} {i j : Nat} {x y : α} (h : (xs.set i x)[j]? = some y) : (i = j ∧ y = x ∧ i < xs.length) ∨ (i ≠ j ∧ xs[j]? = some y) := by
  rw [List.getElem?_set] at h
  split at h
  · rename_i e
    split at h
    · rename_i hl
      exact .inl ⟨e, (Option.some.inj h).symm, hl⟩
    · cases h
  · rename_i e
    exact .inr ⟨e, h⟩
/-- what is no list of one's own and none that is read -/
def Sl.plain : Sl → Prop
  | .ml _ => False
  | .bl _ => False
  | .mo _ => False
  | .bo _ => False
  | _ => True
theorem plain_own {s : Sl} (h : s.plain) (k : s.isOwn) : False := by cases s <;> first | exact h | exact k
theorem plain_foot {s : Sl} (h : s.plain) (k : s.foot) : False := by cases s <;> first | exact h | exact k
/-- what is its own stands in the heap -/
theorem foot_ob {K : PySem.W.Frag} {W : Wld τ} {A : Addr → Prop} {H : Hp} {p : Addr} {s : Sl} (h : SlR K W A H (some (.ref p)) s) (k : s.foot) : Ob H p := by
  cases s with
  | ml xs =>
    obtain ⟨q, vs, e, e1, _⟩ := h
    cases e
    exact ⟨_, e1, nt_lst⟩
  | bl xs =>
    obtain ⟨q, vs, e, e1, _⟩ := h
    cases e
    exact ⟨_, e1.1, nt_lst⟩
  | mo o =>
    obtain ⟨q, ho, e, e1, _, _, r⟩ := h
    cases e
    exact ⟨_, e1, r.mb.nt⟩
  | bo o =>
    obtain ⟨q, ho, e, e1, _, r⟩ := h
    cases e
    exact ⟨_, e1, r.mb.nt⟩
  | _ => exact k.elim
theorem foot_nt {K : PySem.W.Frag} {W : Wld τ} {A : Addr → Prop} {H : Hp} {p : Addr} {s : Sl} {xs : List V} (h : SlR K W A H (some (.ref p)) s) (k : s.foot) : H p ≠ some (.tup xs) := fun z => by
  cases s with
  | ml ys =>
    obtain ⟨q, vs, e, e1, _⟩ := h
    cases e
    rw [e1] at z
    cases z
  | bl ys =>
    obtain ⟨q, vs, e, e1, _⟩ := h
    cases e
    rw [e1.1] at z
    cases z
  | mo o =>
    obtain ⟨q, ho, e, e1, _, _, r⟩ := h
    cases e
    rw [e1] at z
    cases z
    cases o <;> exact r.elim
  | bo o =>
    obtain ⟨q, ho, e, e1, _, r⟩ := h
    cases e
    rw [e1] at z
    cases z
    cases o <;> exact r.elim
  | _ => exact k.elim
theorem own_foot {s : Sl} (h : s.isOwn) : s.foot := by cases s <;> first | trivial | exact h.elim
theorem EnvR.set {K : PySem.W.Frag} {W : Wld τ} {A : Addr → Prop} {H : Hp} {σ : L2.St} {ρ : List Sl} {i : Nat} {v : Option V} {s : Sl} (h : EnvR K W A H σ ρ) (hs : s.plain) (r : SlR K W A H v s) : EnvR K W A H (σ.set i v) (ρ.set i s) := by
  refine ⟨by rw [List.length_set, List.length_set, h.len], fun j u e => ?_, fun j k p t u ne e1 e0 e2 e3 e4 e5 => ?_⟩
  · rcases get_set e with ⟨rfl, rfl, hl⟩ | ⟨ne, e⟩
    · exact ⟨v, by rw [List.getElem?_set_self (by rw [h.len]; exact hl)], r⟩
    · obtain ⟨w, e1, r1⟩ := h.at_ j u e
      exact ⟨w, by rw [List.getElem?_set_ne ne]; exact e1, r1⟩
  · rcases get_set e1 with ⟨rfl, e, _⟩ | ⟨n1, e1⟩
    · rw [← e] at hs
      exact plain_own hs e0
    · rcases get_set e2 with ⟨rfl, e, _⟩ | ⟨n2, e2⟩
      · rw [← e] at hs
        exact plain_foot hs e3
      · rw [List.getElem?_set_ne n1] at e4
        rw [List.getElem?_set_ne n2] at e5
        exact h.dis j k p t u ne e1 e0 e2 e3 e4 e5
theorem set_app {α : Type} {xs ys : List α} {i : Nat} {x : α} (h : i < xs.length) : xs.set i x ++ ys = (xs ++ ys).set i x := by rw [List.set_append_left _ _ h]
theorem EnvR.setA {K : PySem.W.Frag} {W : Wld τ} {A : Addr → Prop} {H : Hp} {σ gσ : L2.St} {ρ gρ : List Sl} {i : Nat} {v : Option V} {s : Sl} (h : EnvR K W A H (σ ++ gσ) (ρ ++ gρ)) (hl : σ.length = ρ.length) (hs : s.plain) (r : SlR K W A H v s) : EnvR K W A H (σ.set i v ++ gσ) (ρ.set i s ++ gρ) := by
  by_cases hi : i < σ.length
  · rw [set_app hi, set_app (by omega)]
    exact h.set hs r
  · rw [List.set_eq_of_length_le (by omega), List.set_eq_of_length_le (by omega)]
    exact h
/-- a new list becomes a slot's own -/
theorem EnvR.own {K : PySem.W.Frag} {W : Wld τ} {A : Addr → Prop} {Hs H : Hp} {σ : L2.St} {ρ : List Sl} {i : Nat} {p : Addr} {s : Sl} (h : EnvR K W A Hs σ ρ) (b : Bs W A Hs) (f : Fr W.B Hs H) (n : ¬ Ob Hs p) (r : SlR K W (fun a => A a ∨ a = p) H (some (.ref p)) s) :
    EnvR K W (fun a => A a ∨ a = p) H (σ.set i (some (.ref p))) (ρ.set i s) := by
  have ba : ∀ a, W.B a → A a ∨ a = p := fun a z => .inl (b.ba a z)
  have g : Goes A (fun a => A a ∨ a = p) Hs Hs := fun c o ec t nc => ⟨ec, fun z => z.elim nc (ne_nob ec t n)⟩
  have up : ∀ {v : Option V} {s : Sl}, SlR K W A Hs v s → SlR K W (fun a => A a ∨ a = p) H v s := fun {v s} q => by
    refine SlR.fr (H := Hs) ba ?_ f
    cases s with
    | un => exact q
    | d x =>
      obtain ⟨u, e1, r1⟩ := q
      exact ⟨u, e1, r1.go g⟩
    | ml ys =>
      obtain ⟨q', us, e1, e2, e3, e4, e5⟩ := q
      exact ⟨q', us, e1, e2, e3, .inl e4, e5.go g⟩
    | bl ys =>
      obtain ⟨q', us, e1, e2, e3⟩ := q
      exact ⟨q', us, e1, e2, e3.go g⟩
    | st => exact q
    | scr ns => exact q
    | raw u => exact q
    | mo o =>
      obtain ⟨q', us, e1, e2, e3, e4, e5⟩ := q
      exact ⟨q', us, e1, e2, e3, .inl e4, e5.go g⟩
    | bo o =>
      obtain ⟨q', us, e1, e2, e3, e4⟩ := q
      exact ⟨q', us, e1, e2, e3, e4.go g⟩
  refine ⟨by rw [List.length_set, List.length_set, h.len], fun j u ej => ?_, fun j k q t u ne e1 e0 e2 e3 e4 e5 => ?_⟩
  · rcases get_set ej with ⟨rfl, rfl, hl⟩ | ⟨ne, ej⟩
    · exact ⟨some (.ref p), by rw [List.getElem?_set_self (by rw [h.len]; exact hl)], r⟩
    · obtain ⟨w, e1, r1⟩ := h.at_ j u ej
      exact ⟨w, by rw [List.getElem?_set_ne ne]; exact e1, up r1⟩
  · have noml : ∀ {j : Nat} {u : Sl}, ρ[j]? = some u → u.foot → σ[j]? = some (some (.ref p)) → False := fun {j u} ej ku vj => by
      obtain ⟨w, e1, q'⟩ := h.at_ _ _ ej
      rw [vj] at e1
      cases e1
      exact n (foot_ob q' ku)
    rcases get_set e1 with ⟨rfl, ee, hl⟩ | ⟨n1, e1⟩
    · rw [List.getElem?_set_self (by rw [h.len]; exact hl)] at e4
      cases e4
      rcases get_set e2 with ⟨z, _, _⟩ | ⟨n2, e2⟩
      · exact ne z
      · rw [List.getElem?_set_ne n2] at e5
        exact noml e2 e3 e5
    · rw [List.getElem?_set_ne n1] at e4
      rcases get_set e2 with ⟨rfl, ee, hl⟩ | ⟨n2, e2⟩
      · rw [List.getElem?_set_self (by rw [h.len]; exact hl)] at e5
        cases e5
        exact noml e1 (own_foot e0) e4
      · rw [List.getElem?_set_ne n2] at e5
        exact h.dis j k q t u ne e1 e0 e2 e3 e4 e5
end Dl

namespace Dl
open PySem PySem.Spec PyProof.Rows L2
/-! ### where a statement stands -/
/-- the world grows: new states -/
structure WLe (W0 : Wld τ) (H0 : Hp) (W : Wld τ) : Prop where
  up : ∀ a, W0.B a → W.B a
  dn : ∀ a, W.B a → W0.B a ∨ ¬ Ob H0 a
  inv : ∀ H, W.I H → W0.I H
theorem WLe.refl (W : Wld τ) (H : Hp) : WLe W H W := ⟨fun _ h => h, fun _ h => .inl h, fun _ h => h⟩
theorem WLe.fr {W0 W : Wld τ} {H0 H H' : Hp} (l : WLe W0 H0 W) (f : Fr W0.B H0 H) (g : Fr W.B H H') : Fr W0.B H0 H' := ⟨fun b o e t n => g.1 b o (f.1 b o e t n) t fun z => (l.dn b z).elim n (fun q => q ⟨o, e, t⟩), fun b h => g.2 b (f.2 b h)⟩
structure Cor (K : PySem.W.Frag) (W0 : Wld τ) (A0 : Addr → Prop) (H0 : Hp) (W : Wld τ) (A : Addr → Prop) (H : Hp) (σ : L2.St) (ρ : List Sl) (gσ : L2.St) (gρ : List Sl) : Prop where
  wl : WLe W0 H0 W
  a0 : ∀ a, A0 a → A a
  bs : Bs W A H
  fr : Fr W0.B H0 H
  env : EnvR K W A H (σ ++ gσ) (ρ ++ gρ)
  lg : σ.length = ρ.length
  new : ∀ (i : Nat) (p : Addr) (s : Sl), ρ[i]? = some s → s.isOwn → σ[i]? = some (some (.ref p)) → ¬ Ob H0 p
def SR (K : PySem.W.Frag) (W0 : Wld τ) (A0 : Addr → Prop) (H0 H : Hp) (σ : L2.St) (ρ : List Sl) (gσ : L2.St) (gρ : List Sl) : Prop := ∃ W A, Cor K W0 A0 H0 W A H σ ρ gσ gρ
structure DEnds where
  nx : List Sl → Prop
  rt : Sl → Prop
  bk : List Sl → Prop := fun _ => False
  ct : List Sl → Prop := fun _ => False
abbrev TDS := DEnds → (Er → Prop) → List Sl → Prop
structure EndR (K : PySem.W.Frag) (W : Wld τ) (A0 : Addr → Prop) (H0 : Hp) (gσ : L2.St) (gρ : List Sl) (D : Ends) (dd : DEnds) : Prop where
  nx : ∀ H σ ρ, SR K W A0 H0 H σ ρ gσ gρ → dd.nx ρ → D.nx σ H
  rt : ∀ v H s, Fr W.B H0 H → W.I H → VlR K W A0 H0 H v s → dd.rt s → D.rt v H
  bk : ∀ H σ ρ, SR K W A0 H0 H σ ρ gσ gρ → dd.bk ρ → D.bk σ H
  ct : ∀ H σ ρ, SR K W A0 H0 H σ ρ gσ gρ → dd.ct ρ → D.ct σ H
class RefS (K : PySem.W.Frag) (τ : List (Addr × Str)) (E : XK) (t : TS) (g : outParam TDS) : Prop where
  go : ∀ (W : Wld τ) (A0 : Addr → Prop) (H0 : Hp) (D : Ends) (dd : DEnds) (R : Er → Prop) (H : Hp) (σ : L2.St) (ρ : List Sl) (gσ : L2.St) (gρ : List Sl), Bs W A0 H0 → SR K W A0 H0 H σ ρ gσ gρ → EndR K W A0 H0 gσ gρ D dd → ErK K W A0 E H0 R → g dd R ρ → t D σ H
section
variable {K : PySem.W.Frag} {E : XK} {W0 W : Wld τ} {A A0 : Addr → Prop} {H0 H H' : Hp} {σ gσ : L2.St} {ρ gρ : List Sl} {R : Er → Prop}
theorem Cor.at_ (c : Cor K W0 A0 H0 W A H σ ρ gσ gρ) (er : ErK K W0 A0 E H0 R) : At K W A E H σ ρ R := ⟨c.bs, c.env.pre c.lg, fun e x H' f i z r => er e x H' (c.wl.fr c.fr f) (c.wl.inv _ i) (z.mono c.a0) r⟩
theorem Cor.step (c : Cor K W0 A0 H0 W A H σ ρ gσ gρ) (f : Fr W.B H H') (i : W.I H') : Cor K W0 A0 H0 W A H' σ ρ gσ gρ := ⟨c.wl, c.a0, c.bs.fr f i, c.wl.fr c.fr f, c.env.fr c.bs.ba f, c.lg, c.new⟩
theorem VlR.down {H1 : Hp} {v : V} {s : Sl} (m : ∀ a, A0 a → A a) (h : VlR K W A H1 H v s) : VlR K W A0 H1 H v s := by
  cases s with
  | un => exact h
  | d x => exact Rp.go (goes_less m) h
  | ml xs =>
    obtain ⟨p, vs, e, n, e1, r⟩ := h
    exact ⟨p, vs, e, n, e1, r.go (goes_less fun a z => z.imp (m a) id)⟩
  | bl xs =>
    obtain ⟨p, vs, e, q, r⟩ := h
    exact ⟨p, vs, e, q, r.go (goes_less m)⟩
  | st => exact h
  | scr ns => exact h
  | raw u => exact h
  | mo o =>
    obtain ⟨p, vs, e, n, e1, r⟩ := h
    exact ⟨p, vs, e, n, e1, r.go (goes_less fun a z => z.imp (m a) id)⟩
  | bo o =>
    obtain ⟨p, vs, e, e1, n, r⟩ := h
    exact ⟨p, vs, e, e1, n, r.go (goes_less m)⟩
theorem VlR.early' {H1 : Hp} {v : V} {s : Sl} (h : VlR K W A H1 H v s) (f : ∀ p, ¬ Ob H1 p → ¬ Ob H0 p) : VlR K W A H0 H v s := by
  cases s with
  | ml xs =>
    obtain ⟨p, vs, e, n, e1, r⟩ := h
    exact ⟨p, vs, e, f p n, e1, r⟩
  | mo o =>
    obtain ⟨p, vs, e, n, e1, r⟩ := h
    exact ⟨p, vs, e, f p n, e1, r⟩
  | _ => exact h
/-! ### blocks -/
def dNext : TDS := fun dd _ ρ => dd.nx ρ
def dSeq (g h : TDS) : TDS := fun dd R ρ => g { dd with nx := h dd R } R ρ
instance : RefS K τ E tNext dNext := ⟨fun W A0 H0 D dd R H σ ρ gσ gρ b sr er _ h => er.nx H σ ρ sr h⟩
instance {t u : TS} {g h : TDS} [ht : RefS K τ E t g] [hu : RefS K τ E u h] : RefS K τ E (tSeq t u) (dSeq g h) := ⟨fun W A0 H0 D dd R H σ ρ gσ gρ b sr er ek q => by
  exact ht.go W A0 H0 { D with nx := u D } { dd with nx := h dd R } R H σ ρ gσ gρ b sr ⟨fun H1 σ1 ρ1 s1 q1 => hu.go W A0 H0 D dd R H1 σ1 ρ1 gσ gρ b s1 er ek q1, er.rt, er.bk, er.ct⟩ ek q⟩
def dBreak : TDS := fun dd _ ρ => dd.bk ρ
def dCont : TDS := fun dd _ ρ => dd.ct ρ
instance : RefS K τ E tBreak dBreak := ⟨fun W A0 H0 D dd R H σ ρ gσ gρ b sr er _ h => er.bk H σ ρ sr h⟩
instance : RefS K τ E tCont dCont := ⟨fun W A0 H0 D dd R H σ ρ gσ gρ b sr er _ h => er.ct H σ ρ sr h⟩
def dDrop (fe : TD) : TDS := fun dd R ρ => fe ρ (fun _ => dd.nx ρ) R
instance {t : TE} {f : TD} [ht : RefE K τ E t f] : RefS K τ E (tDrop t) (dDrop f) := ⟨fun W A0 H0 D dd R H σ ρ gσ gρ b sr er ek h => by
  obtain ⟨W', A, c⟩ := sr
  exact ht.go W' A H σ ρ _ R _ (c.at_ ek) h fun v H1 s f1 i1 r1 q => er.nx H1 σ ρ ⟨W', A, c.step f1 i1⟩ q⟩
/-- what may be handed on -/
def Sl.out : Sl → Prop
  | .un => False
  | .bl _ => False
  | .bo _ => False
  | _ => True
def dRet (fe : TD) : TDS := fun dd R ρ => fe ρ (fun s => match s with
  | .bl _ => False
  | .st => False
  | .scr _ => False
  | .bo _ => False
  | s => dd.rt s) R
theorem VlR.home {H1 : Hp} {v : V} {s : Sl} (h : VlR K W A H1 H v s) (n1 : ∀ xs, s ≠ .bl xs) (n2 : s ≠ .st) (n3 : ∀ ns, s ≠ .scr ns) (n4 : ∀ o, s ≠ .bo o) : VlR K W0 A H1 H v s := by
  cases s with
  | bl xs => exact absurd rfl (n1 xs)
  | st => exact absurd rfl n2
  | scr ns => exact absurd rfl (n3 ns)
  | bo o => exact absurd rfl (n4 o)
  | _ => exact h
instance {t : TE} {f : TD} [ht : RefE K τ E t f] : RefS K τ E (tRet t) (dRet f) := ⟨fun W A0 H0 D dd R H σ ρ gσ gρ b sr er ek h => by
  obtain ⟨W', A, c⟩ := sr
  refine ht.go W' A H σ ρ _ R _ (c.at_ ek) h fun v H1 s f1 i1 r1 q => ?_
  have n0 : ∀ p, ¬ Ob H p → ¬ Ob H0 p := fun p n z => n (c.fr.2 p z)
  have fin : (∀ xs, s ≠ .bl xs) → s ≠ .st → (∀ ns, s ≠ .scr ns) → (∀ o, s ≠ .bo o) → dd.rt s → D.rt v H1 := fun n1 n2 n3 n4 q' => by
    refine er.rt v H1 s (c.wl.fr c.fr f1) (c.wl.inv _ i1) (((VlR.home (W0 := W) r1 n1 n2 n3 n4).early' n0).down c.a0) q'
  cases s with
  | bl xs => exact q.elim
  | st => exact q.elim
  | scr ns => exact q.elim
  | bo o => exact q.elim
  | _ => exact fin (fun _ z => nomatch z) (fun z => nomatch z) (fun _ z => nomatch z) (fun _ z => nomatch z) q⟩
def dRetN : TDS := fun dd _ _ => dd.rt (.d .none)
instance : RefS K τ E tRetN dRetN := ⟨fun W A0 H0 D dd R H σ ρ gσ gρ b sr er ek h => by
  obtain ⟨W', A, c⟩ := sr
  exact er.rt .non H (.d .none) c.fr (c.wl.inv _ c.bs.inv) Rp.non h⟩
def dIfS (c : TDT) (g h : TDS) : TDS := fun dd R ρ => c ρ (fun b => match b with
  | true => g dd R ρ
  | false => h dd R ρ) R
instance {c : TT} {t u : TS} {fc : TDT} {g h : TDS} [hc : RefT K τ E c fc] [ht : RefS K τ E t g] [hu : RefS K τ E u h] : RefS K τ E (tIfS c t u) (dIfS fc g h) := ⟨fun W A0 H0 D dd R H σ ρ gσ gρ b sr er ek q => by
  obtain ⟨W', A, co⟩ := sr
  refine hc.go W' A H σ ρ _ R _ (co.at_ ek) q fun k H1 f1 i1 q1 => ?_
  cases k with
  | true => exact iteT (ht.go W A0 H0 D dd R H1 σ ρ gσ gρ b ⟨W', A, co.step f1 i1⟩ er ek q1)
  | false => exact iteF (hu.go W A0 H0 D dd R H1 σ ρ gσ gρ b ⟨W', A, co.step f1 i1⟩ er ek q1)⟩
def dNever : TDS := fun _ _ _ => False
instance : RefS K τ E tNever dNever := ⟨fun W A0 H0 D dd R H σ ρ gσ gρ b sr er ek q => q⟩
instance : RefS K τ E (fun _ _ _ => False) dNever := ⟨fun W A0 H0 D dd R H σ ρ gσ gρ b sr er ek q => q⟩
instance : RefE K τ E (fun _ _ _ => False) (fun _ _ _ => False) := ⟨fun W A H σ ρ Qd R Q a h w => h⟩
/-! ### a name is set -/
def dSet (i : Nat) (fe : TD) : TDS := fun dd R ρ => fe ρ (fun s => match s with
  | .un => False
  | .bl _ => False
  | .bo _ => False
  | s => dd.nx (ρ.set i s)) R
theorem Cor.set (c : Cor K W0 A0 H0 W A H σ ρ gσ gρ) {i : Nat} {v : V} {s : Sl} (hs : s.plain) (r : SlR K W A H (some v) s) : Cor K W0 A0 H0 W A H (σ.set i (some v)) (ρ.set i s) gσ gρ := by
  refine ⟨c.wl, c.a0, c.bs, c.fr, c.env.setA c.lg hs r, by rw [List.length_set, List.length_set, c.lg], fun j p t e1 e0 e2 => ?_⟩
  rcases get_set e1 with ⟨rfl, e, _⟩ | ⟨n, e1⟩
  · rw [← e] at hs
    exact (plain_own hs e0).elim
  · rw [List.getElem?_set_ne n] at e2
    exact c.new j p t e1 e0 e2
theorem Cor.own (c : Cor K W0 A0 H0 W A H σ ρ gσ gρ) {H1 : Hp} {i : Nat} {p : Addr} {s : Sl} (f1 : Fr W.B H H1) (i1 : W.I H1) (n : ¬ Ob H p) (r : SlR K W (fun a => A a ∨ a = p) H1 (some (.ref p)) s) (k : s.foot) :
    Cor K W0 A0 H0 W (fun a => A a ∨ a = p) H1 (σ.set i (some (.ref p))) (ρ.set i s) gσ gρ := by
  have c1 := c.step f1 i1
  have n0 : ¬ Ob H0 p := fun z => n (c.fr.2 p z)
  refine ⟨c.wl, fun a z => .inl (c.a0 a z), ⟨fun a z => .inl (c.bs.ba a z), fun a z => ?_, i1, fun a xs z e => z.elim (fun z => c1.bs.nt a xs z e) fun z => foot_nt r k (z ▸ e)⟩, c1.fr, ?_, by rw [List.length_set, List.length_set, c.lg], fun j q t e2 e0 e3 => ?_⟩
  · rcases z with z | rfl
    · exact c1.bs.dom a z
    · exact foot_ob r k
  · by_cases hi : i < σ.length
    · rw [set_app hi, set_app (by rw [← c.lg]; exact hi)]
      exact c.env.own c.bs f1 n r
    · rw [List.set_eq_of_length_le (by omega), List.set_eq_of_length_le (by rw [← c.lg]; omega)]
      have := c.env.own (i := σ.length + gσ.length) c.bs f1 n r
      rw [List.set_eq_of_length_le (by simp), List.set_eq_of_length_le (by have := c.env.len; simp only [List.length_append] at this ⊢; omega)] at this
      exact this
  · rcases get_set e2 with ⟨rfl, _, hl⟩ | ⟨ne, e2⟩
    · rw [List.getElem?_set_self (by rw [c.lg]; exact hl)] at e3
      cases e3
      exact n0
    · rw [List.getElem?_set_ne ne] at e3
      exact c.new j q t e2 e0 e3
instance {i : Nat} {t : TE} {f : TD} [ht : RefE K τ E t f] : RefS K τ E (tAsg t (gName i)) (dSet i f) := ⟨fun W A0 H0 D dd R H σ ρ gσ gρ b sr er ek h => by
  obtain ⟨W', A, c⟩ := sr
  refine ht.go W' A H σ ρ _ R _ (c.at_ ek) h fun v H1 s f1 i1 r1 q => ?_
  show D.nx (σ.set i (some v)) H1
  have c1 := c.step f1 i1
  cases s with
  | un => exact q.elim
  | bl xs => exact q.elim
  | bo o => exact q.elim
  | d x => exact er.nx H1 _ _ ⟨W', A, c1.set (s := .d x) trivial ⟨v, rfl, r1⟩⟩ q
  | st =>
    obtain ⟨z, rfl, r⟩ := r1
    exact er.nx H1 _ _ ⟨W', A, c1.set (s := .st) trivial ⟨z, rfl, r⟩⟩ q
  | scr ns =>
    obtain ⟨z, rfl, r⟩ := r1
    exact er.nx H1 _ _ ⟨W', A, c1.set (s := .scr ns) trivial ⟨z, rfl, r⟩⟩ q
  | raw u =>
    obtain rfl := r1
    exact er.nx H1 _ _ ⟨W', A, c1.set (s := .raw v) trivial rfl⟩ q
  | ml xs =>
    obtain ⟨p, vs, rfl, n, e1, r⟩ := r1
    exact er.nx H1 _ _ ⟨W', _, c.own (s := .ml xs) f1 i1 n ⟨p, vs, rfl, e1, c.bs.nB n, .inr rfl, r⟩ trivial⟩ q
  | mo o =>
    obtain ⟨p, vs, rfl, n, e1, r⟩ := r1
    exact er.nx H1 _ _ ⟨W', _, c.own (s := .mo o) f1 i1 n ⟨p, vs, rfl, e1, c.bs.nB n, .inr rfl, r⟩ trivial⟩ q⟩
/-- from here on the slot's list stays as it is -/
def tFz (i : Nat) (t : TS) : TS := t
def Sl.fz : Sl → Sl
  | .ml xs => .d (.list xs)
  | s => s
def dFz (i : Nat) (g : TDS) : TDS := fun dd R ρ => g dd R (ρ.set i ((ρ[i]?).getD .un).fz)
theorem Cor.fz (b0 : Bs W0 A0 H0) (c : Cor K W0 A0 H0 W A H σ ρ gσ gρ) (i : Nat) : SR K W0 A0 H0 H σ (ρ.set i ((ρ[i]?).getD .un).fz) gσ gρ := by
  cases e : ρ[i]? with
  | none =>
    refine ⟨W, A, ?_⟩
    rw [List.set_eq_of_length_le (List.getElem?_eq_none_iff.mp e)]
    exact c
  | some s =>
    have same : ∀ s', s' = s → ρ.set i s' = ρ := fun s' z => by
      subst z
      obtain ⟨hi, e⟩ := List.getElem?_eq_some_iff.mp e
      rw [← e]
      exact List.set_getElem_self hi
    cases s with
    | ml xs =>
      have hi := (List.getElem?_eq_some_iff.mp e).1
      have eA : (ρ ++ gρ)[i]? = some (.ml xs) := by rw [List.getElem?_append_left hi]; exact e
      obtain ⟨v, ev, p, vs, rfl, e1, nB, aP, r⟩ := c.env.at_ _ _ eA
      have ev' : σ[i]? = some (some (.ref p)) := by
        rw [List.getElem?_append_left (by rw [c.lg]; exact hi)] at ev
        exact ev
      have n0 := c.new i p _ e trivial ev'
      let A' : Addr → Prop := fun a => A a ∧ a ≠ p
      have less : ∀ a, A' a → A a := fun a z => z.1
      have ba' : ∀ a, W.B a → A' a := fun a z => ⟨c.bs.ba a z, fun q => nB (q ▸ z)⟩
      have conv : ∀ {j : Nat} {w : Option V} {s : Sl}, (σ ++ gσ)[j]? = some w → (ρ ++ gρ)[j]? = some s → j ≠ i → SlR K W A H w s → SlR K W A' H w s := fun {j w s} ew es nj q => by
        cases s with
        | un => exact q
        | d x =>
          obtain ⟨u, e1, r1⟩ := q
          exact ⟨u, e1, r1.go (goes_less less)⟩
        | ml ys =>
          obtain ⟨q', us, f1, f2, f3, f4, f5⟩ := q
          subst f1
          refine ⟨q', us, rfl, f2, f3, ⟨f4, fun z => ?_⟩, f5.go (goes_less less)⟩
          subst z
          exact c.env.dis i j q' _ _ (Ne.symm nj) eA trivial es trivial ev ew
        | bl ys =>
          obtain ⟨q', us, f1, f2, f3⟩ := q
          exact ⟨q', us, f1, f2, f3.go (goes_less less)⟩
        | st => exact q
        | scr ns => exact q
        | raw u => exact q
        | mo o =>
          obtain ⟨q', us, f1, f2, f3, f4, f5⟩ := q
          subst f1
          refine ⟨q', us, rfl, f2, f3, ⟨f4, fun z => ?_⟩, f5.go (goes_less less)⟩
          subst z
          exact c.env.dis i j q' _ _ (Ne.symm nj) eA trivial es trivial ev ew
        | bo o =>
          obtain ⟨q', us, f1, f2, f3, f4⟩ := q
          exact ⟨q', us, f1, f2, f3, f4.go (goes_less less)⟩
      refine ⟨W, A', c.wl, fun a z => ⟨c.a0 a z, fun q => ?_⟩, ⟨ba', fun a z => c.bs.dom a z.1, c.bs.inv, fun a xs z => c.bs.nt a xs z.1⟩, c.fr, ?_, by rw [List.length_set, c.lg], fun j q t e2 e0 e3 => ?_⟩
      · subst q
        exact n0 (b0.dom _ z)
      · rw [set_app hi]
        refine ⟨by rw [List.length_set]; exact c.env.len, fun j s ej => ?_, fun j k q t s ne f1 f0 f2 f3 f4 f5 => ?_⟩
        · rcases get_set ej with ⟨rfl, rfl, _⟩ | ⟨nj, ej⟩
          · exact ⟨some (.ref p), ev, .ref p, rfl, .lst ⟨e1, fun z => z.2 rfl⟩ (r.go (goes_less less))⟩
          · obtain ⟨w, ew, rw_⟩ := c.env.at_ j s ej
            exact ⟨w, ew, conv ew ej (Ne.symm nj) rw_⟩
        · rcases get_set f1 with ⟨rfl, z, _⟩ | ⟨n1, f1⟩
          · subst z
            exact f0
          · rcases get_set f2 with ⟨rfl, z, _⟩ | ⟨n2, f2⟩
            · subst z
              exact f3
            · exact c.env.dis j k q t s ne f1 f0 f2 f3 f4 f5
      · rcases get_set e2 with ⟨rfl, z, _⟩ | ⟨nj, e2⟩
        · subst z
          exact e0.elim
        · exact c.new j q t e2 e0 e3
    | _ =>
      refine ⟨W, A, ?_⟩
      have z := same _ rfl
      dsimp only [Option.getD_some, Sl.fz]
      rw [z]
      exact c
instance {i : Nat} {t : TS} {g : TDS} [ht : RefS K τ E t g] : RefS K τ E (tFz i t) (dFz i g) := ⟨fun W A0 H0 D dd R H σ ρ gσ gρ b sr er ek h => by
  obtain ⟨W', A, c⟩ := sr
  exact ht.go W A0 H0 D dd R H σ _ gσ gρ b (c.fz b i) er ek h⟩
end
end Dl

namespace Dl
open PySem PySem.Spec PyProof.Rows L2
/-! ### targets -/
theorem wipe_get (σ : L2.St) : ∀ (vs : List Nat) (j : Nat), (wipe σ vs)[j]? = if j ∈ vs then (σ[j]?).map fun _ => none else σ[j]?
  | [], j => by simp [wipe]
  | v :: vs, j => by
    unfold wipe
    rw [List.getElem?_set, wipe_get σ vs j, wipe_length]
    by_cases h : v = j
    · subst h
      rw [if_pos rfl, if_pos (List.mem_cons_self)]
      by_cases hl : v < σ.length
      · rw [if_pos hl, List.getElem?_eq_getElem hl]
        rfl
      · rw [if_neg hl, List.getElem?_eq_none (by omega)]
        rfl
    · rw [if_neg h]
      by_cases hm : j ∈ vs
      · rw [if_pos hm, if_pos (List.mem_cons_of_mem _ hm)]
      · rw [if_neg hm, if_neg (by simp only [List.mem_cons, not_or]; exact ⟨fun z => h z.symm, hm⟩)]
theorem wipe_set {σ : L2.St} {vs : List Nat} {i : Nat} {x : Option V} (h : i ∈ vs) : wipe (σ.set i x) vs = wipe σ vs := by
  refine List.ext_getElem? fun j => ?_
  rw [wipe_get, wipe_get, List.getElem?_set]
  by_cases hj : j ∈ vs
  · rw [if_pos hj, if_pos hj]
    by_cases e : i = j
    · subst e
      rw [if_pos rfl]
      by_cases hl : i < σ.length
      · rw [if_pos hl, List.getElem?_eq_getElem hl]
        rfl
      · rw [if_neg hl, List.getElem?_eq_none (by omega)]
    · rw [if_neg e]
  · rw [if_neg hj, if_neg hj, if_neg (fun (e : i = j) => hj (by rw [← e]; exact h))]
def Dif (sl : List Nat) (σ σ' : L2.St) : Prop := ∀ vs : List Nat, (∀ i ∈ sl, i ∈ vs) → wipe σ' vs = wipe σ vs
/-- no new own list -/
def NoNew (σ σ' : L2.St) (ρ ρ' : List Sl) : Prop := ∀ (j : Nat) (p : Addr) (s : Sl), ρ'[j]? = some s → s.isOwn → σ'[j]? = some (some (.ref p)) → ρ[j]? = some s ∧ σ[j]? = some (some (.ref p))
abbrev FG := PyData → List Sl → (List Sl → Prop) → Prop
abbrev FGs := List PyData → List Sl → (List Sl → Prop) → Prop
class RefG (K : PySem.W.Frag) (g : TG) (fg : outParam FG) (sl : outParam (List Nat)) : Prop where
  go : ∀ {τ : List (Addr × Str)} (W : Wld τ) (A : Addr → Prop) (H : Hp) (σ : L2.St) (ρ : List Sl) (gσ : L2.St) (gρ : List Sl) (v : V) (x : PyData) (Qd : List Sl → Prop) (P : L2.St → Hp → Prop), EnvR K W A H (σ ++ gσ) (ρ ++ gρ) → σ.length = ρ.length → Rp K A H v x → fg x ρ Qd →
    (∀ σ' ρ', EnvR K W A H (σ' ++ gσ) (ρ' ++ gρ) → σ'.length = ρ'.length → Dif sl σ σ' → NoNew σ σ' ρ ρ' → Qd ρ' → P σ' H) → g v σ H P
class RefGs (K : PySem.W.Frag) (g : TGs) (fg : outParam FGs) (sl : outParam (List Nat)) : Prop where
  go : ∀ {τ : List (Addr × Str)} (W : Wld τ) (A : Addr → Prop) (H : Hp) (σ : L2.St) (ρ : List Sl) (gσ : L2.St) (gρ : List Sl) (vs : List V) (xs : List PyData) (Qd : List Sl → Prop) (P : L2.St → Hp → Prop), EnvR K W A H (σ ++ gσ) (ρ ++ gρ) → σ.length = ρ.length → RpAll K A H vs xs → fg xs ρ Qd →
    (∀ σ' ρ', EnvR K W A H (σ' ++ gσ) (ρ' ++ gρ) → σ'.length = ρ'.length → Dif sl σ σ' → NoNew σ σ' ρ ρ' → Qd ρ' → P σ' H) → g vs σ H P
section
variable {K : PySem.W.Frag} {E : XK}
def gdName (i : Nat) : FG := fun x ρ Qd => Qd (ρ.set i (.d x))
instance {i : Nat} : RefG K (gName i) (gdName i) [i] := ⟨fun W A H σ ρ gσ gρ v x Qd P env hl r h k => by
  refine k (σ.set i (some v)) (ρ.set i (.d x)) (env.setA hl (s := .d x) trivial ⟨v, rfl, r⟩) (by rw [List.length_set, List.length_set, hl]) (fun vs hv => wipe_set (hv i (by simp))) (fun j p t e1 e0 e2 => ?_) h
  rcases get_set e1 with ⟨rfl, z, _⟩ | ⟨n, e1⟩
  · subst z
    exact e0.elim
  · rw [List.getElem?_set_ne n] at e2
    exact ⟨e1, e2⟩⟩
def gdNil : FGs := fun xs ρ Qd => match xs with
  | [] => Qd ρ
  | _ :: _ => False
def gdCons (f : FG) (fs : FGs) : FGs := fun xs ρ Qd => match xs with
  | [] => False
  | x :: r => f x ρ fun ρ' => fs r ρ' Qd
def gdTup (n : Nat) (fs : FGs) : FG := fun x ρ Qd => match x with
  | .tuple xs => xs.length = n ∧ fs xs ρ Qd
  | _ => False
instance : RefGs K gNil gdNil [] := ⟨fun W A H σ ρ gσ gρ vs xs Qd P env hl r h k => by
  unfold gdNil at h
  split at h
  · cases r
    exact ⟨rfl, k σ ρ env hl (fun _ _ => rfl) (fun j p t e1 _ e2 => ⟨e1, e2⟩) h⟩
  · exact h.elim⟩
instance {t : TG} {u : TGs} {f : FG} {fs : FGs} {s1 s2 : List Nat} [ht : RefG K t f s1] [hu : RefGs K u fs s2] : RefGs K (gCons t u) (gdCons f fs) (s1 ++ s2) := ⟨fun W A H σ ρ gσ gρ vs xs Qd P env hl r h k => by
  unfold gdCons at h
  split at h
  · exact h.elim
  · cases r with
    | cons r1 r2 =>
      refine ⟨_, _, rfl, ht.go W A H σ ρ gσ gρ _ _ _ _ env hl r1 h fun σ1 ρ1 e1 l1 d1 n1 q1 => ?_⟩
      refine hu.go W A H σ1 ρ1 gσ gρ _ _ _ _ e1 l1 r2 q1 fun σ2 ρ2 e2 l2 d2 n2 q2 => ?_
      refine k σ2 ρ2 e2 l2 (fun vs hv => ?_) (fun j p t a o b => ?_) q2
      · rw [d2 vs fun i hi => hv i (List.mem_append_right _ hi), d1 vs fun i hi => hv i (List.mem_append_left _ hi)]
      · obtain ⟨a1, b1⟩ := n2 j p t a o b
        exact n1 j p t a1 o b1⟩
instance {n : Nat} {t : TGs} {fs : FGs} {sl : List Nat} [ht : RefGs K t fs sl] : RefG K (gTup K n t) (gdTup n fs) sl := ⟨fun W A H σ ρ gσ gρ v x Qd P env hl r h k => by
  unfold gdTup at h
  split at h
  · cases r with
    | tup q r => exact ⟨_, _, rfl, sqTA_sq q, by rw [r.length]; exact h.1, ht.go W A H σ ρ gσ gρ _ _ _ _ env hl r h.2 k⟩
  · exact h.elim⟩
/-- a, b = e -/
def dAsg (fe : TD) (fg : FG) : TDS := fun dd R ρ => fe ρ (fun s => match s.dat with
  | some x => fg x ρ dd.nx
  | none => False) R
theorem dat_iff {s : Sl} {P : PyData → Prop} (h : (match s.dat with
  | some x => P x
  | none => False)) : ∃ x, s.dat = some x ∧ P x := by
  split at h
  · rename_i x e
    exact ⟨x, e, h⟩
  · exact h.elim
instance {n : Nat} {t : TE} {g : TGs} {f : TD} {fs : FGs} {sl : List Nat} [ht : RefE K τ E t f] [hg : RefGs K g fs sl] : RefS K τ E (tAsg t (gTup K n g)) (dAsg f (gdTup n fs)) := ⟨fun W A0 H0 D dd R H σ ρ gσ gρ b sr er ek h => by
  obtain ⟨W', A, c⟩ := sr
  refine ht.go W' A H σ ρ _ R _ (c.at_ ek) h fun v H1 s f1 i1 r1 q => ?_
  obtain ⟨x, ex, q⟩ := dat_iff (P := fun x => gdTup n fs x ρ dd.nx) q
  have c1 := c.step f1 i1
  have hG : RefG K (gTup K n g) (gdTup n fs) sl := inferInstance
  refine hG.go W' A H1 σ ρ gσ gρ v x _ _ c1.env c1.lg (r1.dat c.bs ex) q fun σ' ρ' e' l' _ n' q' => ?_
  exact er.nx H1 σ' ρ' ⟨W', A, c1.wl, c1.a0, c1.bs, c1.fr, e', l', fun j p t a o b => c1.new j p t (n' j p t a o b).1 o (n' j p t a o b).2⟩ q'⟩
/-- a, b = e1, e2: two data, or a flat one and a new list -/
def dPar (i j : Nat) (fa : TDA) : TDS := fun dd R ρ => fa ρ (fun ss => match ss with
  | [s, .ml ys] => (match s.flat with
    | some x => dd.nx ((ρ.set i (vS x)).set j (.ml ys))
    | none => False)
  | [s, .d y] => (match s.dat with
    | some x => dd.nx ((ρ.set i (.d x)).set j (.d y))
    | none => False)
  | _ => False) R
theorem plain_vS (v : V) : (vS v).plain := by cases v <;> trivial
theorem slr_vS {W : Wld τ} {A : Addr → Prop} {H : Hp} (v : V) : SlR K W A H (some v) (vS v) := by
  cases v with
  | non => exact ⟨_, rfl, .non⟩
  | bl b => exact ⟨_, rfl, .bl b⟩
  | int i => exact ⟨_, rfl, .int i⟩
  | str x => exact ⟨_, rfl, .str x⟩
  | _ => rfl
theorem vlsr2 {W : Wld τ} {A : Addr → Prop} {H0 H : Hp} {vs : List V} {s u : Sl} (h : VlsR K W A H0 H vs [s, u]) : ∃ v w, vs = [v, w] ∧ VlR K W A H0 H v s ∧ VlR K W A H0 H w u := by
  cases h with
  | cons a r =>
    cases r with
    | cons b r =>
      cases r
      exact ⟨_, _, rfl, a, b⟩
theorem vlsr1 {W : Wld τ} {A : Addr → Prop} {H0 H : Hp} {vs : List V} {s : Sl} (h : VlsR K W A H0 H vs [s]) : ∃ v, vs = [v] ∧ VlR K W A H0 H v s := by
  cases h with
  | cons a r =>
    cases r
    exact ⟨_, rfl, a⟩
instance {i j : Nat} {t : TA} {fa : TDA} [ha : RefA K τ E t fa] : RefS K τ E (tPar i j t) (dPar i j fa) := ⟨fun W A0 H0 D dd R H σ ρ gσ gρ b sr er ek h => by
  obtain ⟨W', A, c⟩ := sr
  refine ha.go W' A H σ ρ _ R _ (c.at_ ek) h fun vs H1 ss f1 i1 r1 q => ?_
  split at q
  · obtain ⟨va, vb, rfl, ra, rb⟩ := vlsr2 r1
    split at q
    · rename_i x ex
      obtain rfl := ra.flat ex
      obtain ⟨p, us, rfl, n, e1, r⟩ := rb
      have c2 := c.set (i := i) (plain_vS va) (slr_vS va)
      exact ⟨va, _, rfl, er.nx H1 _ _ ⟨W', _, c2.own (i := j) (s := .ml _) f1 i1 n ⟨p, us, rfl, e1, c.bs.nB n, .inr rfl, r⟩ trivial⟩ q⟩
    · exact q.elim
  · obtain ⟨va, vb, rfl, ra, rb⟩ := vlsr2 r1
    split at q
    · rename_i x ex
      have c1 := c.step f1 i1
      have c2 := c1.set (i := i) (s := .d x) trivial ⟨va, rfl, ra.dat c.bs ex⟩
      have c3 := c2.set (i := j) (s := .d _) trivial ⟨vb, rfl, rb⟩
      exact ⟨va, vb, rfl, er.nx H1 _ _ ⟨W', A, c3⟩ q⟩
    · exact q.elim
  · exact q.elim⟩
/-! ### what is walked -/
/-- the things that are walked stand still: data -/
structure GhR (K : PySem.W.Frag) (W : Wld τ) (A : Addr → Prop) (H : Hp) (gs : L2.St) (gr : List Sl) : Prop where
  len : gs.length = gr.length
  at_ : ∀ (i : Nat) (s : Sl), gr[i]? = some s → ∃ v x, gs[i]? = some (some v) ∧ s = .d x ∧ Rp K A H v x
structure ItR (K : PySem.W.Frag) (J : It) (gs : L2.St) (gr : List Sl) (ds : List PyData) : Prop where
  go : ∀ (W : Wld τ) (A : Addr → Prop) (H : Hp) (i : Nat), Bs W A H → GhR K W A H gs gr → i < ds.length → J.go i H
  stop : ∀ (W : Wld τ) (A : Addr → Prop) (H : Hp) (i : Nat), Bs W A H → GhR K W A H gs gr → ds.length ≤ i → J.stop i H
  yld : ∀ (W : Wld τ) (A : Addr → Prop) (H : Hp) (i : Nat) (x : V) (H' : Hp) (d : PyData), Bs W A H → GhR K W A H gs gr → ds[i]? = some d → J.yld i H x H' → Same H H' ∧ Rp K A H' x d
abbrev TDI := List Sl → (List PyData → Prop) → (Er → Prop) → Prop
class RefI (K : PySem.W.Frag) (τ : List (Addr × Str)) (E : XK) (wi : TI) (fi : outParam TDI) : Prop where
  go : ∀ (W : Wld τ) (A : Addr → Prop) (H : Hp) (σ : L2.St) (ρ : List Sl) (Qd : List PyData → Prop) (R : Er → Prop) (P : It → Hp → Prop), At K W A E H σ ρ R → fi ρ Qd R →
    (∀ J H' gs gr ds, Fr W.B H H' → W.I H' → GhR K W A H' gs gr → ItR K J gs gr ds → Qd ds → P J H') → wi σ H P
theorem EnvR.app {W : Wld τ} {A : Addr → Prop} {H : Hp} {σ gs : L2.St} {ρ gr : List Sl} (h : EnvR K W A H σ ρ) (g : GhR K W A H gs gr) : EnvR K W A H (σ ++ gs) (ρ ++ gr) := by
  have cs : ∀ {i : Nat} {s : Sl}, (ρ ++ gr)[i]? = some s → (ρ[i]? = some s ∧ (σ ++ gs)[i]? = σ[i]?) ∨ (∃ v x, (σ ++ gs)[i]? = some (some v) ∧ s = .d x ∧ Rp K A H v x) := fun {i s} e => by
    by_cases hi : i < ρ.length
    · rw [List.getElem?_append_left hi] at e
      exact .inl ⟨e, List.getElem?_append_left (by rw [h.len]; exact hi)⟩
    · rw [List.getElem?_append_right (by omega)] at e
      obtain ⟨v, x, e1, e2, r⟩ := g.at_ _ _ e
      refine .inr ⟨v, x, ?_, e2, r⟩
      rw [List.getElem?_append_right (by rw [h.len]; omega), h.len]
      exact e1
  refine ⟨by rw [List.length_append, List.length_append, h.len, g.len], fun i s e => ?_, fun i j p t s ne e1 e0 e2 e3 e4 e5 => ?_⟩
  · rcases cs e with ⟨e, z⟩ | ⟨v, x, e1, rfl, r⟩
    · obtain ⟨v, e1, r⟩ := h.at_ i s e
      exact ⟨v, z.trans e1, r⟩
    · exact ⟨_, e1, v, rfl, r⟩
  · rcases cs e1 with ⟨e1, z1⟩ | ⟨_, _, _, rfl, _⟩
    · rcases cs e2 with ⟨e2, z2⟩ | ⟨_, _, _, rfl, _⟩
      · exact h.dis i j p t s ne e1 e0 e2 e3 (z1.symm.trans e4) (z2.symm.trans e5)
      · exact e3
    · exact e0
theorem EnvR.gh {W : Wld τ} {A : Addr → Prop} {H : Hp} {σ gs : L2.St} {ρ gr : List Sl} {H1 : Hp} {A1 : Addr → Prop} {W1 : Wld τ} (h : EnvR K W A H (σ ++ gs) (ρ ++ gr)) (hl : σ.length = ρ.length) (g : GhR K W1 A1 H1 gs gr) : GhR K W A H gs gr := ⟨g.len, fun i s e => by
  obtain ⟨_, x, _, rfl, _⟩ := g.at_ i s e
  obtain ⟨v, e1, u, rfl, r⟩ := h.at_ (ρ.length + i) (.d x) (by rw [List.getElem?_append_right (by omega)]; simpa using e)
  refine ⟨u, x, ?_, rfl, r⟩
  rw [← hl, List.getElem?_append_right (by omega)] at e1
  simpa using e1⟩
/-! ### for -/
def forD (fg : FG) (gb : TDS) (dd : DEnds) (R : Er → Prop) : List PyData → List Sl → Prop
  | [], ρ => dd.nx ρ
  | d :: r, ρ => fg d ρ fun ρ' => gb { dd with nx := forD fg gb dd R r, ct := forD fg gb dd R r, bk := dd.nx } R ρ'
def dFor (fi : TDI) (fg : FG) (gb : TDS) : TDS := fun dd R ρ => fi ρ (fun ds => forD fg gb dd R ds ρ) R
theorem SR.drop {W : Wld τ} {A0 : Addr → Prop} {H0 H : Hp} {σ gσ gs : L2.St} {ρ gρ gr : List Sl} (h : SR K W A0 H0 H σ ρ (gσ ++ gs) (gρ ++ gr)) (hl : gσ.length = gρ.length) : SR K W A0 H0 H σ ρ gσ gρ := by
  obtain ⟨W', A, c⟩ := h
  refine ⟨W', A, c.wl, c.a0, c.bs, c.fr, ?_, c.lg, c.new⟩
  have := c.env
  rw [← List.append_assoc, ← List.append_assoc] at this
  exact this.pre (by rw [List.length_append, List.length_append, c.lg, hl])
instance {wi : TI} {g : TG} {tb : TS} {fi : TDI} {fg : FG} {gb : TDS} {sl : List Nat} [hi : RefI K τ E wi fi] [hg : RefG K g fg sl] [hb : RefS K τ E tb gb] : RefS K τ E (tFor wi g tb) (dFor fi fg gb) := ⟨fun W A0 H0 D dd R H σ ρ gσ gρ b sr er ek h => by
  obtain ⟨W', A, c⟩ := sr
  have gl : gσ.length = gρ.length := by
    have := c.env.len
    simp only [List.length_append] at this
    have := c.lg
    omega
  refine hi.go W' A H σ ρ _ R _ (c.at_ ek) h fun J H1 gs gr ds f1 i1 gh it q => ?_
  have c1 := c.step f1 i1
  have sr0 : SR K W A0 H0 H1 σ ρ (gσ ++ gs) (gρ ++ gr) := ⟨W', A, c1.wl, c1.a0, c1.bs, c1.fr, by rw [← List.append_assoc, ← List.append_assoc]; exact c1.env.app gh, c1.lg, c1.new⟩
  refine ⟨fun i m σ' H' => m = ds.length - i ∧ i ≤ ds.length ∧ ∃ ρ', SR K W A0 H0 H' σ' ρ' (gσ ++ gs) (gρ ++ gr) ∧ forD fg gb dd R (ds.drop i) ρ', ⟨ds.length, by omega, by omega, ρ, sr0, q⟩, ?_⟩
  rintro i m σ' H' ⟨rfl, hi', ρ', s', q'⟩
  have s0 := s'
  obtain ⟨W2, A', c'⟩ := s'
  have env' := c'.env
  rw [← List.append_assoc, ← List.append_assoc] at env'
  have gh' : GhR K W2 A' H' gs gr := env'.gh (by rw [List.length_append, List.length_append, c'.lg, gl]) gh
  by_cases hlt : i < ds.length
  · refine .inr ⟨it.go W2 A' H' i c'.bs gh' hlt, fun σ2 H2 => ∃ ρ2, SR K W A0 H0 H2 σ2 ρ2 (gσ ++ gs) (gρ ++ gr) ∧ forD fg gb dd R (ds.drop (i + 1)) ρ2, fun σ2 H2 z => ⟨ds.length - (i + 1), by omega, rfl, hlt, z⟩, fun x H2 y => ?_⟩
    obtain ⟨sm, rx⟩ := it.yld W2 A' H' i x H2 ds[i] c'.bs gh' (List.getElem?_eq_getElem hlt) y
    rw [List.drop_eq_getElem_cons hlt] at q'
    have f2 : Fr W2.B H' H2 := Fr.of sm
    have c2 := c'.step f2 (W2.stay _ _ sm c'.bs.inv)
    refine hg.go W2 A' H2 σ' ρ' (gσ ++ gs) (gρ ++ gr) x ds[i] _ _ c2.env c2.lg rx q' fun σ3 ρ3 e3 l3 _ n3 q3 => ?_
    refine hb.go W A0 H0 _ { dd with nx := forD fg gb dd R (ds.drop (i + 1)), ct := forD fg gb dd R (ds.drop (i + 1)), bk := dd.nx } R H2 σ3 ρ3 (gσ ++ gs) (gρ ++ gr) b ⟨W2, A', c2.wl, c2.a0, c2.bs, c2.fr, e3, l3, fun j p t a o b => c2.new j p t (n3 j p t a o b).1 o (n3 j p t a o b).2⟩ ⟨fun H4 σ4 ρ4 s4 q4 => ⟨ρ4, s4, q4⟩, er.rt, fun H4 σ4 ρ4 s4 q4 => er.nx H4 σ4 ρ4 (s4.drop gl) q4, fun H4 σ4 ρ4 s4 q4 => ⟨ρ4, s4, q4⟩⟩ ek q3
  · have e : i = ds.length := by omega
    subst e
    rw [List.drop_length] at q'
    exact .inl ⟨it.stop W2 A' H' _ c'.bs gh' (Nat.le_refl _), er.nx H' σ' ρ' (s0.drop gl) q'⟩⟩
/-! ### comprehensions -/
def wipeD (ρ : List Sl) : List Nat → List Sl
  | [] => ρ
  | v :: vs => (wipeD ρ vs).set v .un
theorem EnvR.wipe {W : Wld τ} {A : Addr → Prop} {H : Hp} {σ : L2.St} {ρ : List Sl} (h : EnvR K W A H σ ρ) : ∀ vs : List Nat, EnvR K W A H (L2.wipe σ vs) (wipeD ρ vs)
  | [] => h
  | v :: vs => (EnvR.wipe h vs).set (s := .un) trivial trivial
def lcD (fg : FG) (ft : TDT) (fe : TD) (ρ : List Sl) (R : Er → Prop) (Qd : List PyData → Prop) : List PyData → List PyData → Prop
  | [], acc => Qd acc
  | d :: r, acc => fg d ρ fun ρ' => ft ρ' (fun b => match b with
    | true => fe ρ' (fun s => acc.length < sizeLine ∧ match s.dat with
      | some y => lcD fg ft fe ρ R Qd r (acc ++ [y])
      | none => False) R
    | false => lcD fg ft fe ρ R Qd r acc) R
def dLc (fi : TDI) (fg : FG) (ft : TDT) (fe : TD) (vs : List Nat) : TD := fun ρ Qd R => fi ρ (fun ds => lcD fg ft fe (wipeD ρ vs) R (fun ys => Qd (.ml ys)) ds []) R
def dYes : TDT := fun _ Qd _ => Qd true
instance : RefT K τ E tYes dYes := ⟨fun W A H σ ρ Qd R Q a h w => w true H (Fr.refl H) a.bs.inv h⟩
/-- its source: data, or a list that is read -/
class RefJ (K : PySem.W.Frag) (τ : List (Addr × Str)) (E : XK) (wi : TI) (fi : outParam TDI) : Prop where
  go : ∀ (W : Wld τ) (A : Addr → Prop) (H : Hp) (σ : L2.St) (ρ : List Sl) (Qd : List PyData → Prop) (R : Er → Prop) (P : It → Hp → Prop), At K W A E H σ ρ R → fi ρ Qd R →
    (∀ (J : It) (H' : Hp) (ds : List PyData), Fr W.B H H' → W.I H' → (∀ (A' : Addr → Prop) (H2 : Hp) (i : Nat), Bs W A' H2 → Goes A A' H' H' → Fr W.B H' H2 → (i < ds.length → J.go i H2) ∧ (ds.length ≤ i → J.stop i H2) ∧ ∀ x H3 d, ds[i]? = some d → J.yld i H2 x H3 → Same H2 H3 ∧ Rp K A' H3 x d) → Qd ds → P J H') → wi σ H P
class Inc (sl vs : List Nat) : Prop where
  h : ∀ i ∈ sl, i ∈ vs
instance (priority := low) {wi : TI} {fi : TDI} [hi : RefI K τ E wi fi] : RefJ K τ E wi fi := ⟨fun W A H σ ρ Qd R P a h k => by
  refine hi.go W A H σ ρ Qd R P a h fun J H1 gs gr ds f1 i1 gh it q => k J H1 ds f1 i1 (fun A' H2 i b2 g2 f2 => ?_) q
  have gh2 : GhR K W A' H2 gs gr := ⟨gh.len, fun j s e => by
    obtain ⟨v, x, e1, e2, r⟩ := gh.at_ j s e
    exact ⟨v, x, e1, e2, (r.go g2).go (goes_fr b2.ba f2)⟩⟩
  exact ⟨fun z => it.go W A' H2 i b2 gh2 z, fun z => it.stop W A' H2 i b2 gh2 z, fun x H3 d e y => it.yld W A' H2 i x H3 d b2 gh2 e y⟩⟩
theorem SlR.grow {W : Wld τ} {A A' : Addr → Prop} {H : Hp} {v : Option V} {s : Sl} (g : Goes A A' H H) (m : ∀ a, A a → A' a) (q : SlR K W A H v s) : SlR K W A' H v s := by
  cases s with
  | un => exact q
  | d x =>
    obtain ⟨u, e1, r1⟩ := q
    exact ⟨u, e1, r1.go g⟩
  | ml ys =>
    obtain ⟨q', us, e1, e2, e3, e4, e5⟩ := q
    exact ⟨q', us, e1, e2, e3, m _ e4, e5.go g⟩
  | bl ys =>
    obtain ⟨q', us, e1, e2, e3⟩ := q
    exact ⟨q', us, e1, e2, e3.go g⟩
  | st => exact q
  | scr ns => exact q
  | raw u => exact q
  | mo o =>
    obtain ⟨q', us, e1, e2, e3, e4, e5⟩ := q
    exact ⟨q', us, e1, e2, e3, m _ e4, e5.go g⟩
  | bo o =>
    obtain ⟨q', us, e1, e2, e3, e4⟩ := q
    exact ⟨q', us, e1, e2, e3, e4.go g⟩
theorem EnvR.grow {W : Wld τ} {A A' : Addr → Prop} {H : Hp} {σ : L2.St} {ρ : List Sl} (g : Goes A A' H H) (m : ∀ a, A a → A' a) (h : EnvR K W A H σ ρ) : EnvR K W A' H σ ρ := ⟨h.len, fun i s e => by
  obtain ⟨v, e1, r⟩ := h.at_ i s e
  exact ⟨v, e1, r.grow g m⟩, h.dis⟩
instance {wi : TI} {g : TG} {tt : TT} {te : TE} {vs sl : List Nat} {fi : TDI} {fg : FG} {ft : TDT} {fe : TD} [hi : RefJ K τ E wi fi] [hg : RefG K g fg sl] [ht : RefT K τ E tt ft] [he : RefE K τ E te fe] [inc : Inc sl vs] : RefE K τ E (tLc wi g tt te vs) (dLc fi fg ft fe vs) := ⟨fun W A H σ ρ Qd R Q a h w => by
  refine hi.go W A H σ ρ _ R _ a h fun J H1 ds f1 i1 jt q => ?_
  intro D nD
  have a1 := a.fr f1 i1
  have sD : Same H1 (upd H1 D (.lst [])) := same_new nD
  have nB : ¬ W.B D := a1.bs.nB (nob nD)
  -- what holds at each turn
  refine ⟨fun i m H' => m = ds.length - i ∧ i ≤ ds.length ∧ Fr W.B H1 H' ∧ W.I H' ∧ ∃ acc ys, H' D = some (.lst acc) ∧ RpAll K (fun a => A a ∨ a = D) H' acc ys ∧ lcD fg ft fe (wipeD ρ vs) R (fun ys => Qd (.ml ys)) (ds.drop i) ys,
    ⟨ds.length, by omega, by omega, Fr.of sD, W.stay _ _ sD i1, [], [], upd_same, .nil, q⟩, ?_⟩
  rintro i m H' ⟨rfl, hi', f', i', acc, ys, eD, rD, q'⟩
  have gA : Goes A (fun a => A a ∨ a = D) H1 H1 := fun c o ec _ nc => ⟨ec, fun z => z.elim nc (ne_of_none ec nD)⟩
  have aH : At K W (fun a => A a ∨ a = D) E H' σ ρ R := by
    refine ⟨⟨fun a z => .inl (a1.bs.ba a z), fun a z => ?_, i', fun a xs z e => z.elim (fun z => (a1.bs.fr f' i').nt a xs z e) fun z => by
      rw [z, eD] at e
      cases e⟩, (a1.env.grow gA fun a z => .inl z).fr (fun a z => .inl (a1.bs.ba a z)) f', fun er x H2 fr2 i2 z r => a1.er er x H2 (f'.trans fr2) i2 (z.mono fun a z => .inl z) r⟩
    rcases z with z | rfl
    · exact f'.2 a (a1.bs.dom a z)
    · exact ⟨_, eD, nt_lst⟩
  obtain ⟨j1, j2, j3⟩ := jt _ H' i aH.bs gA f'
  by_cases hlt : i < ds.length
  · rw [List.drop_eq_getElem_cons hlt] at q'
    refine .inr ⟨j1 hlt, fun H2 => i + 1 ≤ ds.length ∧ Fr W.B H1 H2 ∧ W.I H2 ∧ ∃ acc ys, H2 D = some (.lst acc) ∧ RpAll K (fun a => A a ∨ a = D) H2 acc ys ∧ lcD fg ft fe (wipeD ρ vs) R (fun ys => Qd (.ml ys)) (ds.drop (i + 1)) ys, fun H2 z => ⟨ds.length - (i + 1), by omega, rfl, z⟩, fun x H2 y => ?_⟩
    obtain ⟨sm, rx⟩ := j3 x H2 ds[i] (List.getElem?_eq_getElem hlt) y
    have f2 : Fr W.B H' H2 := Fr.of sm
    have i2 := W.stay _ _ sm i'
    have a2 := aH.fr f2 i2
    have ew : EnvR K W (fun a => A a ∨ a = D) H2 (wipe σ vs ++ []) (wipeD ρ vs ++ []) := by
      rw [List.append_nil, List.append_nil]
      exact a2.env.wipe vs
    refine hg.go W (fun a => A a ∨ a = D) H2 (wipe σ vs) (wipeD ρ vs) [] [] x ds[i] _ _ ew (a2.env.wipe vs).len rx q' fun σ3 ρ3 e3 l3 d3 _ q3 => ?_
    rw [List.append_nil, List.append_nil] at e3
    have ww : wipe σ3 vs = wipe σ vs := by
      have z := d3 vs inc.h
      rw [z]
      refine List.ext_getElem? fun j => ?_
      rw [wipe_get, wipe_get]
      by_cases hj : j ∈ vs
      · rw [if_pos hj, if_pos hj]
        cases σ[j]? <;> rfl
      · rw [if_neg hj, if_neg hj]
    refine ⟨ww, ?_⟩
    have a3 : At K W (fun a => A a ∨ a = D) E H2 σ3 ρ3 R := ⟨a2.bs, e3, a2.er⟩
    refine ht.go W (fun a => A a ∨ a = D) H2 σ3 ρ3 _ R _ a3 q3 fun k H3 f3 i3 q4 => ?_
    cases k with
    | false =>
      refine iteF ⟨hlt, (f'.trans f2).trans f3, i3, acc, ys, (f2.trans f3).1 _ _ eD nt_lst nB, rD.go (goes_fr (fun a z => .inl (a1.bs.ba a z)) (f2.trans f3)), q4⟩
    | true =>
      refine iteT (he.go W (fun a => A a ∨ a = D) H3 σ3 ρ3 _ R _ (a3.fr f3 i3) q4 fun y H4 s f4 i4 r4 q5 => ?_)
      obtain ⟨hs, q5⟩ := q5
      obtain ⟨z, ez, q6⟩ := dat_iff (P := fun y => lcD fg ft fe (wipeD ρ vs) R (fun ys => Qd (.ml ys)) (ds.drop (i + 1)) (ys ++ [y])) q5
      have f24 := (f2.trans f3).trans f4
      have eD4 : H4 D = some (.lst acc) := f24.1 _ _ eD nt_lst nB
      have rz := r4.dat (a3.bs.fr f3 i3) ez
      refine ⟨acc, eD4, by rw [rD.length]; exact hs, hlt, ?_, W.own H4 D _ _ i4 eD4 (.lst _) (.lst _) nB, acc ++ [y], ys ++ [z], upd_same, ?_, q6⟩
      · refine ⟨fun c o ec t nc => ?_, fun c hc => ?_⟩
        · rw [upd_ne (ne_of_none ec nD)]
          exact (f'.trans f24).1 c o ec t nc
        · by_cases e : c = D
          · subst e
            exact ⟨_, upd_same, nt_lst⟩
          · obtain ⟨o, e1, t1⟩ := (f'.trans f24).2 c hc
            exact ⟨o, (upd_ne e).trans e1, t1⟩
      · have gu : Goes (fun a => A a ∨ a = D) (fun a => A a ∨ a = D) H4 (upd H4 D (.lst (acc ++ [y]))) := fun c o ec _ nc => ⟨(upd_ne fun z => nc (.inr z)).trans ec, nc⟩
        exact ((rD.go (goes_fr (fun a z => .inl (a1.bs.ba a z)) f24)).go gu).append (.one (rz.go gu))
  · have e : i = ds.length := by omega
    subst e
    rw [List.drop_length] at q'
    exact .inl ⟨j2 (Nat.le_refl _), w (.ref D) H' (.ml ys) (f1.trans f') i' ⟨D, acc, rfl, fun z => nob nD (f1.2 D z), eD, rD⟩ q'⟩⟩
end
end Dl

namespace Dl
open PySem PySem.Spec PyProof.Rows L2
section
variable {K : PySem.W.Frag} {E : XK}
/-! ### what is walked -/
theorem gh1 {W : Wld τ} {A : Addr → Prop} {H : Hp} {v : V} {x : PyData} (r : Rp K A H v x) : GhR K W A H [some v] [.d x] := ⟨rfl, fun i s e => by
  cases i with
  | zero =>
    simp at e
    subst e
    exact ⟨v, x, rfl, rfl, r⟩
  | succ i => simp at e⟩
theorem GhR.one {W : Wld τ} {A : Addr → Prop} {H : Hp} {v : V} {x : PyData} (h : GhR K W A H [some v] [.d x]) : Rp K A H v x := by
  obtain ⟨u, y, e1, e2, r⟩ := h.at_ 0 _ rfl
  cases e1
  cases e2
  exact r
theorem Rp.lst_ {A : Addr → Prop} {H : Hp} {v : V} {xs : List PyData} (h : Rp K A H v (.list xs)) : ∃ a vs, v = .ref a ∧ SqL K H a vs ∧ RpAll K A H vs xs := by
  cases h with
  | lst q r => exact ⟨_, _, rfl, sqLA_sq q, r⟩
theorem Rp.tup_ {A : Addr → Prop} {H : Hp} {v : V} {xs : List PyData} (h : Rp K A H v (.tuple xs)) : ∃ a vs, v = .ref a ∧ SqT K H a vs ∧ RpAll K A H vs xs := by
  cases h with
  | tup q r => exact ⟨_, _, rfl, sqTA_sq q, r⟩
def iLst (fe : TD) : TDI := fun ρ Qd R => fe ρ (fun s => match s.dat with
  | some (.list xs) => Qd xs
  | _ => False) R
def iTp (fe : TD) : TDI := fun ρ Qd R => fe ρ (fun s => match s.dat with
  | some (.tuple xs) => Qd xs
  | _ => False) R
instance {t : TE} {f : TD} [ht : RefE K τ E t f] : RefI K τ E (iList K t) (iLst f) := ⟨fun W A H σ ρ Qd R P a h k => by
  refine ht.go W A H σ ρ _ R _ a h fun v H1 s f1 i1 r1 q => ?_
  split at q
  · rename_i xs ex
    have rp := r1.dat a.bs ex
    obtain ⟨p, vs, rfl, sq, ra⟩ := rp.lst_
    refine ⟨p, rfl, ⟨_, sq⟩, k (Itl K p) H1 [some (.ref p)] [.d (.list xs)] xs f1 i1 (gh1 rp) ⟨fun W A H i b g hi => ?_, fun W A H i b g hi => ?_, fun W A H i x H' d b g ed y => ?_⟩ q⟩
    · obtain ⟨a, us, e, s2, r2⟩ := g.one.lst_
      cases e
      obtain ⟨u, eu, _⟩ := r2.get (List.getElem?_eq_getElem hi)
      exact ⟨us, u, s2, eu⟩
    · obtain ⟨a, us, e, s2, r2⟩ := g.one.lst_
      cases e
      exact ⟨us, s2, by rw [r2.length]; exact hi⟩
    · obtain ⟨a, us, e, s2, r2⟩ := g.one.lst_
      cases e
      obtain ⟨rfl, y⟩ := y
      obtain ⟨d', e1, e2⟩ := r2.getV (y us s2)
      rw [ed] at e1
      cases e1
      exact ⟨Same.refl _, e2⟩
  · exact q.elim⟩
instance {t : TE} {f : TD} [ht : RefE K τ E t f] : RefI K τ E (iTup K t) (iTp f) := ⟨fun W A H σ ρ Qd R P a h k => by
  refine ht.go W A H σ ρ _ R _ a h fun v H1 s f1 i1 r1 q => ?_
  split at q
  · rename_i xs ex
    have rp := r1.dat a.bs ex
    obtain ⟨p, vs, rfl, sq, ra⟩ := rp.tup_
    refine ⟨p, rfl, ⟨_, sq⟩, k (Itt K p) H1 [some (.ref p)] [.d (.tuple xs)] xs f1 i1 (gh1 rp) ⟨fun W A H i b g hi => ?_, fun W A H i b g hi => ?_, fun W A H i x H' d b g ed y => ?_⟩ q⟩
    · obtain ⟨a, us, e, s2, r2⟩ := g.one.tup_
      cases e
      obtain ⟨u, eu, _⟩ := r2.get (List.getElem?_eq_getElem hi)
      exact ⟨us, u, s2, eu⟩
    · obtain ⟨a, us, e, s2, r2⟩ := g.one.tup_
      cases e
      exact ⟨us, s2, by rw [r2.length]; exact hi⟩
    · obtain ⟨a, us, e, s2, r2⟩ := g.one.tup_
      cases e
      obtain ⟨rfl, y⟩ := y
      obtain ⟨d', e1, e2⟩ := r2.getV (y us s2)
      rw [ed] at e1
      cases e1
      exact ⟨Same.refl _, e2⟩
  · exact q.elim⟩
/-- a comprehension over a list that is read -/
def iSeq (fe : TD) : TDI := fun ρ Qd R => fe ρ (fun s => match s.seq with
  | some xs => Qd xs
  | none => False) R
instance (priority := high) {t : TE} {f : TD} [ht : RefE K τ E t f] : RefJ K τ E (iList K t) (iSeq f) := ⟨fun W A H σ ρ Qd R P a h k => by
  refine ht.go W A H σ ρ _ R _ a h fun v H1 s f1 i1 r1 q => ?_
  split at q
  · rename_i xs ex
    obtain ⟨p, vs, rfl, sq, ra⟩ := r1.seq a.bs ex
    refine ⟨p, rfl, ⟨_, sqLA_sq sq⟩, k (Itl K p) H1 xs f1 i1 (fun A' H2 i b2 g2 f2 => ?_) q⟩
    have s2 := sqLA_sq (sqB_fr f2 sq)
    have r2 := (ra.go g2).go (goes_fr b2.ba f2)
    refine ⟨fun hi => ?_, fun hi => ⟨vs, s2, by rw [r2.length]; exact hi⟩, fun x H3 d ed y => ?_⟩
    · obtain ⟨u, eu, _⟩ := r2.get (List.getElem?_eq_getElem hi)
      exact ⟨vs, u, s2, eu⟩
    · obtain ⟨rfl, y⟩ := y
      obtain ⟨d', e1, e2⟩ := r2.getV (y vs s2)
      rw [ed] at e1
      cases e1
      exact ⟨Same.refl _, e2⟩
  · exact q.elim⟩
/-- range(n), range(m, n) -/
def rangeD (lo : Int) (n : Nat) : List PyData := (List.range n).map fun (k : Nat) => PyData.int (lo + k)
def iRg1 (fa : TDA) : TDI := fun ρ Qd R => fa ρ (fun ss => match ss with
  | [.d (.int j)] => -(2 ^ 62) ≤ j ∧ j < 2 ^ 62 ∧ Qd (rangeD 0 j.toNat)
  | _ => False) R
def iRg2 (fa : TDA) : TDI := fun ρ Qd R => fa ρ (fun ss => match ss with
  | [.d (.int i), .d (.int j)] => (-(2 ^ 62) ≤ i ∧ i < 2 ^ 62 ∧ -(2 ^ 62) ≤ j ∧ j < 2 ^ 62) ∧ Qd (rangeD i (j - i).toNat)
  | _ => False) R
theorem itR_rng (lo : Int) (n : Nat) : ItR K (Itr lo n) [] [] (rangeD lo n) := by
  have hl : (rangeD lo n).length = n := by rw [rangeD, List.length_map, List.length_range]
  refine ⟨fun W A H i b g hi => by rw [hl] at hi; exact hi, fun W A H i b g hi => by rw [hl] at hi; exact hi, fun W A H i x H' d b g ed y => ?_⟩
  obtain ⟨rfl, rfl⟩ := y
  unfold rangeD at ed
  rw [List.getElem?_map] at ed
  have hi : i < n := by
    rcases Nat.lt_or_ge i n with z | z
    · exact z
    · rw [List.getElem?_eq_none (by rw [List.length_range]; exact z)] at ed
      cases ed
  rw [List.getElem?_range hi] at ed
  cases ed
  exact ⟨Same.refl _, .int _⟩
theorem ghNil {W : Wld τ} {A : Addr → Prop} {H : Hp} : GhR K W A H [] [] := ⟨rfl, fun i s e => by simp at e⟩
instance {t : TA} {f : TDA} [ht : RefA K τ E t f] : RefI K τ E (iRng1 t) (iRg1 f) := ⟨fun W A H σ ρ Qd R P a h k => by
  refine ht.go W A H σ ρ _ R _ a h fun vs H1 ss f1 i1 r1 q => ?_
  split at q
  · rename_i j
    obtain ⟨v, rfl, r⟩ := vlsr1 r1
    obtain rfl := r.flat (u := .int j) rfl
    exact ⟨j, rfl, q.1, q.2.1, k _ H1 [] [] _ f1 i1 ghNil (itR_rng 0 j.toNat) q.2.2⟩
  · exact q.elim⟩
instance {t : TA} {f : TDA} [ht : RefA K τ E t f] : RefI K τ E (iRng2 t) (iRg2 f) := ⟨fun W A H σ ρ Qd R P a h k => by
  refine ht.go W A H σ ρ _ R _ a h fun vs H1 ss f1 i1 r1 q => ?_
  split at q
  · rename_i i j
    obtain ⟨v, u, rfl, r, r'⟩ := vlsr2 r1
    obtain rfl := r.flat (u := .int i) rfl
    obtain rfl := r'.flat (u := .int j) rfl
    exact ⟨i, j, rfl, q.1, k _ H1 [] [] _ f1 i1 ghNil (itR_rng i _) q.2⟩
  · exact q.elim⟩
/-- enumerate(xs) -/
def enumD (xs : List PyData) : List PyData := xs.zipIdx.map fun p => .tuple [.int (p.2 : Nat), p.1]
theorem enumD_get {xs : List PyData} {i : Nat} {d : PyData} (h : (enumD xs)[i]? = some d) : ∃ x, xs[i]? = some x ∧ d = .tuple [.int (i : Nat), x] := by
  unfold enumD at h
  rw [List.getElem?_map, List.getElem?_zipIdx] at h
  cases e : xs[i]? with
  | none =>
    rw [e] at h
    cases h
  | some x =>
    rw [e] at h
    simp at h
    exact ⟨x, rfl, h.symm⟩
theorem enumD_len (xs : List PyData) : (enumD xs).length = xs.length := by rw [enumD, List.length_map, List.length_zipIdx]
def iEn (fa : TDA) : TDI := fun ρ Qd R => fa ρ (fun ss => match ss with
  | [s] => (match s.dat with
    | some (.list xs) => Qd (enumD xs)
    | _ => False)
  | _ => False) R
theorem rp_pair {W : Wld τ} {A : Addr → Prop} {H : Hp} {T : Addr} {v w : V} {x y : PyData} (b : Bs W A H) (n : H T = none) (r : Rp K A H v x) (r' : Rp K A H w y) : Same H (upd H T (.tup [v, w])) ∧ Rp K A (upd H T (.tup [v, w])) (.ref T) (.tuple [x, y]) :=
  ⟨same_new n, .tup ⟨upd_same, b.nA (nob n)⟩ (.cons (r.go (goes_fr b.ba (Fr.new n))) (.cons (r'.go (goes_fr b.ba (Fr.new n))) .nil))⟩
instance {t : TA} {f : TDA} [ht : RefA K τ E t f] : RefI K τ E (iEnum K t) (iEn f) := ⟨fun W A H σ ρ Qd R P a h k => by
  refine ht.go W A H σ ρ _ R _ a h fun vs H1 ss f1 i1 r1 q => ?_
  split at q
  · obtain ⟨v, rfl, r⟩ := vlsr1 r1
    split at q
    · rename_i xs ex
      have rp := r.dat a.bs ex
      obtain ⟨p, us, rfl, sq, ra⟩ := rp.lst_
      refine ⟨p, _, rfl, sq, k (Ite K p) H1 [some (.ref p)] [.d (.list xs)] (enumD xs) f1 i1 (gh1 rp) ⟨fun W A H i b g hi => ?_, fun W A H i b g hi => ?_, fun W A H i x H' d b g ed y => ?_⟩ q⟩
      · rw [enumD_len] at hi
        obtain ⟨a, us, e, s2, r2⟩ := g.one.lst_
        cases e
        obtain ⟨u, eu, _⟩ := r2.get (List.getElem?_eq_getElem hi)
        exact ⟨us, u, s2, eu⟩
      · rw [enumD_len] at hi
        obtain ⟨a, us, e, s2, r2⟩ := g.one.lst_
        cases e
        exact ⟨us, s2, by rw [r2.length]; exact hi⟩
      · obtain ⟨a, us, e, s2, r2⟩ := g.one.lst_
        cases e
        obtain ⟨T, u, rfl, nT, rfl, hx⟩ := y
        obtain ⟨x', ex', rfl⟩ := enumD_get ed
        obtain ⟨d', e1, e2⟩ := r2.getV (hx us s2)
        rw [ex'] at e1
        cases e1
        exact rp_pair b nT (.int _) e2
    · exact q.elim
  · exact q.elim⟩
/-- zip(xs, ys) of two lists, of two tuples -/
def zipD (xs ys : List PyData) : List PyData := (xs.zip ys).map fun p => .tuple [p.1, p.2]
theorem zipD_get {xs ys : List PyData} {i : Nat} {d : PyData} (h : (zipD xs ys)[i]? = some d) : ∃ x y, xs[i]? = some x ∧ ys[i]? = some y ∧ d = .tuple [x, y] := by
  unfold zipD at h
  rw [List.getElem?_map] at h
  cases e : (xs.zip ys)[i]? with
  | none =>
    rw [e] at h
    cases h
  | some p =>
    rw [e] at h
    cases h
    obtain ⟨e1, e2⟩ := List.getElem?_zip_eq_some.mp e
    exact ⟨p.1, p.2, e1, e2, rfl⟩
theorem zipD_len (xs ys : List PyData) : (zipD xs ys).length = min xs.length ys.length := by rw [zipD, List.length_map, List.length_zip]
def iZp (fa : TDA) : TDI := fun ρ Qd R => fa ρ (fun ss => match ss with
  | [s, u] => (match s.dat, u.dat with
    | some (.list xs), some (.list ys) => Qd (zipD xs ys)
    | some (.tuple xs), some (.tuple ys) => Qd (zipD xs ys)
    | _, _ => False)
  | _ => False) R
theorem gh2 {W : Wld τ} {A : Addr → Prop} {H : Hp} {v w : V} {x y : PyData} (r : Rp K A H v x) (r' : Rp K A H w y) : GhR K W A H [some v, some w] [.d x, .d y] := ⟨rfl, fun i s e => by
  match i with
  | 0 =>
    simp at e
    subst e
    exact ⟨v, x, rfl, rfl, r⟩
  | 1 =>
    simp at e
    subst e
    exact ⟨w, y, rfl, rfl, r'⟩
  | i + 2 => simp at e⟩
theorem GhR.two {W : Wld τ} {A : Addr → Prop} {H : Hp} {v w : V} {x y : PyData} (h : GhR K W A H [some v, some w] [.d x, .d y]) : Rp K A H v x ∧ Rp K A H w y := by
  obtain ⟨u, z, e1, e2, r⟩ := h.at_ 0 _ rfl
  cases e1
  cases e2
  obtain ⟨u, z, e1, e2, r'⟩ := h.at_ 1 _ rfl
  cases e1
  cases e2
  exact ⟨r, r'⟩
instance {t : TA} {f : TDA} [ht : RefA K τ E t f] : RefI K τ E (RZ.iZipA K t) (iZp f) := ⟨fun W A H σ ρ Qd R P a h k => by
  refine ht.go W A H σ ρ _ R _ a h fun vs H1 ss f1 i1 r1 q => ?_
  split at q
  · obtain ⟨v, w, rfl, r, r'⟩ := vlsr2 r1
    split at q
    · rename_i xs ys ex ey
      have rp := r.dat a.bs ex
      have rp' := r'.dat a.bs ey
      obtain ⟨p, us, rfl, sq, ra⟩ := rp.lst_
      obtain ⟨p', us', rfl, sq', ra'⟩ := rp'.lst_
      refine ⟨p, p', _, _, rfl, .inl ⟨sq, sq', k (Itz K p p') H1 [some (.ref p), some (.ref p')] [.d (.list xs), .d (.list ys)] (zipD xs ys) f1 i1 (gh2 rp rp') ⟨fun W A H i b g hi => ?_, fun W A H i b g hi => ?_, fun W A H i x H' d b g ed y => ?_⟩ q⟩⟩
      all_goals
        obtain ⟨g1, g2⟩ := g.two
        obtain ⟨a1, us, e, s2, r2⟩ := g1.lst_
        cases e
        obtain ⟨a2, us', e, s3, r3⟩ := g2.lst_
        cases e
      · rw [zipD_len] at hi
        obtain ⟨u, eu, _⟩ := r2.get (List.getElem?_eq_getElem (show i < xs.length by omega))
        obtain ⟨u', eu', _⟩ := r3.get (List.getElem?_eq_getElem (show i < ys.length by omega))
        exact ⟨us, us', u, u', s2, s3, eu, eu'⟩
      · rw [zipD_len] at hi
        refine ⟨us, us', s2, s3, ?_⟩
        rw [r2.length, r3.length]
        omega
      · obtain ⟨T, u, u', rfl, nT, rfl, hx, hy⟩ := y
        obtain ⟨x', y', ex', ey', rfl⟩ := zipD_get ed
        obtain ⟨d1, e1, q1⟩ := r2.getV (hx us s2)
        obtain ⟨d2, e2, q2⟩ := r3.getV (hy us' s3)
        rw [ex'] at e1
        rw [ey'] at e2
        cases e1
        cases e2
        exact rp_pair b nT q1 q2
    · rename_i xs ys ex ey
      have rp := r.dat a.bs ex
      have rp' := r'.dat a.bs ey
      obtain ⟨p, us, rfl, sq, ra⟩ := rp.tup_
      obtain ⟨p', us', rfl, sq', ra'⟩ := rp'.tup_
      refine ⟨p, p', _, _, rfl, .inr ⟨sq, sq', k (RZ.ItzT K p p') H1 [some (.ref p), some (.ref p')] [.d (.tuple xs), .d (.tuple ys)] (zipD xs ys) f1 i1 (gh2 rp rp') ⟨fun W A H i b g hi => ?_, fun W A H i b g hi => ?_, fun W A H i x H' d b g ed y => ?_⟩ q⟩⟩
      all_goals
        obtain ⟨g1, g2⟩ := g.two
        obtain ⟨a1, us, e, s2, r2⟩ := g1.tup_
        cases e
        obtain ⟨a2, us', e, s3, r3⟩ := g2.tup_
        cases e
      · rw [zipD_len] at hi
        obtain ⟨u, eu, _⟩ := r2.get (List.getElem?_eq_getElem (show i < xs.length by omega))
        obtain ⟨u', eu', _⟩ := r3.get (List.getElem?_eq_getElem (show i < ys.length by omega))
        exact ⟨us, us', u, u', s2, s3, eu, eu'⟩
      · rw [zipD_len] at hi
        refine ⟨us, us', s2, s3, ?_⟩
        rw [r2.length, r3.length]
        omega
      · obtain ⟨T, u, u', rfl, nT, rfl, hx, hy⟩ := y
        obtain ⟨x', y', ex', ey', rfl⟩ := zipD_get ed
        obtain ⟨d1, e1, q1⟩ := r2.getV (hx us s2)
        obtain ⟨d2, e2, q2⟩ := r3.getV (hy us' s3)
        rw [ex'] at e1
        rw [ey'] at e2
        cases e1
        cases e2
        exact rp_pair b nT q1 q2
    · exact q.elim
  · exact q.elim⟩
end
end Dl

namespace Dl
open PySem PySem.Spec PyProof.Rows L2
section
variable {K : PySem.W.Frag} {E : XK}
/-! ### items, slices, sums of sequences -/
theorem RpAll.atI {A : Addr → Prop} {H : Hp} {vs : List V} {ds : List PyData} {i : Int} {d : PyData} (h : RpAll K A H vs ds) (e : L2.atI ds i = some d) : ∃ v, L2.atI vs i = some v ∧ Rp K A H v d := by
  unfold L2.atI at e ⊢
  rw [h.length]
  cases z : ixN ds.length i with
  | none =>
    rw [z] at e
    cases e
  | some j =>
    rw [z] at e
    exact h.get e
def fIxL : Sl → Sl → (Sl → Prop) → Prop := fun s u Qd => match s.seq, u with
  | some xs, .d (.int i) => (match L2.atI xs i with
    | some d => Qd (.d d)
    | none => False)
  | _, _ => False
def fIxT : Sl → Sl → (Sl → Prop) → Prop := fun s u Qd => match s, u with
  | .d (.tuple xs), .d (.int i) => (match L2.atI xs i with
    | some d => Qd (.d d)
    | none => False)
  | _, _ => False
instance : Ref2 K (rIxL K) fIxL := ⟨fun W A H0 H x y s u Qd Q b f i rx ry h w => by
  unfold fIxL at h
  split at h
  · rename_i xs n ex
    split at h
    · rename_i d ed
      obtain ⟨p, vs, rfl, sq, r⟩ := rx.seq b ex
      obtain ⟨v, ev, rv⟩ := r.atI ed
      exact ⟨p, vs, n, v, rfl, ry.flat (u := .int n) rfl, sqLA_sq sq, ev, w v H (.d d) (Fr.refl H) i rv h⟩
    · exact h.elim
  · exact h.elim⟩
instance : Ref2 K (rIxT K) fIxT := ⟨fun W A H0 H x y s u Qd Q b f i rx ry h w => by
  unfold fIxT at h
  split at h
  · rename_i xs n
    split at h
    · rename_i d ed
      obtain ⟨p, vs, rfl, sq, r⟩ := Rp.tup_ rx
      obtain ⟨v, ev, rv⟩ := r.atI ed
      exact ⟨p, vs, n, v, rfl, ry.flat (u := .int n) rfl, sq, ev, w v H (.d d) (Fr.refl H) i rv h⟩
    · exact h.elim
  · exact h.elim⟩
def cutD (xs : List PyData) (lo hi : Option Int) : List PyData := (xs.drop (HT.sIx xs.length 0 lo)).take (HT.sIx xs.length xs.length hi - HT.sIx xs.length 0 lo)
theorem RpAll.cut {A : Addr → Prop} {H : Hp} {vs : List V} {ds : List PyData} (h : RpAll K A H vs ds) (lo hi : Option Int) : RpAll K A H (cutV vs lo hi) (cutD ds lo hi) := by
  unfold cutV cutD
  rw [h.length]
  exact (h.drop _).take _
theorem cutD_whole {xs : List PyData} {lo hi : Option Int} (h : HT.sIx xs.length 0 lo = 0 ∧ HT.sIx xs.length xs.length hi = xs.length) : cutD xs lo hi = xs := by
  unfold cutD
  rw [h.1, h.2, List.drop_zero, Nat.sub_zero, List.take_length]
abbrev TDO := List Sl → (Option Int → Prop) → (Er → Prop) → Prop
class RefO (K : PySem.W.Frag) (τ : List (Addr × Str)) (E : XK) (t : TO) (f : outParam TDO) : Prop where
  go : ∀ (W : Wld τ) (A : Addr → Prop) (H : Hp) (σ : L2.St) (ρ : List Sl) (Qd : Option Int → Prop) (R : Er → Prop) (Q : Option Int → Hp → Prop), At K W A E H σ ρ R → f ρ Qd R → (∀ o H', Fr W.B H H' → W.I H' → Qd o → Q o H') → t σ H Q
def dNo : TDO := fun _ Qd _ => Qd none
def dPt (fe : TD) : TDO := fun ρ Qd R => fe ρ (fun s => match s with
  | .d (.int i) => Qd (some i)
  | _ => False) R
instance : RefO K τ E tNoPart dNo := ⟨fun W A H σ ρ Qd R Q a h w => w none H (Fr.refl H) a.bs.inv h⟩
instance {t : TE} {f : TD} [ht : RefE K τ E t f] : RefO K τ E (tPart t) (dPt f) := ⟨fun W A H σ ρ Qd R Q a h w => by
  refine ht.go W A H σ ρ _ R _ a h fun v H1 s f1 i1 r1 q => ?_
  split at q
  · rename_i i
    exact ⟨i, r1.flat (u := .int i) rfl, w _ H1 f1 i1 q⟩
  · exact q.elim⟩
class RefSl (K : PySem.W.Frag) (r : V → Option Int → Option Int → Hp → VK → Prop) (f : outParam (Sl → Option Int → Option Int → (Sl → Prop) → Prop)) : Prop where
  go : ∀ {τ : List (Addr × Str)} (W : Wld τ) (A : Addr → Prop) (H0 H : Hp) (x : V) (s : Sl) (lo hi : Option Int) (Qd : Sl → Prop) (Q : VK), Bs W A H0 → Fr W.B H0 H → W.I H → VlR K W A H0 H x s → f s lo hi Qd → Want K W A H Qd Q → r x lo hi H Q
def dSl (f : Sl → Option Int → Option Int → (Sl → Prop) → Prop) (fe : TD) (fl fh : TDO) : TD := fun ρ Qd R => fe ρ (fun s => fl ρ (fun l => fh ρ (fun h => f s l h Qd) R) R) R
instance {r : V → Option Int → Option Int → Hp → VK → Prop} {te : TE} {tl th : TO} {f : Sl → Option Int → Option Int → (Sl → Prop) → Prop} {fe : TD} {fl fh : TDO} [he : RefE K τ E te fe] [hl : RefO K τ E tl fl] [hh : RefO K τ E th fh] [hr : RefSl K r f] : RefE K τ E (tSl r te tl th) (dSl f fe fl fh) := ⟨fun W A H σ ρ Qd R Q a h w => by
  refine he.go W A H σ ρ _ R _ a h fun v H1 s f1 i1 r1 q1 => ?_
  refine hl.go W A H1 σ ρ _ R _ (a.fr f1 i1) q1 fun l H2 f2 i2 q2 => ?_
  refine hh.go W A H2 σ ρ _ R _ (a.fr (f1.trans f2) i2) q2 fun u H3 f3 i3 q3 => ?_
  exact hr.go W A H H3 v s l u Qd Q a.bs ((f1.trans f2).trans f3) i3 (r1.fr a.bs (f2.trans f3)) q3 (w.back ((f1.trans f2).trans f3))⟩
def fSlT : Sl → Option Int → Option Int → (Sl → Prop) → Prop := fun s lo hi Qd => match s with
  | .d (.tuple xs) => Qd (.d (.tuple (cutD xs lo hi)))
  | _ => False
def fSlL : Sl → Option Int → Option Int → (Sl → Prop) → Prop := fun s lo hi Qd => match s.seq with
  | some xs => Qd (.ml (cutD xs lo hi))
  | none => False
instance : RefSl K (rSlA K) fSlT := ⟨fun W A H0 H x s lo hi Qd Q b f i rx h w => by
  unfold fSlT at h
  split at h
  · rename_i xs
    have rx' : Rp K A H x (.tuple xs) := rx
    have bH : Bs W A H := b.fr f i
    cases rx with
    | @tup a vs ds q r =>
      refine ⟨a, vs, rfl, sqTA_sq q, fun hw => ?_, fun hw => ?_⟩
      · refine w _ H (.d (.tuple (cutD xs lo hi))) (Fr.refl H) i ?_ h
        rw [cutD_whole (by rw [← r.length]; exact hw)]
        exact rx'
      · exact Want.tup bH w (r.cut lo hi) h
  · exact h.elim⟩
instance : RefSl K (rSlL K) fSlL := ⟨fun W A H0 H x s lo hi Qd Q b f i rx h w => by
  unfold fSlL at h
  split at h
  · rename_i xs ex
    obtain ⟨p, vs, rfl, sq, r⟩ := rx.seq b ex
    exact ⟨p, vs, rfl, sqLA_sq sq, Want.lst (b.fr f i) w (r.cut lo hi) h⟩
  · exact h.elim⟩
def fCatT : Sl → Sl → (Sl → Prop) → Prop := fun s u Qd => match s, u with
  | .d (.tuple xs), .d (.tuple ys) => xs.length + ys.length ≤ sizeLine ∧ Qd (.d (.tuple (xs ++ ys)))
  | _, _ => False
instance : Ref2 K (rCatA K) fCatT := ⟨fun W A H0 H x y s u Qd Q b f i rx ry h w => by
  unfold fCatT at h
  split at h
  · rename_i xs ys
    have rx' : Rp K A H x (.tuple xs) := rx
    have ry' : Rp K A H y (.tuple ys) := ry
    obtain ⟨p, vs, rfl, sq, r⟩ := Rp.tup_ rx'
    obtain ⟨p', vs', rfl, sq', r'⟩ := Rp.tup_ ry'
    refine ⟨p, p', vs, vs', rfl, rfl, sq, sq', by rw [r.length, r'.length]; exact h.1, fun z => ?_, fun _ z => ?_, fun _ _ => Want.tup (b.fr f i) w (r.append r') h.2⟩
    · refine w _ H (.d (.tuple (xs ++ ys))) (Fr.refl H) i ?_ h.2
      subst z
      cases r
      exact ry'
    · refine w _ H (.d (.tuple (xs ++ ys))) (Fr.refl H) i ?_ h.2
      subst z
      cases r'
      rw [List.append_nil]
      exact rx'
  · exact h.elim⟩
def fCatL : Sl → Sl → (Sl → Prop) → Prop := fun s u Qd => match s.seq, u.seq with
  | some xs, some ys => xs.length + ys.length ≤ sizeLine ∧ Qd (.ml (xs ++ ys))
  | _, _ => False
instance : Ref2 K rCat fCatL := ⟨fun W A H0 H x y s u Qd Q b f i rx ry h w => by
  unfold fCatL at h
  split at h
  · rename_i xs ys ex ey
    obtain ⟨p, vs, rfl, sq, r⟩ := rx.seq b ex
    obtain ⟨p', vs', rfl, sq', r'⟩ := ry.seq b ey
    exact ⟨p, p', vs, vs', rfl, rfl, sq.1, sq'.1, by rw [r.length, r'.length]; exact h.1, Want.lst (b.fr f i) w (r.append r') h.2⟩
  · exact h.elim⟩
def fRep : Sl → Sl → (Sl → Prop) → Prop := fun s u Qd => match s.seq, u with
  | some xs, .d (.int k) => -(2 ^ 63) ≤ k ∧ k < 2 ^ 63 ∧ xs.length * k.toNat ≤ sizeLine ∧ Qd (.ml (List.replicate k.toNat xs).flatten)
  | _, _ => False
instance : Ref2 K rRep fRep := ⟨fun W A H0 H x y s u Qd Q b f i rx ry h w => by
  unfold fRep at h
  split at h
  · rename_i xs k ex
    obtain ⟨p, vs, rfl, sq, r⟩ := rx.seq b ex
    exact ⟨p, k, vs, rfl, ry.flat (u := .int k) rfl, sq.1, h.1, h.2.1, by rw [r.length]; exact h.2.2.1, Want.lst (b.fr f i) w (r.rep _) h.2.2.2⟩
  · exact h.elim⟩
/-! ### in -/
def dflat : PyData → Option V
  | .none => some .non
  | .bool b => some (.bl b)
  | .int i => some (.int i)
  | .str x => some (.str x)
  | _ => none
def dflats : List PyData → Option (List V)
  | [] => some []
  | x :: r => match dflat x, dflats r with
    | some v, some vs => some (v :: vs)
    | _, _ => none
theorem rp_flat {A : Addr → Prop} {H : Hp} {v u : V} {x : PyData} (h : Rp K A H v x) (e : dflat x = some u) : v = u ∧ flatV u = true := by
  cases h <;> cases e <;> exact ⟨rfl, rfl⟩
theorem rps_flat {A : Addr → Prop} {H : Hp} : ∀ {vs us : List V} {xs : List PyData}, RpAll K A H vs xs → dflats xs = some us → vs = us ∧ us.all flatV = true
  | _, _, _, .nil, e => by
    cases e
    exact ⟨rfl, rfl⟩
  | _, _, _, .cons h r, e => by
    unfold dflats at e
    split at e
    · rename_i v vs e1 e2
      cases e
      obtain ⟨rfl, a1⟩ := rp_flat h e1
      obtain ⟨rfl, a2⟩ := rps_flat r e2
      exact ⟨rfl, by rw [List.all_cons, a1, a2]; rfl⟩
    · cases e
def fIn (neg : Bool) : Sl → Sl → (Sl → Prop) → Prop := fun s u Qd => match s.dat.bind dflat, u.sq.bind dflats with
  | some x, some ys => Qd (.d (.bool (if neg then !inV x ys else inV x ys)))
  | _, _ => False
instance {neg : Bool} : Ref2 K (rIn K neg) (fIn neg) := ⟨fun W A H0 H x y s u Qd Q b f i rx ry h w => by
  unfold fIn at h
  split at h
  · rename_i v vs ex ey
    obtain ⟨d, e1, e2⟩ := Option.bind_eq_some_iff.mp ex
    obtain ⟨ds, e3, e4⟩ := Option.bind_eq_some_iff.mp ey
    obtain ⟨rfl, a1⟩ := rp_flat (rx.dat b e1) e2
    obtain ⟨p, us, rfl, sq, r⟩ := ry.sq b i e3
    obtain ⟨rfl, a2⟩ := rps_flat r e4
    exact ⟨p, us, rfl, sq, a1, a2, w.here i _ h⟩
  · exact h.elim⟩
/-! ### built-in calls -/
def fLen : List Sl → (Sl → Prop) → Prop := fun ss Qd => match ss with
  | [s] => (match s.sq with
    | some xs => Qd (.d (.int xs.length))
    | none => False)
  | _ => False
instance : RefC K (fun xs H Q => ∃ p ys, xs = [.ref p] ∧ (SqL K H p ys ∨ SqT K H p ys) ∧ Q (.int ys.length) H) fLen := ⟨fun W A H0 H xs ss Qd Q b f i rx h w => by
  unfold fLen at h
  split at h
  · obtain ⟨v, rfl, r⟩ := vlsr1 rx
    split at h
    · rename_i xs ex
      obtain ⟨p, vs, rfl, sq, r⟩ := r.sq b i ex
      refine ⟨p, vs, rfl, sq, ?_⟩
      rw [r.length]
      exact w.here i _ h
    · exact h.elim
  · exact h.elim⟩
def fLenS : List Sl → (Sl → Prop) → Prop := fun ss Qd => match ss with
  | [.d (.str z)] => z.length ≤ sizeLine ∧ Qd (.d (.int z.length))
  | _ => False
instance : RefC K (fun xs H Q => ∃ z, xs = [.str z] ∧ z.length ≤ sizeLine ∧ Q (.int z.length) H) fLenS := ⟨fun W A H0 H xs ss Qd Q b f i rx h w => by
  unfold fLenS at h
  split at h
  · rename_i z
    obtain ⟨v, rfl, r⟩ := vlsr1 rx
    obtain rfl := r.flat (u := .str z) rfl
    exact ⟨z, rfl, h.1, w.here i _ h.2⟩
  · exact h.elim⟩
/-- isinstance(x, T), T a built-in class -/
def tyD : PyData → String
  | .none => "NoneType"
  | .bool _ => "bool"
  | .int _ => "int"
  | .str _ => "str"
  | .list _ => "list"
  | .tuple _ => "tuple"
  | .dict _ => "dict"
def isiD (n T : String) : Bool := n == T || (n == "bool" && T == "int")
def okTy (T : String) : Prop := T = "int" ∨ T = "bool" ∨ T = "tuple" ∨ T = "list" ∨ T = "str" ∨ T = "dict"
theorem isi_kit (x : PyData) {T : String} (h : okTy T) : PySem.W.kitOne K (.type (tyD x)) (.type T) = some (isiD (tyD x) T) := by
  rcases h with rfl | rfl | rfl | rfl | rfl | rfl <;> cases x <;> (simp only [tyD]; exact kit_ty (by decide +kernel))
theorem rp_ty {A : Addr → Prop} {H : Hp} {v : V} {x : PyData} (h : Rp K A H v x) : TyX K H v (.type (tyD x)) := by
  cases h with
  | non => exact .base .non
  | bl b => exact .base (.bl b)
  | int i => exact .base (.int i)
  | str x => exact .base (.str x)
  | lst q r => exact .base (.lst q.1)
  | tup q r =>
    rcases sqTA_sq q with (e | ⟨o, e⟩) | ⟨o, its, n, e, c, _⟩
    · exact .base (.tup e)
    · exact .fTuple e
    · exact .kTuple e c
  | dct e n r => exact .base (.dK e)
def fIsi : List Sl → (Sl → Prop) → Prop := fun ss Qd => match ss with
  | [s, .raw (.ty T)] => (match s.dat with
    | some x => okTy T ∧ Qd (.d (.bool (isiD (tyD x) T)))
    | none => False)
  | _ => False
instance : RefC K (rIsi K) fIsi := ⟨fun W A H0 H xs ss Qd Q b f i rx h w => by
  unfold fIsi at h
  split at h
  · rename_i s T
    obtain ⟨v, u, rfl, r, r'⟩ := vlsr2 rx
    obtain rfl := r'.flat (u := .ty T) rfl
    split at h
    · rename_i x ex
      exact ⟨v, _, _, _, _, rfl, .ty T, rp_ty (r.dat b ex), isi_kit x h.1, w.here i _ h.2⟩
    · exact h.elim
  · exact h.elim⟩
end
end Dl

namespace Dl
open PySem PySem.Spec PyProof.Rows L2
section
variable {K : PySem.W.Frag} {E : XK}
/-! ### built-in calls over lists -/
def dint : PyData → Option Int
  | .int i => some i
  | _ => none
def dbool : PyData → Option Bool
  | .bool b => some b
  | _ => none
def dstr : PyData → Option Str
  | .str b => some b
  | _ => none
def oAll {α : Type} (f : PyData → Option α) : List PyData → Option (List α)
  | [] => some []
  | x :: r => match f x, oAll f r with
    | some a, some as => some (a :: as)
    | _, _ => none
theorem oAll_map {α : Type} {f : PyData → Option α} {g : α → PyData} (h : ∀ x a, f x = some a → x = g a) : ∀ {xs : List PyData} {as : List α}, oAll f xs = some as → xs = as.map g
  | [], _, e => by
    cases e
    rfl
  | x :: r, as, e => by
    unfold oAll at e
    split at e
    · rename_i a as' e1 e2
      cases e
      rw [h x a e1, oAll_map h e2]
      rfl
    · cases e
theorem oAll_of {α : Type} {f : PyData → Option α} {g : α → PyData} (h : ∀ a, f (g a) = some a) : ∀ as : List α, oAll f (as.map g) = some as
  | [] => rfl
  | a :: r => by
    rw [List.map_cons]
    unfold oAll
    rw [h a, oAll_of h r]
theorem dint_eq : ∀ (x : PyData) (a : Int), dint x = some a → x = .int a := fun x a e => by cases x <;> cases e; rfl
theorem dbool_eq : ∀ (x : PyData) (a : Bool), dbool x = some a → x = .bool a := fun x a e => by cases x <;> cases e; rfl
theorem dstr_eq : ∀ (x : PyData) (a : Str), dstr x = some a → x = .str a := fun x a e => by cases x <;> cases e; rfl
theorem ints_of (ns : List Int) : oAll dint (ns.map PyData.int) = some ns := oAll_of (g := PyData.int) (fun _ => rfl) ns
theorem bools_of (ns : List Bool) : oAll dbool (ns.map PyData.bool) = some ns := oAll_of (g := PyData.bool) (fun _ => rfl) ns
theorem strs_of (ns : List Str) : oAll dstr (ns.map PyData.str) = some ns := oAll_of (g := PyData.str) (fun _ => rfl) ns
/-- f of a list of ints, of truths -/
def fInts (g : List Int → (Sl → Prop) → Prop) : List Sl → (Sl → Prop) → Prop := fun ss Qd => match ss with
  | [s] => (match s.seq.bind (oAll dint) with
    | some ns => g ns Qd
    | none => False)
  | _ => False
def fBools (g : List Bool → (Sl → Prop) → Prop) : List Sl → (Sl → Prop) → Prop := fun ss Qd => match ss with
  | [s] => (match s.seq.bind (oAll dbool) with
    | some ns => g ns Qd
    | none => False)
  | _ => False
theorem fInts_go {g : List Int → (Sl → Prop) → Prop} {W : Wld τ} {A : Addr → Prop} {H0 H : Hp} {xs : List V} {ss : List Sl} {Qd : Sl → Prop} (b : Bs W A H0) (rx : VlsR K W A H0 H xs ss) (h : fInts g ss Qd) : ∃ (p : Addr) (ns : List Int), xs = [.ref p] ∧ H p = some (.lst (ns.map V.int)) ∧ g ns Qd := by
  unfold fInts at h
  split at h
  · obtain ⟨v, rfl, r⟩ := vlsr1 rx
    split at h
    · rename_i ns ex
      obtain ⟨ds, e1, e2⟩ := Option.bind_eq_some_iff.mp ex
      obtain ⟨p, vs, rfl, sq, r⟩ := r.seq b e1
      rw [oAll_map dint_eq e2] at r
      have z := r.ints
      subst z
      exact ⟨p, ns, rfl, sq.1, h⟩
    · exact h.elim
  · exact h.elim
theorem fBools_go {g : List Bool → (Sl → Prop) → Prop} {W : Wld τ} {A : Addr → Prop} {H0 H : Hp} {xs : List V} {ss : List Sl} {Qd : Sl → Prop} (b : Bs W A H0) (rx : VlsR K W A H0 H xs ss) (h : fBools g ss Qd) : ∃ (p : Addr) (ns : List Bool), xs = [.ref p] ∧ H p = some (.lst (ns.map V.bl)) ∧ g ns Qd := by
  unfold fBools at h
  split at h
  · obtain ⟨v, rfl, r⟩ := vlsr1 rx
    split at h
    · rename_i ns ex
      obtain ⟨ds, e1, e2⟩ := Option.bind_eq_some_iff.mp ex
      obtain ⟨p, vs, rfl, sq, r⟩ := r.seq b e1
      rw [oAll_map dbool_eq e2] at r
      have z := r.bools
      subst z
      exact ⟨p, ns, rfl, sq.1, h⟩
    · exact h.elim
  · exact h.elim
def gAll : List Bool → (Sl → Prop) → Prop := fun bs Qd => Qd (.d (.bool (bs.all id)))
def gAny : List Bool → (Sl → Prop) → Prop := fun bs Qd => Qd (.d (.bool (bs.any id)))
def gSum : List Int → (Sl → Prop) → Prop := fun ns Qd => Qd (.d (.int ns.sum))
def gMax : List Int → (Sl → Prop) → Prop := fun ns Qd => 0 < ns.length ∧ ∀ m, m ∈ ns → (∀ y, y ∈ ns → y ≤ m) → Qd (.d (.int m))
def gMin : List Int → (Sl → Prop) → Prop := fun ns Qd => 0 < ns.length ∧ ∀ m, m ∈ ns → (∀ y, y ∈ ns → m ≤ y) → Qd (.d (.int m))
def gSort : List Int → (Sl → Prop) → Prop := fun ns Qd => ns.length < 64 ∧ ∀ ns' : List Int, ns'.Perm ns → ns'.Pairwise (· ≤ ·) → Qd (.ml (ns'.map PyData.int))
instance : RefC K (rAll K) (fBools gAll) := ⟨fun W A H0 H xs ss Qd Q b f i rx h w => by
  obtain ⟨p, ns, rfl, e, q⟩ := fBools_go b rx h
  exact ⟨p, ns, rfl, SqL.of e, w.here i _ q⟩⟩
instance : RefC K (rAny K) (fBools gAny) := ⟨fun W A H0 H xs ss Qd Q b f i rx h w => by
  obtain ⟨p, ns, rfl, e, q⟩ := fBools_go b rx h
  exact ⟨p, ns, rfl, SqL.of e, w.here i _ q⟩⟩
instance : RefC K (rSum K) (fInts gSum) := ⟨fun W A H0 H xs ss Qd Q b f i rx h w => by
  obtain ⟨p, ns, rfl, e, q⟩ := fInts_go b rx h
  exact ⟨p, ns, rfl, SqL.of e, w.here i _ q⟩⟩
instance : RefC K (rMax K) (fInts gMax) := ⟨fun W A H0 H xs ss Qd Q b f i rx h w => by
  obtain ⟨p, ns, rfl, e, q0, q⟩ := fInts_go b rx h
  exact ⟨p, ns, rfl, SqL.of e, q0, fun m h1 h2 => w.here i _ (q m h1 h2)⟩⟩
instance : RefC K (rMin K) (fInts gMin) := ⟨fun W A H0 H xs ss Qd Q b f i rx h w => by
  obtain ⟨p, ns, rfl, e, q0, q⟩ := fInts_go b rx h
  exact ⟨p, ns, rfl, SqL.of e, q0, fun m h1 h2 => w.here i _ (q m h1 h2)⟩⟩
instance : RefC K (rSorted K) (fInts gSort) := ⟨fun W A H0 H xs ss Qd Q b f i rx h w => by
  obtain ⟨p, ns, rfl, e, q0, q⟩ := fInts_go b rx h
  exact ⟨p, ns, rfl, SqL.of e, q0, fun ns' p' h1 h2 n => Want.lst (b.fr f i) w (.of_ints ns') (q ns' h1 h2) p' n⟩⟩
/-- max(m, n), min(m, n), abs -/
def f2I (g : Int → Int → Int) : List Sl → (Sl → Prop) → Prop := fun ss Qd => match ss with
  | [.d (.int i), .d (.int j)] => Qd (.d (.int (g i j)))
  | _ => False
instance : RefC K (fun xs H Q => ∃ i j, xs = [.int i, .int j] ∧ Q (.int (if j > i then j else i)) H) (f2I fun i j => if j > i then j else i) := ⟨fun W A H0 H xs ss Qd Q b f i rx h w => by
  unfold f2I at h
  split at h
  · rename_i m n
    obtain ⟨v, u, rfl, r, r'⟩ := vlsr2 rx
    obtain rfl := r.flat (u := .int m) rfl
    obtain rfl := r'.flat (u := .int n) rfl
    exact ⟨m, n, rfl, w.here i _ h⟩
  · exact h.elim⟩
instance : RefC K (fun xs H Q => ∃ i j, xs = [.int i, .int j] ∧ Q (.int (if j < i then j else i)) H) (f2I fun i j => if j < i then j else i) := ⟨fun W A H0 H xs ss Qd Q b f i rx h w => by
  unfold f2I at h
  split at h
  · rename_i m n
    obtain ⟨v, u, rfl, r, r'⟩ := vlsr2 rx
    obtain rfl := r.flat (u := .int m) rfl
    obtain rfl := r'.flat (u := .int n) rfl
    exact ⟨m, n, rfl, w.here i _ h⟩
  · exact h.elim⟩
/-- int(x) of an int, a truth; str(n) -/
def fInt : List Sl → (Sl → Prop) → Prop := fun ss Qd => match ss with
  | [.d (.int i)] => Qd (.d (.int i))
  | [.d (.bool k)] => Qd (.d (.int (if k then 1 else 0)))
  | _ => False
instance : RefC K (fun xs H Q => (∃ i, xs = [.int i] ∧ Q (.int i) H) ∨ ∃ k, xs = [.bl k] ∧ Q (.int (if k then 1 else 0)) H) fInt := ⟨fun W A H0 H xs ss Qd Q b f i rx h w => by
  unfold fInt at h
  split at h
  · rename_i m
    obtain ⟨v, rfl, r⟩ := vlsr1 rx
    obtain rfl := r.flat (u := .int m) rfl
    exact .inl ⟨m, rfl, w.here i _ h⟩
  · rename_i m
    obtain ⟨v, rfl, r⟩ := vlsr1 rx
    obtain rfl := r.flat (u := .bl m) rfl
    exact .inr ⟨m, rfl, w.here i _ h⟩
  · exact h.elim⟩
def fStr : List Sl → (Sl → Prop) → Prop := fun ss Qd => match ss with
  | [.d (.int i)] => i.natAbs.log2 < 1920 ∧ Qd (.d (.str (toString i)))
  | _ => False
instance : RefC K (fun xs H Q => ∃ i, xs = [.int i] ∧ i.natAbs.log2 < 1920 ∧ Q (.str (toString i)) H) fStr := ⟨fun W A H0 H xs ss Qd Q b f i rx h w => by
  unfold fStr at h
  split at h
  · rename_i m
    obtain ⟨v, rfl, r⟩ := vlsr1 rx
    obtain rfl := r.flat (u := .int m) rfl
    exact ⟨m, rfl, h.1, w.here i _ h.2⟩
  · exact h.elim⟩
/-- list(x), tuple(x) -/
def fList : List Sl → (Sl → Prop) → Prop := fun ss Qd => match ss with
  | [s] => (match s.sq with
    | some xs => Qd (.ml xs)
    | none => False)
  | _ => False
instance : RefC K (fun xs H Q => ∃ p ys, xs = [.ref p] ∧ (SqL K H p ys ∨ SqT K H p ys) ∧ ∀ l, H l = none → Q (.ref l) (upd H l (.lst ys))) fList := ⟨fun W A H0 H xs ss Qd Q b f i rx h w => by
  unfold fList at h
  split at h
  · obtain ⟨v, rfl, r⟩ := vlsr1 rx
    split at h
    · rename_i xs ex
      obtain ⟨p, vs, rfl, sq, r⟩ := r.sq b i ex
      exact ⟨p, vs, rfl, sq, Want.lst (b.fr f i) w r h⟩
    · exact h.elim
  · exact h.elim⟩
def fTuple : List Sl → (Sl → Prop) → Prop := fun ss Qd => match ss with
  | [s] => (match s.sq with
    | some xs => Qd (.d (.tuple xs))
    | none => False)
  | _ => False
instance : RefC K (fun xs H Q => ∃ p ys, xs = [.ref p] ∧ ((SqL K H p ys ∧ ∀ l, H l = none → Q (.ref l) (upd H l (.tup ys))) ∨ (SqT K H p ys ∧ Q (.ref p) H))) fTuple := ⟨fun W A H0 H xs ss Qd Q b f i rx h w => by
  unfold fTuple at h
  split at h
  · obtain ⟨v, rfl, r⟩ := vlsr1 rx
    rename_i s
    have tup : ∀ ys, s.seq = some ys → s.sq = some ys → Qd (.d (.tuple ys)) → ∃ p zs, [v] = [.ref p] ∧ ((SqL K H p zs ∧ ∀ l, H l = none → Q (.ref l) (upd H l (.tup zs))) ∨ (SqT K H p zs ∧ Q (.ref p) H)) := fun ys e1 _ q => by
      obtain ⟨p, vs, rfl, sq, r⟩ := r.seq b e1
      exact ⟨p, vs, rfl, .inl ⟨sqLA_sq sq, Want.tup (b.fr f i) w r q⟩⟩
    split at h
    · rename_i xs ex
      cases s with
      | d x =>
        cases x with
        | tuple ys =>
          obtain rfl : ys = xs := Option.some.inj ex
          have r' : Rp K A H v (.tuple ys) := r
          obtain ⟨p, vs, rfl, sq, _⟩ := Rp.tup_ r'
          exact ⟨p, vs, rfl, .inr ⟨sq, w _ H (.d (.tuple ys)) (Fr.refl H) i r' h⟩⟩
        | list ys =>
          obtain rfl : ys = xs := Option.some.inj ex
          exact tup ys rfl rfl h
        | _ => cases ex
      | ml ys =>
        obtain rfl : ys = xs := Option.some.inj ex
        exact tup ys rfl rfl h
      | bl ys =>
        obtain rfl : ys = xs := Option.some.inj ex
        exact tup ys rfl rfl h
      | scr ns =>
        obtain rfl : ns.map PyData.int = xs := Option.some.inj ex
        obtain ⟨a, rfl, q⟩ := r
        exact ⟨a, _, rfl, .inl ⟨q H i, Want.tup (b.fr f i) w (.of_ints ns) h⟩⟩
      | _ => cases ex
    · exact h.elim
  · exact h.elim⟩
/-! ### a list of one's own grows, is set -/
theorem own_here {W : Wld τ} {A : Addr → Prop} {H : Hp} {p : Addr} {s : Sl} (h : SlR K W A H (some (.ref p)) s) (k : s.isOwn) : ∃ ho, H p = some ho ∧ Mb ho ∧ ¬ W.B p ∧ A p := by
  cases s with
  | ml xs =>
    obtain ⟨q, vs, e, e1, n, a, _⟩ := h
    cases e
    exact ⟨_, e1, .lst _, n, a⟩
  | mo o =>
    obtain ⟨q, ho, e, e1, n, a, r⟩ := h
    cases e
    exact ⟨_, e1, r.mb, n, a⟩
  | _ => exact k.elim
theorem Cor.mutO {W0 W : Wld τ} {A0 A : Addr → Prop} {H0 H : Hp} {σ gσ : L2.St} {ρ gρ : List Sl} (c : Cor K W0 A0 H0 W A H σ ρ gσ gρ) {i : Nat} {p : Addr} {s0 s1 : Sl} {ho : HO} (e : ρ[i]? = some s0) (k0 : s0.isOwn) (ev : σ[i]? = some (some (.ref p))) (mb : Mb ho)
    (r : Goes A A H (upd H p ho) → ¬ W.B p → A p → SlR K W A (upd H p ho) (some (.ref p)) s1) :
    Cor K W0 A0 H0 W A (upd H p ho) σ (ρ.set i s1) gσ gρ := by
  have hi := (List.getElem?_eq_some_iff.mp e).1
  have eA : (ρ ++ gρ)[i]? = some s0 := by rw [List.getElem?_append_left hi]; exact e
  have eS : (σ ++ gσ)[i]? = some (some (.ref p)) := by rw [List.getElem?_append_left (by rw [c.lg]; exact hi)]; exact ev
  obtain ⟨v, ev', q0⟩ := c.env.at_ _ _ eA
  rw [eS] at ev'
  cases ev'
  obtain ⟨h0, e2, mb0, nB, aP⟩ := own_here q0 k0
  have n0 := c.new i p s0 e k0 ev
  have g : Goes A A H (upd H p ho) := fun b o eb _ nb => ⟨(upd_ne fun (z : b = p) => nb (by rw [z]; exact aP)).trans eb, nb⟩
  refine ⟨c.wl, c.a0, ⟨c.bs.ba, fun a z => ?_, W.own H p h0 ho c.bs.inv e2 mb0 mb nB, fun a xs z e => by
    by_cases h : a = p
    · rw [h, upd_same] at e
      cases e
      cases mb
    · rw [upd_ne h] at e
      exact c.bs.nt a xs z e⟩, ⟨fun b o eb t nb => ?_, fun b hb => ?_⟩, ?_, by rw [List.length_set, c.lg], fun j q t f1 f0 f2 => ?_⟩
  · by_cases h : a = p
    · subst h
      exact ⟨_, upd_same, mb.nt⟩
    · obtain ⟨o, e1, t1⟩ := c.bs.dom a z
      exact ⟨o, (upd_ne h).trans e1, t1⟩
  · rw [upd_ne (ne_nob eb t n0)]
    exact c.fr.1 b o eb t nb
  · by_cases h : b = p
    · subst h
      exact ⟨_, upd_same, mb.nt⟩
    · obtain ⟨o, e1, t1⟩ := c.fr.2 b hb
      exact ⟨o, (upd_ne h).trans e1, t1⟩
  · rw [set_app hi]
    refine ⟨by rw [List.length_set]; exact c.env.len, fun j s ej => ?_, fun j k q t s ne f1 f0 f2 f3 f4 f5 => ?_⟩
    · rcases get_set ej with ⟨rfl, rfl, _⟩ | ⟨nj, ej⟩
      · exact ⟨_, eS, r g nB aP⟩
      · obtain ⟨w, ew, q⟩ := c.env.at_ j s ej
        refine ⟨w, ew, ?_⟩
        have far : s.foot → ∀ q' : Addr, w = some (.ref q') → q' ≠ p := fun hf q' e1 z => by
          subst z
          subst e1
          exact c.env.dis i j q' _ _ nj eA k0 ej hf eS ew
        cases s with
        | un => exact q
        | d x =>
          obtain ⟨u, e1, r1⟩ := q
          exact ⟨u, e1, r1.go g⟩
        | ml zs =>
          obtain ⟨q', ws, f1, f2, f3, f4, f5⟩ := q
          exact ⟨q', ws, f1, (upd_ne (far trivial q' f1)).trans f2, f3, f4, f5.go g⟩
        | bl zs =>
          obtain ⟨q', ws, f1, f2, f3⟩ := q
          exact ⟨q', ws, f1, ⟨(upd_ne (far trivial q' f1)).trans f2.1, f2.2⟩, f3.go g⟩
        | st => exact q
        | scr ns => exact q
        | raw u => exact q
        | mo o =>
          obtain ⟨q', ws, f1, f2, f3, f4, f5⟩ := q
          exact ⟨q', ws, f1, (upd_ne (far trivial q' f1)).trans f2, f3, f4, f5.go g⟩
        | bo o =>
          obtain ⟨q', ws, f1, f2, f3, f4⟩ := q
          exact ⟨q', ws, f1, (upd_ne (far trivial q' f1)).trans f2, f3, f4.go g⟩
    · rcases get_set f1 with ⟨rfl, z, _⟩ | ⟨n1, f1⟩
      · rcases get_set f2 with ⟨z2, _, _⟩ | ⟨n2, f2⟩
        · exact ne z2
        · exact c.env.dis i k q s0 s ne eA k0 f2 f3 f4 f5
      · rcases get_set f2 with ⟨rfl, z, _⟩ | ⟨n2, f2⟩
        · exact c.env.dis j i q t _ ne f1 f0 eA (own_foot k0) f4 f5
        · exact c.env.dis j k q t s ne f1 f0 f2 f3 f4 f5
  · rcases get_set f1 with ⟨rfl, z, _⟩ | ⟨nj, f1⟩
    · exact c.new i q s0 e k0 f2
    · exact c.new j q t f1 f0 f2
theorem Cor.mut {W0 W : Wld τ} {A0 A : Addr → Prop} {H0 H : Hp} {σ gσ : L2.St} {ρ gρ : List Sl} (c : Cor K W0 A0 H0 W A H σ ρ gσ gρ) {i : Nat} {p : Addr} {xs ys : List PyData} {us : List V} (e : ρ[i]? = some (.ml xs)) (ev : σ[i]? = some (some (.ref p))) (r : RpAll K A H us ys) :
    Cor K W0 A0 H0 W A (upd H p (.lst us)) σ (ρ.set i (.ml ys)) gσ gρ := c.mutO (s1 := .ml ys) e trivial ev (.lst us) fun g nB aP => ⟨p, us, rfl, upd_same, nB, aP, r.go g⟩
theorem Cor.own_at {W0 W : Wld τ} {A0 A : Addr → Prop} {H0 H : Hp} {σ gσ : L2.St} {ρ gρ : List Sl} (c : Cor K W0 A0 H0 W A H σ ρ gσ gρ) {i : Nat} {xs : List PyData} (e : ρ[i]? = some (.ml xs)) : ∃ p vs, σ[i]? = some (some (.ref p)) ∧ H p = some (.lst vs) ∧ ¬ W.B p ∧ RpAll K A H vs xs := by
  have hi := (List.getElem?_eq_some_iff.mp e).1
  obtain ⟨v, ev', p', vs, e1, e2, nB, aP, r0⟩ := (c.env.pre c.lg).at_ _ _ e
  subst e1
  exact ⟨p', vs, ev', e2, nB, r0⟩
/-- xs.append(e) -/
def dApp (i : Nat) (fe : TD) : TDS := fun dd R ρ => match (ρ[i]?).getD .un with
  | .ml xs => fe ρ (fun s => xs.length < sizeLine ∧ match s.dat with
    | some y => dd.nx (ρ.set i (.ml (xs ++ [y])))
    | none => False) R
  | _ => False
theorem own_iff {ρ : List Sl} {i : Nat} {P : List PyData → Prop} (h : (match (ρ[i]?).getD .un with
  | .ml xs => P xs
  | _ => False)) : ∃ xs, ρ[i]? = some (.ml xs) ∧ P xs := by
  cases e : ρ[i]? with
  | none =>
    rw [e] at h
    exact h.elim
  | some s =>
    rw [e] at h
    cases s with
    | ml xs => exact ⟨xs, rfl, h⟩
    | _ => exact h.elim
instance {i : Nat} {t : TE} {f : TD} [ht : RefE K τ E t f] : RefS K τ E (tDrop (tBM K "list" rAppend (tVar i) (tCons t tNil))) (dApp i f) := ⟨fun W A0 H0 D dd R H σ ρ gσ gρ b sr er ek h => by
  obtain ⟨W', A, c⟩ := sr
  obtain ⟨xs, e, q⟩ := own_iff (P := fun xs => f ρ (fun s => xs.length < sizeLine ∧ match s.dat with
    | some y => dd.nx (ρ.set i (.ml (xs ++ [y])))
    | none => False) R) h
  obtain ⟨p, vs, ev, ep, nB, r0⟩ := c.own_at e
  refine ⟨.ref p, ev, .inl ⟨rfl, _, SqL.of ep⟩, ?_⟩
  refine ht.go W' A H σ ρ _ R _ (c.at_ ek) q fun v H1 s f1 i1 r1 q1 => ?_
  obtain ⟨hs, q1⟩ := q1
  obtain ⟨y, ey, q2⟩ := dat_iff (P := fun y => dd.nx (ρ.set i (.ml (xs ++ [y])))) q1
  have c1 := c.step f1 i1
  have r1' := r0.go (goes_fr c.bs.ba f1)
  refine ⟨p, vs, v, rfl, rfl, f1.1 _ _ ep nt_lst nB, by rw [r0.length]; exact hs, ?_⟩
  exact er.nx _ _ _ ⟨W', A, c1.mut e ev (r1'.append (.one (r1.dat c.bs ey)))⟩ q2⟩
/-- xs[k] = e -/
def dSetI (i : Nat) (fe fk : TD) : TDS := fun dd R ρ => fe ρ (fun s => match (ρ[i]?).getD .un with
  | .ml xs => fk ρ (fun u => match s.dat, u with
    | some y, .d (.int k) => (match ixN xs.length k with
      | some j => dd.nx (ρ.set i (.ml (xs.set j y)))
      | none => False)
    | _, _ => False) R
  | _ => False) R
instance {i : Nat} {t tk : TE} {f fk : TD} [ht : RefE K τ E t f] [hk : RefE K τ E tk fk] : RefS K τ E (tAsg t (gSub (tVar i) tk rSetL)) (dSetI i f fk) := ⟨fun W A0 H0 D dd R H σ ρ gσ gρ b sr er ek h => by
  obtain ⟨W', A, c⟩ := sr
  refine ht.go W' A H σ ρ _ R _ (c.at_ ek) h fun v H1 s f1 i1 r1 q1 => ?_
  obtain ⟨xs, e, q⟩ := own_iff (P := fun xs => fk ρ (fun u => match s.dat, u with
    | some y, .d (.int k) => (match ixN xs.length k with
      | some j => dd.nx (ρ.set i (.ml (xs.set j y)))
      | none => False)
    | _, _ => False) R) q1
  have c1 := c.step f1 i1
  obtain ⟨p, vs, ev, ep, nB, r0⟩ := c1.own_at e
  refine ⟨.ref p, ev, ?_⟩
  refine hk.go W' A H1 σ ρ _ R _ (c1.at_ ek) q fun u H2 s2 f2 i2 r2 q2 => ?_
  have c2 := c1.step f2 i2
  split at q2
  · rename_i y k ey
    split at q2
    · rename_i j ej
      have ry := ((r1.early (Fr.refl H)).fr c.bs f2).dat c.bs ey
      exact ⟨p, vs, k, j, rfl, r2.flat (u := .int k) rfl, f2.1 _ _ ep nt_lst nB, by rw [r0.length]; exact ej, er.nx _ _ _ ⟨W', A, c2.mut e ev ((r0.go (goes_fr c1.bs.ba f2)).set ry j)⟩ q2⟩
    · exact q2.elim
  · exact q2.elim⟩
/-- x += e of ints -/
def dAug (i : Nat) (fe : TD) (g : Int → Int → Int) : TDS := fun dd R ρ => match (ρ[i]?).getD .un with
  | .d (.int m) => fe ρ (fun s => match s with
    | .d (.int n) => dd.nx (ρ.set i (.d (.int (g m n))))
    | _ => False) R
  | _ => False
instance {i : Nat} {t : TE} {f : TD} {g : Int → Int → Int} [ht : RefE K τ E t f] : RefS K τ E (tAug i t (ipI g)) (dAug i f g) := ⟨fun W A0 H0 D dd R H σ ρ gσ gρ b sr er ek h => by
  obtain ⟨W', A, c⟩ := sr
  unfold dAug at h
  split at h
  · rename_i m em
    have e : ρ[i]? = some (.d (.int m)) := by
      cases z : ρ[i]? with
      | none =>
        rw [z] at em
        cases em
      | some s =>
        rw [z] at em
        exact congrArg some em
    obtain ⟨v, ev, u, e1, r⟩ := (c.env.pre c.lg).at_ _ _ e
    subst e1
    cases r
    refine ⟨_, ev, ?_⟩
    refine ht.go W' A H σ ρ _ R _ (c.at_ ek) h fun v H1 s f1 i1 r1 q1 => ?_
    split at q1
    · rename_i n
      obtain rfl := r1.flat (u := .int n) rfl
      exact ⟨m, n, rfl, rfl, er.nx _ _ _ ⟨W', A, (c.step f1 i1).set (s := .d (.int (g m n))) trivial ⟨_, rfl, .int _⟩⟩ q1⟩
    · exact q1.elim
  · exact h.elim⟩
/-! ### while -/
def dWhile (c : TDT) (g : TDS) : TDS := fun dd R ρ => ∃ I : Nat → List Sl → Prop, (∃ m, I m ρ) ∧ ∀ m ρ, I m ρ → c ρ (fun b => match b with
  | true => g { dd with nx := fun ρ' => ∃ m', m' < m ∧ I m' ρ', ct := fun ρ' => ∃ m', m' < m ∧ I m' ρ', bk := dd.nx } R ρ
  | false => dd.nx ρ) R
instance {c : TT} {t : TS} {fc : TDT} {g : TDS} [hc : RefT K τ E c fc] [ht : RefS K τ E t g] : RefS K τ E (tWhile c t) (dWhile fc g) := ⟨fun W A0 H0 D dd R H σ ρ gσ gρ b sr er ek h => by
  obtain ⟨I, ⟨m, im⟩, h⟩ := h
  refine ⟨fun m σ H => ∃ ρ, SR K W A0 H0 H σ ρ gσ gρ ∧ I m ρ, ⟨m, ρ, sr, im⟩, fun m σ H ⟨ρ, sr, im⟩ => ?_⟩
  obtain ⟨W', A, co⟩ := sr
  refine hc.go W' A H σ ρ _ R _ (co.at_ ek) (h m ρ im) fun k H1 f1 i1 q => ?_
  have s1 : SR K W A0 H0 H1 σ ρ gσ gρ := ⟨W', A, co.step f1 i1⟩
  cases k with
  | true =>
    refine iteT ⟨fun σ' H' => ∃ ρ', SR K W A0 H0 H' σ' ρ' gσ gρ ∧ ∃ m', m' < m ∧ I m' ρ', fun σ' H' ⟨ρ', s', m', l, z⟩ => ⟨m', l, ρ', s', z⟩, ?_⟩
    exact ht.go W A0 H0 _ { dd with nx := fun ρ' => ∃ m', m' < m ∧ I m' ρ', ct := fun ρ' => ∃ m', m' < m ∧ I m' ρ', bk := dd.nx } R H1 σ ρ gσ gρ b s1 ⟨fun H2 σ2 ρ2 s2 z => ⟨ρ2, s2, z⟩, er.rt, fun H2 σ2 ρ2 s2 z => er.nx H2 σ2 ρ2 s2 z, fun H2 σ2 ρ2 s2 z => ⟨ρ2, s2, z⟩⟩ ek q
  | false => exact iteF (er.nx H1 σ ρ s1 q)⟩
end
end Dl

namespace Dl
open PySem PySem.Spec PyProof.Rows L2
section
variable {K : PySem.W.Frag} {E : XK}
/-! ### what a def promises, by data -/
abbrev SpD := List Sl → (Sl → Prop) → (Er → Prop) → Prop
/-- what may be handed in -/
def Sl.arg : Sl → Prop
  | .un => False
  | .ml _ => False
  | .mo _ => False
  | _ => True
def cv : Bool → Sl → Sl
  | true, .d (.list xs) => .bl xs
  | true, .ml xs => .bl xs
  | false, .ml xs => .d (.list xs)
  | _, .mo o => .bo o
  | _, s => s
def cvs : List Bool → List Sl → List Sl
  | _, [] => []
  | [], s :: ss => cv false s :: cvs [] ss
  | m :: ms, s :: ss => cv m s :: cvs ms ss
/-- by data: in some world that stands; ms tells which lists are but read -/
def spD (K : PySem.W.Frag) (ms : List Bool) (sp : SpD) : Sp := fun vs H Q E => ∃ (τ : List (Addr × Str)) (W : Wld τ) (A : Addr → Prop) (ss : List Sl) (Qd : Sl → Prop) (R : Er → Prop), Bs W A H ∧ VlsR K W A H H vs ss ∧ (∀ s ∈ ss, s.arg) ∧ sp ss Qd R ∧ Want K W A H Qd Q ∧ ErK K W A E H R
theorem VlR.cv {W : Wld τ} {A : Addr → Prop} {H0 H : Hp} {v : V} {s : Sl} (m : Bool) (b : Bs W A H0) (h : VlR K W A H0 H v s) : VlR K W A H H v (Dl.cv m s) ∧ (Dl.cv m s).arg := by
  cases s with
  | un => exact h.elim
  | d x =>
    cases m with
    | false => exact ⟨h, trivial⟩
    | true =>
      cases x with
      | list xs =>
        obtain ⟨p, vs, rfl, sq, r⟩ := h.seq b rfl
        exact ⟨⟨p, vs, rfl, sq, r⟩, trivial⟩
      | _ => exact ⟨h, trivial⟩
  | ml xs =>
    cases m with
    | false => exact ⟨h.dat b rfl, trivial⟩
    | true =>
      obtain ⟨p, vs, rfl, sq, r⟩ := h.seq b rfl
      exact ⟨⟨p, vs, rfl, sq, r⟩, trivial⟩
  | bl xs => cases m <;> exact ⟨h, trivial⟩
  | st => cases m <;> exact ⟨h, trivial⟩
  | scr ns => cases m <;> exact ⟨h, trivial⟩
  | raw u => cases m <;> exact ⟨h, trivial⟩
  | mo o =>
    obtain ⟨p, ho, e, n, e1, r⟩ := h
    cases m <;> exact ⟨⟨p, ho, e, e1, b.nB n, r.go (goes_less fun a z => .inl z)⟩, trivial⟩
  | bo o => cases m <;> exact ⟨h, trivial⟩
theorem VlsR.cvs {W : Wld τ} {A : Addr → Prop} {H0 H : Hp} {vs : List V} {ss : List Sl} (b : Bs W A H0) (h : VlsR K W A H0 H vs ss) : ∀ ms : List Bool, VlsR K W A H H vs (Dl.cvs ms ss) ∧ ∀ s ∈ Dl.cvs ms ss, s.arg := by
  induction h with
  | nil =>
    intro ms
    cases ms <;> exact ⟨.nil, fun _ h => by cases h⟩
  | @cons v vs s ss h1 h2 ih =>
    intro ms
    cases ms with
    | nil =>
      obtain ⟨a, c⟩ := h1.cv false b
      obtain ⟨a', c'⟩ := ih []
      exact ⟨.cons a a', fun s hs => by
        rcases List.mem_cons.mp hs with rfl | hs
        · exact c
        · exact c' s hs⟩
    | cons m ms =>
      obtain ⟨a, c⟩ := h1.cv m b
      obtain ⟨a', c'⟩ := ih ms
      exact ⟨.cons a a', fun s hs => by
        rcases List.mem_cons.mp hs with rfl | hs
        · exact c
        · exact c' s hs⟩
def dCall (ms : List Bool) (sp : SpD) (fa : TDA) : TD := fun ρ Qd R => fa ρ (fun ss => sp (cvs ms ss) Qd R) R
def dCall0 (ms : List Bool) (sp : SpD) (fa : TDA) : TD := fun ρ Qd R => fa ρ (fun ss => sp (cvs ms ss) Qd fun _ => False) R
instance {ms : List Bool} {sp : SpD} {t : TA} {fa : TDA} [ha : RefA K τ E t fa] : RefE K τ E (tCall (spD K ms sp) [] E0 t) (dCall0 ms sp fa) := ⟨fun W A H σ ρ Qd R Q a h w => by
  refine ha.go W A H σ ρ _ R _ a h fun vs H1 ss f1 i1 r1 q => ?_
  obtain ⟨r2, ar⟩ := r1.cvs a.bs ms
  rw [List.append_nil]
  exact ⟨τ, W, A, _, Qd, _, a.bs.fr f1 i1, r2, ar, q, w.back f1, fun er x H' f i z r => r.elim⟩⟩
instance (priority := low) {ms : List Bool} {sp : SpD} {t : TA} {fa : TDA} [ha : RefA K τ E t fa] : RefE K τ E (tCall (spD K ms sp) [] E t) (dCall ms sp fa) := ⟨fun W A H σ ρ Qd R Q a h w => by
  refine ha.go W A H σ ρ _ R _ a h fun vs H1 ss f1 i1 r1 q => ?_
  obtain ⟨r2, ar⟩ := r1.cvs a.bs ms
  rw [List.append_nil]
  exact ⟨τ, W, A, _, Qd, R, a.bs.fr f1 i1, r2, ar, q, w.back f1, (a.fr f1 i1).er⟩⟩
/-! ### a def, by its body -/
def startD (N : List Str) (ss : List Sl) : List Sl := ss ++ List.replicate (N.length - ss.length) .un
/-- what is left to be shown of a def's body -/
def Reads (K : PySem.W.Frag) (E : XK) (t : TS) (N : List Str) (sp : SpD) : Prop := ∃ g, (∀ τ, RefS K τ E t g) ∧ ∀ ss Qd R, sp ss Qd R → g { nx := fun _ => Qd (.d .none), rt := Qd } R (startD N ss)
theorem env_start {W : Wld τ} {A : Addr → Prop} {H : Hp} {N : List Str} {vs : List V} {ss : List Sl} (r : VlsR K W A H H vs ss) (ar : ∀ s ∈ ss, s.arg) : EnvR K W A H (L2.start N vs) (startD N ss) := by
  have hl := r.length
  have noml : ∀ {i : Nat} {s : Sl}, (startD N ss)[i]? = some s → s.isOwn → False := fun {i s} e k => by
    have := List.mem_of_getElem? e
    rcases List.mem_append.mp this with z | z
    · have := ar _ z
      cases s <;> first | exact this | exact k
    · rw [(List.mem_replicate.mp z).2] at k
      exact k
  refine ⟨?_, fun i s e => ?_, fun i j p t s ne e1 e0 _ _ _ _ => noml e1 e0⟩
  · unfold L2.start startD
    rw [List.length_append, List.length_append, List.length_map, List.length_replicate, List.length_replicate, hl]
  · unfold startD at e
    unfold L2.start
    by_cases hi : i < ss.length
    · rw [List.getElem?_append_left hi] at e
      have hi' : i < (vs.map some).length := by rw [List.length_map, hl]; exact hi
      rw [List.getElem?_append_left hi', List.getElem?_map]
      have get : ∀ {vs : List V} {ss : List Sl} {i : Nat} {s : Sl}, VlsR K W A H H vs ss → ss[i]? = some s → ∃ v, vs[i]? = some v ∧ VlR K W A H H v s := by
        intro vs ss i s r
        induction r generalizing i with
        | nil => intro e; simp at e
        | cons a _ ih =>
          intro e
          cases i with
          | zero => simp at e; subst e; exact ⟨_, rfl, a⟩
          | succ i => simp at e; obtain ⟨v, h1, h2⟩ := ih e; exact ⟨v, by simpa using h1, h2⟩
      obtain ⟨v, ev, rv⟩ := get r e
      rw [ev]
      refine ⟨some v, rfl, ?_⟩
      have hs := ar s (List.mem_of_getElem? e)
      cases s with
      | un => exact hs.elim
      | ml xs => exact hs.elim
      | d x => exact ⟨v, rfl, rv⟩
      | bl xs =>
        obtain ⟨p, us, rfl, q⟩ := rv
        exact ⟨p, us, rfl, q⟩
      | st =>
        obtain ⟨z, rfl, q⟩ := rv
        exact ⟨z, rfl, q⟩
      | scr ns =>
        obtain ⟨z, rfl, q⟩ := rv
        exact ⟨z, rfl, q⟩
      | raw u =>
        obtain rfl := rv
        exact rfl
      | mo o => exact hs.elim
      | bo o =>
        obtain ⟨p, us, rfl, q⟩ := rv
        exact ⟨p, us, rfl, q⟩
    · rw [List.getElem?_append_right (by omega)] at e
      have hi2 : i - ss.length < N.length - ss.length := by
        have := (List.getElem?_eq_some_iff.mp e).1
        rwa [List.length_replicate] at this
      rw [List.getElem?_replicate, if_pos hi2] at e
      cases e
      refine ⟨none, ?_, trivial⟩
      rw [List.getElem?_append_right (by rw [List.length_map, hl]; omega), List.length_map, hl, List.getElem?_replicate, if_pos hi2]
theorem Reads.run {t : TS} {N : List Str} {sp : SpD} {ms : List Bool} (h : Reads K E t N sp) {vs : List V} {H : Hp} {Q : VK} (hs : spD K ms sp vs H Q E) : t { nx := fun _ H' => Q .non H', rt := Q } (L2.start N vs) H := by
  obtain ⟨g, hg, h⟩ := h
  obtain ⟨τ, W, A, ss, Qd, R, b, r, ar, q, w, ek⟩ := hs
  have env := env_start (N := N) r ar
  refine (hg τ).go W A H _ { nx := fun _ => Qd (.d .none), rt := Qd } R H _ _ [] [] b ⟨W, A, WLe.refl W H, fun _ z => z, b, Fr.refl H, by rw [List.append_nil, List.append_nil]; exact env, env.len, fun i p t e k _ => ?_⟩ ⟨fun H' σ ρ sr z => ?_, fun v H' s f i r z => w v H' s f i r z, fun H' σ ρ sr z => False.elim z, fun H' σ ρ sr z => False.elim z⟩ ek (h ss Qd R q)
  · have := List.mem_of_getElem? e
    rcases List.mem_append.mp this with z | z
    · have := ar _ z
      cases t <;> first | exact this.elim | exact k.elim
    · rw [(List.mem_replicate.mp z).2] at k
      exact k.elim
  · obtain ⟨W', A', c⟩ := sr
    exact w .non H' (.d .none) c.fr (c.wl.inv _ c.bs.inv) Rp.non z
theorem VlsR.len_sp {ms : List Bool} {sp : SpD} {n : Nat} (hl : ∀ ss Qd R, sp ss Qd R → ss.length = n) : ∀ vs H Q E, spD K ms sp vs H Q E → vs.length = n := fun vs H Q E ⟨τ, W, A, ss, Qd, R, b, r, ar, q, w, ek⟩ => by
  rw [r.length]
  exact hl ss Qd R q
end
section
variable {P : Program} {w : World} {K : PySem.W.Frag} {mg : Str → Option Value} {base : Heap}
theorem okD {x : Str} {st : Stmt} {f : Addr} {fd : FuncData} {N ps : List Str} {k : Nat} {ms : List Bool} {sp : SpD} (F : Fun K x x st f fd) (S : FnScope N ps (defScope st)) (hl : ∀ ss Qd R, sp ss Qd R → ss.length = ps.length)
    (body : ∀ (cdv : Value) (A : Around) (outer : List Env) (s : Shared) (H : Hp) (E : XK), Room k (A.deeper (envOfC x (defScope st) s.heap.objs.size f cdv)) → ∃ t, PSs (cxOf CX0 P w K mg base N x (defScope st) f cdv A outer s H E).nox (defBody st) t ∧ Reads K E t N sp) :
    FnOk P w K mg base CX0 (k + 1) f fd ps (spD K ms sp) :=
  F.ok S (VlsR.len_sp hl) fun cdv A outer s H vs Q E hr h => by
    obtain ⟨t, h1, h2⟩ := body cdv A outer s H E hr
    exact ⟨t, h1, h2.run h⟩
theorem okX {x : Str} {st : Stmt} {f : Addr} {fd : FuncData} {N ps : List Str} {k : Nat} {ms : List Bool} {sp : SpD} (F : Fun K x x st f fd) (S : FnScope N ps (defScope st)) (hl : ∀ ss Qd R, sp ss Qd R → ss.length = ps.length)
    (body : ∀ (cdv : Value) (A : Around) (outer : List Env) (s : Shared) (H : Hp) (E : XK), Room k (A.deeper (envOfC x (defScope st) s.heap.objs.size f cdv)) → ∃ t, PSs (cxOf (L2.CX P w) P w K mg base N x (defScope st) f cdv A outer s H E) (defBody st) t ∧ Reads K E t N sp) :
    FnOk P w K mg base (L2.CX P w) (k + 1) f fd ps (spD K ms sp) :=
  F.okX S (VlsR.len_sp hl) fun cdv A outer s H vs Q E hr h => by
    obtain ⟨t, h1, h2⟩ := body cdv A outer s H E hr
    exact ⟨t, h1, h2.run h⟩
/-- a def without raises keeps its promise where it is called as one with them -/
theorem spD_imp {ms : List Bool} {sp sp' : SpD} (h : ∀ ss Qd R, sp' ss Qd R → sp ss Qd R) : ∀ vs H Q E, spD K ms sp' vs H Q E → spD K ms sp vs H Q E := fun vs H Q E ⟨τ, W, A, ss, Qd, R, b, r, ar, q, w, ek⟩ => ⟨τ, W, A, ss, Qd, R, b, r, ar, h ss Qd R q, w, ek⟩
end
/-! ### raise -/
def tRaise (C : Addr) (E : XK) : TS := fun _ _ H => E (.ref C) none H
def dRaise (C : Addr) : TDS := fun _ R _ => R (C, [])
theorem ps_raiseD {X : Cx} {E : XK} {C : Addr} {e : Expr} {pos : Pos} (hc : X.calm = true) (tk : Takes X (fun cls d _ H => E cls d H)) (he : PMk X e (fun _ H Q => Q (.ref C) none H)) : PS X (.Raise (some e) none pos) (tRaise C E) := ps_raise hc tk he
instance {K : PySem.W.Frag} {E : XK} {C : Addr} : RefS K τ E (tRaise C E) (dRaise C) := ⟨fun W A0 H0 D dd R H σ ρ gσ gρ b sr er ek h => by
  obtain ⟨W', A, c⟩ := sr
  exact ek (C, []) none H c.fr (c.wl.inv _ c.bs.inv) (.inl ⟨rfl, rfl⟩) h⟩
/-! ### a test by truth -/
def tTru (K : PySem.W.Frag) (t : TE) : TT := fun σ H Q => t σ H fun x H' => ∃ k, TruV K x H' k ∧ Q k H'
theorem pt_tru {X : Cx} {a : Expr} {ta : TE} (ha : PE X a ta) (he : ∀ whole, isTrue a X.env whole = (do let v ← whole; standAt a.pos; holding [v] (truthy v))) : PT X a (tTru X.K ta) := pt_truth ha he
def truD : Sl → Option Bool
  | .d .none => some false
  | .d (.bool b) => some b
  | .d (.int i) => some (i != 0)
  | .d (.list xs) => some !xs.isEmpty
  | .d (.tuple xs) => some !xs.isEmpty
  | .ml xs => some !xs.isEmpty
  | .bl xs => some !xs.isEmpty
  | _ => none
def dTru (f : TD) : TDT := fun ρ Qd R => f ρ (fun s => match truD s with
  | some b => Qd b
  | none => False) R
theorem RpAll.empty {K : PySem.W.Frag} {A : Addr → Prop} {H : Hp} {vs : List V} {ds : List PyData} (h : RpAll K A H vs ds) : vs.isEmpty = ds.isEmpty := by
  cases h <;> rfl
instance {K : PySem.W.Frag} {E : XK} {t : TE} {f : TD} [ht : RefE K τ E t f] : RefT K τ E (tTru K t) (dTru f) := ⟨fun W A H σ ρ Qd R Q a h w => by
  refine ht.go W A H σ ρ _ R _ a h fun v H1 s f1 i1 r1 q => ?_
  split at q
  · rename_i b eb
    refine ⟨b, ?_, w b H1 f1 i1 q⟩
    have sq : ∀ xs : List PyData, s.seq = some xs → b = (!xs.isEmpty) → TruV K v H1 b := fun xs e1 e2 => by
      obtain ⟨p, vs, rfl, sq, r⟩ := r1.seq a.bs e1
      exact .inl ⟨vs, sqLA_sq sq, by rw [e2, r.empty]⟩
    cases s with
    | d x =>
      cases x with
      | none =>
        obtain rfl := r1.flat (u := .non) rfl
        exact (Option.some.inj eb).symm
      | bool c =>
        obtain rfl := r1.flat (u := .bl c) rfl
        exact (Option.some.inj eb).symm
      | int c =>
        obtain rfl := r1.flat (u := .int c) rfl
        exact (Option.some.inj eb).symm
      | list xs => exact sq xs rfl (Option.some.inj eb).symm
      | tuple xs =>
        obtain ⟨p, vs, rfl, s2, r⟩ := Rp.tup_ r1
        exact .inr (.inl ⟨vs, s2, by rw [← Option.some.inj eb, r.empty]⟩)
      | str x => cases eb
      | dict x => cases eb
    | ml xs => exact sq xs rfl (Option.some.inj eb).symm
    | bl xs => exact sq xs rfl (Option.some.inj eb).symm
    | _ => cases eb
  · exact q.elim⟩
end Dl

namespace Dl
open PySem PySem.Spec PyProof.Rows L2
section
variable {K : PySem.W.Frag} {E : XK}
/-! ### operators of several kinds -/
def rStrC : R2 := fun x y H Q => ∃ i j, x = .str i ∧ y = .str j ∧ i.length + j.length ≤ sizeLine ∧ Q (.str (i ++ j)) H
def rAddX (K : PySem.W.Frag) : R2 := fun x y H Q => rI0 (fun i j => .int (i + j)) x y H Q ∨ rCatA K x y H Q ∨ rCat x y H Q ∨ rStrC x y H Q
theorem op_addX {X : Cx} : OpR X (binaryOp .Add) (rAddX X.K) := op_add.or (op_catA.or (op_cat.or op_add_str))
def fAddX : Sl → Sl → (Sl → Prop) → Prop := fun s u Qd => match s, u with
  | .d (.int i), .d (.int j) => Qd (.d (.int (i + j)))
  | .d (.tuple xs), .d (.tuple ys) => xs.length + ys.length ≤ sizeLine ∧ Qd (.d (.tuple (xs ++ ys)))
  | .d (.str a), .d (.str b) => a.length + b.length ≤ sizeLine ∧ Qd (.d (.str (a ++ b)))
  | s, u => fCatL s u Qd
instance : Ref2 K (rAddX K) fAddX := ⟨fun W A H0 H x y s u Qd Q b f i rx ry h w => by
  unfold fAddX at h
  split at h
  · exact .inl ((inferInstance : Ref2 K (rI0 fun i j => .int (i + j)) _).go W A H0 H x y _ _ Qd Q b f i rx ry h w)
  · exact .inr (.inl ((inferInstance : Ref2 K (rCatA K) _).go W A H0 H x y _ _ Qd Q b f i rx ry h w))
  · rename_i a c
    exact .inr (.inr (.inr ⟨a, c, rx.flat (u := .str a) rfl, ry.flat (u := .str c) rfl, h.1, w.here i _ h.2⟩))
  · exact .inr (.inr (.inl ((inferInstance : Ref2 K rCat _).go W A H0 H x y _ _ Qd Q b f i rx ry h w)))⟩
def rMulX (K : PySem.W.Frag) : R2 := fun x y H Q => rI CMul (fun i j => .int (i * j)) x y H Q ∨ rRep x y H Q
theorem op_mulX {X : Cx} : OpR X (binaryOp .Mult) (rMulX X.K) := op_mul.or op_rep
def fMulX : Sl → Sl → (Sl → Prop) → Prop := fun s u Qd => match s, u with
  | .d (.int i), .d (.int j) => CMul i j ∧ Qd (.d (.int (i * j)))
  | s, u => fRep s u Qd
instance : Ref2 K (rMulX K) fMulX := ⟨fun W A H0 H x y s u Qd Q b f i rx ry h w => by
  unfold fMulX at h
  split at h
  · exact .inl ((inferInstance : Ref2 K (rI CMul fun i j => .int (i * j)) _).go W A H0 H x y _ _ Qd Q b f i rx ry h w)
  · exact .inr ((inferInstance : Ref2 K rRep _).go W A H0 H x y _ _ Qd Q b f i rx ry h w)⟩
def fIx : Sl → Sl → (Sl → Prop) → Prop := fun s u Qd => match s with
  | .d (.tuple xs) => fIxT (.d (.tuple xs)) u Qd
  | s => fIxL s u Qd
instance : Ref2 K (rIx K) fIx := ⟨fun W A H0 H x y s u Qd Q b f i rx ry h w => by
  unfold fIx at h
  split at h
  · exact .inr (.inl ((inferInstance : Ref2 K (rIxT K) _).go W A H0 H x y _ _ Qd Q b f i rx ry h w))
  · exact .inl ((inferInstance : Ref2 K (rIxL K) _).go W A H0 H x y _ _ Qd Q b f i rx ry h w)⟩
def rSlX (K : PySem.W.Frag) : V → Option Int → Option Int → Hp → VK → Prop := fun x lo hi H Q => rSlA K x lo hi H Q ∨ rSlL K x lo hi H Q
theorem sl_any {X : Cx} : L2.SlR X (rSlX X.K) := sl_tupA.or sl_list
def fSlX : Sl → Option Int → Option Int → (Sl → Prop) → Prop := fun s lo hi Qd => match s with
  | .d (.tuple xs) => Qd (.d (.tuple (cutD xs lo hi)))
  | s => fSlL s lo hi Qd
instance : RefSl K (rSlX K) fSlX := ⟨fun W A H0 H x s lo hi Qd Q b f i rx h w => by
  unfold fSlX at h
  split at h
  · exact .inl ((inferInstance : RefSl K (rSlA K) _).go W A H0 H x _ lo hi Qd Q b f i rx h w)
  · exact .inr ((inferInstance : RefSl K (rSlL K) _).go W A H0 H x _ lo hi Qd Q b f i rx h w)⟩
/-! ### the names of a comprehension -/
class MemO (i : Nat) (own : List (Str × Nat)) : Prop where
  h : i ∈ own.map (·.2)
instance {x : Str} {i : Nat} {own : List (Str × Nat)} : MemO i ((x, i) :: own) := ⟨List.mem_cons_self⟩
instance (priority := low) {p : Str × Nat} {i : Nat} {own : List (Str × Nat)} [h : MemO i own] : MemO i (p :: own) := ⟨List.mem_cons_of_mem _ h.h⟩
instance {own : List (Str × Nat)} : Inc [] (own.map (·.2)) := ⟨fun _ h => by cases h⟩
instance {i : Nat} {own : List (Str × Nat)} [h : MemO i own] : Inc [i] (own.map (·.2)) := ⟨fun j hj => by rw [List.mem_singleton.mp hj]; exact h.h⟩
instance {a b : List Nat} {own : List (Str × Nat)} [ha : Inc a (own.map (·.2))] [hb : Inc b (own.map (·.2))] : Inc (a ++ b) (own.map (·.2)) := ⟨fun j hj => (List.mem_append.mp hj).elim (ha.h j) (hb.h j)⟩
/-! ### comprehensions and loops by what a turn tells -/
/-- one turn of a comprehension, to N -/
def lcStep (fg : FG) (ft : TDT) (fe : TD) (ρ : List Sl) (R : Er → Prop) (d : PyData) (acc : List PyData) (N : List PyData → Prop) : Prop := fg d ρ fun ρ' => ft ρ' (fun b => match b with
    | true => fe ρ' (fun s => acc.length < sizeLine ∧ match s.dat with
      | some y => N (acc ++ [y])
      | none => False) R
    | false => N acc) R
theorem lcD_cons {fg : FG} {ft : TDT} {fe : TD} {ρ : List Sl} {R : Er → Prop} {Qd : List PyData → Prop} {d : PyData} {r acc : List PyData} (h : lcStep fg ft fe ρ R d acc (lcD fg ft fe ρ R Qd r)) : lcD fg ft fe ρ R Qd (d :: r) acc := h
theorem line_1000 {n : Nat} (h : n < 100000) : n < sizeLine := by rw [sizeLine_eq]; omega
/-- what each turn tells, one of S -/
theorem lcD_all {fg : FG} {ft : TDT} {fe : TD} {ρ : List Sl} {R : Er → Prop} {Qd : List PyData → Prop} (S : PyData → PyData → Prop)
    (step : ∀ d acc N, acc.length < sizeLine → (∀ y, S d y → N (acc ++ [y])) → lcStep fg ft fe ρ R d acc N) : ∀ (ds acc : List PyData), acc.length + ds.length ≤ 100000 → (∀ ys, Paired S ds ys → Qd (acc ++ ys)) → lcD fg ft fe ρ R Qd ds acc
  | [], acc, _, h => by
    have := h [] .nil
    rw [List.append_nil] at this
    exact this
  | d :: r, acc, hl, h => by
    rw [List.length_cons] at hl
    refine lcD_cons (step d acc _ (line_1000 (by omega)) fun y sy => ?_)
    refine lcD_all S step r (acc ++ [y]) (by rw [List.length_append, List.length_singleton]; omega) fun ys hy => ?_
    have := h (y :: ys) (.cons sy hy)
    rw [List.append_assoc]
    exact this
theorem lcD_map {fg : FG} {ft : TDT} {fe : TD} {ρ : List Sl} {R : Er → Prop} {Qd : List PyData → Prop} (g : PyData → PyData) : ∀ (ds acc : List PyData),
    (∀ d ∈ ds, ∀ acc N, acc.length < sizeLine → N (acc ++ [g d]) → lcStep fg ft fe ρ R d acc N) → acc.length + ds.length ≤ 100000 → Qd (acc ++ ds.map g) → lcD fg ft fe ρ R Qd ds acc
  | [], acc, _, _, h => by
    rw [List.map_nil, List.append_nil] at h
    exact h
  | d :: r, acc, step, hl, h => by
    rw [List.length_cons] at hl
    refine lcD_cons (step d List.mem_cons_self acc _ (line_1000 (by omega)) ?_)
    refine lcD_map g r (acc ++ [g d]) (fun e he => step e (List.mem_cons_of_mem _ he)) (by rw [List.length_append, List.length_singleton]; omega) ?_
    rw [List.append_assoc]
    exact h
theorem lcD_filter {fg : FG} {ft : TDT} {fe : TD} {ρ : List Sl} {R : Er → Prop} {Qd : List PyData → Prop} (p : PyData → Bool) (g : PyData → PyData) : ∀ (ds acc : List PyData),
    (∀ d ∈ ds, ∀ acc N, acc.length < sizeLine → (p d = true → N (acc ++ [g d])) → (p d = false → N acc) → lcStep fg ft fe ρ R d acc N) → acc.length + ds.length ≤ 100000 → Qd (acc ++ (ds.filter p).map g) → lcD fg ft fe ρ R Qd ds acc
  | [], acc, _, _, h => by
    rw [List.filter_nil, List.map_nil, List.append_nil] at h
    exact h
  | d :: r, acc, step, hl, h => by
    rw [List.length_cons] at hl
    refine lcD_cons (step d List.mem_cons_self acc _ (line_1000 (by omega)) (fun e => ?_) fun e => ?_)
    · refine lcD_filter p g r (acc ++ [g d]) (fun e he => step e (List.mem_cons_of_mem _ he)) (by rw [List.length_append, List.length_singleton]; omega) ?_
      rw [List.filter_cons_of_pos e, List.map_cons] at h
      rw [List.append_assoc]
      exact h
    · refine lcD_filter p g r acc (fun e he => step e (List.mem_cons_of_mem _ he)) (by omega) ?_
      rw [List.filter_cons_of_neg (by rw [e]; exact Bool.false_ne_true)] at h
      exact h
/-- a for by an invariant -/
theorem forD_inv {fg : FG} {gb : TDS} {dd : DEnds} {R : Er → Prop} (ds : List PyData) (I : Nat → List Sl → Prop)
    (step : ∀ (i : Nat) (d : PyData) (ρ : List Sl) (N : List Sl → Prop), ds[i]? = some d → I i ρ → (∀ ρ', I (i + 1) ρ' → N ρ') → fg d ρ fun ρ' => gb { dd with nx := N, ct := N, bk := dd.nx } R ρ')
    (fin : ∀ ρ, I ds.length ρ → dd.nx ρ) : ∀ (n i : Nat), ds.length - i = n → i ≤ ds.length → ∀ ρ, I i ρ → forD fg gb dd R (ds.drop i) ρ
  | 0, i, h, hi, ρ, hI => by
    have e : i = ds.length := by omega
    subst e
    rw [List.drop_length]
    exact fin ρ hI
  | n + 1, i, h, hi, ρ, hI => by
    have hlt : i < ds.length := by omega
    rw [List.drop_eq_getElem_cons hlt]
    exact step i ds[i] ρ _ (List.getElem?_eq_getElem hlt) hI fun ρ' h' => forD_inv ds I step fin n (i + 1) (by omega) (by omega) ρ' h'
theorem forD_by {fg : FG} {gb : TDS} {dd : DEnds} {R : Er → Prop} {ds : List PyData} (I : Nat → List Sl → Prop) {ρ : List Sl} (h0 : I 0 ρ)
    (step : ∀ (i : Nat) (d : PyData) (ρ : List Sl) (N : List Sl → Prop), ds[i]? = some d → I i ρ → (∀ ρ', I (i + 1) ρ' → N ρ') → fg d ρ fun ρ' => gb { dd with nx := N, ct := N, bk := dd.nx } R ρ')
    (fin : ∀ ρ, I ds.length ρ → dd.nx ρ) : forD fg gb dd R ds ρ := forD_inv ds I step fin ds.length 0 rfl (Nat.zero_le _) ρ h0
end
end Dl

namespace Dl
open PySem PySem.Spec PyProof.Rows L2
section
open AutoSeq1 (wpAny_loadPart')
/-! ### enumerate over a tuple -/
abbrev oTupIt (l : Addr) : Obj := { cls := .type "tuple_iterator", data := .fields #[.ref l, .int 0 0] }
abbrev oEnum (j : Addr) : Obj := { cls := .type "enumerate", data := .fields #[.none, .bool false, .ref j, rawInt 0, .none, .none] }
theorem meets_enum_tup (l : Addr) (its : Array Value) (n : Nat) (dc : Option Addr) (sl : Array (Option Value)) :
    Meets (Builtin.«enumerate.__new__» ⟨[.type "enumerate", .ref l], []⟩) (fun _ R s => s.heap.get? l = some { cls := .type "tuple", dict := dc, data := .seq its n, slots := sl } ∧
      R (.ok (.ret (.ref (s.heap.push (oTupIt l)).objs.size))) { s with heap := (s.heap.push (oTupIt l)).push (oEnum s.heap.objs.size) }) :=
  .of_wp fun prog w A R s h => by
    obtain ⟨hp, g, d, tk, os⟩ := s
    obtain ⟨hl, h⟩ := h
    have hsub := sub_enumerate
    have hT : Heap.IsTuple (Shared.heap ⟨hp, g, d, tk, os⟩) l its := ⟨_, hl, rfl, n, rfl⟩
    wp_walk using wpAny_loadPart' hl
    refine wpAny_stack_any fun st => wpAny_pure ?_
    split
    · rename_i c _ _ _ _ _
      cases (c == Value.type "enumerate") <;> (wp_walk using wpAny_loadPart' hl, wpAny_pyIter_tuple hT; exact ⟨_, rfl, h⟩)
    · wp_walk using wpAny_loadPart' hl, wpAny_pyIter_tuple hT
      exact ⟨_, rfl, h⟩
end
theorem call_enum_tup {prog : Program} {w : World} {A : Around} {E : Value → Shared → Prop} {s : Shared} {l : Addr} {its : Array Value} {Q : Value → Shared → Prop} (hT : s.heap.IsTuple l its)
    (h : ∀ h', IsEnum h' (s.heap.objs.size + 1) s.heap.objs.size 0 .none → h'.IsTupleIter s.heap.objs.size l 0 → h'.objs.size = s.heap.objs.size + 2 → (∀ b o, s.heap.get? b = some o → h'.get? b = some o) → Q (.ref (s.heap.objs.size + 1)) { s with heap := h' }) :
    wpAny (model prog w) A (call (.type "enumerate") [.ref l]) Q E s := by
  obtain ⟨⟨c, dc, dt, sl⟩, hl, hc, n, hd⟩ := hT
  replace hc : c = .type "tuple" := hc
  replace hd : dt = .seq its n := hd
  subst hc hd
  refine callType_new F.called_enumerate (by decide) (F.typeCall_enumerate_1 _) (F.newCall_enumerate_1 _) (fun obj => F.args_object_init_2 obj _) F.entry_enumerate_new (meets_enum_tup l its n dc sl) ⟨hl, ?_⟩
  have hz : (s.heap.push (oTupIt l)).objs.size = s.heap.objs.size + 1 := Heap.size_push ..
  show _ ∧ _
  rw [hz]
  have he : IsEnum ((s.heap.push (oTupIt l)).push (oEnum s.heap.objs.size)) (s.heap.objs.size + 1) s.heap.objs.size 0 .none := by
    have z := Heap.get?_push_size (s.heap.push (oTupIt l)) (o := oEnum s.heap.objs.size) rfl
    rw [hz] at z
    exact z
  exact ⟨⟨_, he, rfl⟩, h _ he ⟨_, Heap.get?_push_of_some _ (Heap.get?_push_size _ rfl), rfl, rfl⟩ (by rw [Heap.size_push, hz]) fun b o x => Heap.get?_push_of_some _ (Heap.get?_push_of_some _ x)⟩
/-- the tuple at a as it stands, its items in new pairs with their numbers -/
def ItT (K : PySem.W.Frag) (a : Addr) : It :=
  ⟨fun i H => ∃ (xs : List V) (x : V), SqT K H a xs ∧ xs[i]? = some x,
    fun i H v G => ∃ T x, v = .ref T ∧ H T = none ∧ G = upd H T (.tup [.int (i : Nat), x]) ∧ ∀ xs, SqT K H a xs → xs[i]? = some x,
    fun i H => ∃ xs : List V, SqT K H a xs ∧ xs.length ≤ i⟩
theorem turn_enumT {P : Program} {w : World} {K : PySem.W.Frag} {elts : List Expr} {kk : Nat} {tp : Pos} (a e it : Addr) (hae : e ≠ a) (hai : a ≠ it) :
    Turn P w K (.Tuple elts kk tp) (ItT K a) [e, it] e (fun i h => (∃ old, IsEnum h e it ((i : Nat) : Int) old) ∧ h.IsTupleIter it a i ∧ e ≠ it) where
  mem := by simp
  obj := fun i h st b hb => by
    obtain ⟨⟨old, he⟩, ⟨o, ho, hc, hd⟩, _⟩ := st
    rcases List.mem_cons.mp hb with z | z
    · rw [z]
      exact ⟨_, he, fun v q => nomatch q⟩
    · rw [List.mem_singleton.mp z]
      exact ⟨o, ho, fun v q => by rw [hd] at q; cases q⟩
  keep := fun i h h' st k => let ⟨⟨old, he⟩, hi, ne⟩ := st; ⟨⟨old, k e (by simp) _ he⟩, hi.at fun o q => k it (by simp) o q, ne⟩
  item := by
    intro X hP hw hK hc i pins s σ H E I hf st hg
    subst hP hw hK
    obtain ⟨⟨old, he⟩, hit, ne⟩ := st
    obtain ⟨xs, x, hq, hx⟩ := hg
    obtain ⟨its, rv, p, hz⟩ := I.tuple hq
    obtain ⟨u, hu, ru⟩ := rv.get hx
    have hT : s.heap.IsTuple a its.toArray := p
    have hel : e < s.heap.objs.size := Heap.lt_size he
    have hil : it < s.heap.objs.size := by
      obtain ⟨_, q, _⟩ := hit
      exact Heap.lt_size q
    have hi : i < its.toArray.size := by
      rw [List.size_toArray]
      exact (List.getElem?_eq_some_iff.mp hu).1
    have nf : e ∉ [it, a] := fun z => by
      rcases List.mem_cons.mp z with q | q
      · exact ne q
      · exact hae (List.mem_singleton.mp q)
    refine wpAny_pyNext_enum_itemD (Draws.tuple (A := X.A.in1) (show X.A.in1.handled = none from I.ok.hd hc) it a hai its.toArray) he ⟨hit, hT⟩ hi ne nf fun y h' tk hP ho hst' hTn hsz hk => ?_
    have ey : y = u := by
      have h1 : its[i]? = some y := by simpa using hP
      rw [hu] at h1
      exact (Option.some.inj h1).symm
    subst ey
    refine ⟨_, rfl, wpAny_letOwnedTupleGo_enum (s := { s with heap := h', toks := tk + 1 }) ho fun h2 he' sb => ?_⟩
    have hT2 : h2.get? s.heap.objs.size = some { cls := .type "tuple", data := .seq #[.int i tk, y] } := (sb.2 _ (Nat.ne_of_gt hel)).trans hTn
    have new : ObjOk X.prog X.w (upd H s.heap.objs.size (.tup [.int (i : Nat), x])) h2 s.heap.objs.size (.tup [.int (i : Nat), x]) :=
      ⟨by show 2 ≤ sizeLine; decide, [.int i tk, y], .cons ⟨_, rfl⟩ (.cons ru .nil), ⟨_, hT2, rfl, _, rfl⟩⟩
    have J : Inv X pins σ (upd H s.heap.objs.size (.tup [.int (i : Nat), x])) { s with heap := h2, toks := tk + 1 } :=
      I.turnedNew (ch := [e, it]) (fun b ob hb q => (sb.2 b (fun z => hb (by simp [z]))).trans (hk b ob (fun z => hb (by simp [z])) (fun z => hb (by simp [z])) q)) hf (Nat.le_refl _) new
    refine ⟨.ref s.heap.objs.size, _, J, rfl, ⟨_, x, rfl, I.hok.fresh (Nat.le_refl _), rfl, fun ys hy => by rw [I.tuple_inj hy hq]; exact hx⟩, ⟨⟨y, ?_⟩, hst'.1.at fun o q => (sb.2 it (Ne.symm ne)).trans q, ne⟩, fun b hb => ?_⟩
    · have z : ((i + 1 : Nat) : Int) = (i : Int) + 1 := by omega
      rw [z]
      exact he'
    · have hb' : b < s.heap.objs.size := by
        rcases List.mem_cons.mp hb with z | z
        · rw [z]
          exact hel
        · rw [List.mem_singleton.mp z]
          exact hil
      rw [upd_ne (Nat.ne_of_lt hb')]
      exact (hf b hb).1
  done := by
    intro X hP hw hK hc i pins s σ H E I hf st hg
    subst hP hw hK
    obtain ⟨⟨old, he⟩, hit, ne⟩ := st
    obtain ⟨xs, hq, hx⟩ := hg
    obtain ⟨its, rv, p, hz⟩ := I.tuple hq
    obtain ⟨g0, g1, g2, g3, g4, g5⟩ := hf it (by simp)
    have hT : s.heap.IsTuple a its.toArray := p
    have hl := rv.length
    have T : s.TypeIs (.ref e) "enumerate" := ⟨_, he, rfl⟩
    unfold pyNext
    refine wpAny_bind (wpAny_attempt (wpAny_callSpecial?_slot (name := Str.ofString "__next__") T F.slot_enumerate_next (wpAny_call_entry F.slot_enumerate_next T F.entry_enumerate_next ?_ (F.args_enumerate_next_1 _))))
    show wpAny _ _ (PySem.field (.ref e) 2 >>= _) _ _ _
    refine wpAny_bind (wpAny_field he rfl (x := .ref it) rfl ?_)
    refine wpAny_bind (wpAny_nextOf_tuple_end (I.ok.hd hc) hit hT (by simp; omega) fun h' x eb hx' => ?_)
    obtain ⟨o, ho, hcl⟩ := hx'
    refine wpAny_bind (wpAny_isInstance (T := "StopIteration") (b := true) ⟨o, ho, hcl⟩ isSubtype_stop ?_)
    exact wpAny_pure ⟨rfl, I.turned (t' := s.toks) (fun b o hb q => eb b o hb q) g0 g1 g3 g4 g5⟩
  self := fun A i s Q E st h => let ⟨⟨_, he⟩, _⟩ := st; wpAny_pyIter_enum he h
def iEnumT (K : PySem.W.Frag) (ta : TA) : TI := fun σ H R => ta σ H fun vs G => ∃ a xs, vs = [.ref a] ∧ SqT K G a xs ∧ R (ItT K a) G
theorem pi_enumT {X : Cx} {e : Expr} {ta : TA} {p pos tp : Pos} {elts : List Expr} {kk : Nat} (ge : Gl X "enumerate") (me : X.mg "enumerate" = none) (ha : PA X [e] ta) (hs : starEach [e] X.env = [(false, eval e X.env)] := by rfl) :
    PI X (.Tuple elts kk tp) (.Call (.Name "enumerate" p) [e] [] pos) (iEnumT X.K ta) := by
  refine ⟨fun pins s σ H R I h => ?_⟩
  refine PyProof.Rows.Call_ (ld_blt I ge me boot_enumerate (PyProof.Rows.callWith_type1 (thn (ha.run pos pins s σ H _ I h) fun us t ⟨vs, G, J, rr, hx⟩ => ?_) hs rfl))
  obtain ⟨a, xs, ex, hq, q⟩ := hx
  subst ex
  cases rr with
  | cons r r2 =>
    cases r2
    cases r
    obtain ⟨its, rv, pl, hz⟩ := J.tuple hq
    have hT : t.heap.IsTuple a its.toArray := pl
    have hlt : a < t.heap.objs.size := by
      obtain ⟨_, z, _⟩ := hT
      exact Heap.lt_size z
    refine call_enum_tup hT fun h' he hit hsz hk => wpAny_pyIter_enum he ?_
    have J2 : Inv X pins σ G { t with heap := h' } := J.kept (t' := t.toks) hk
    refine ⟨t.heap.objs.size + 1, [t.heap.objs.size + 1, t.heap.objs.size], _, _, G, rfl, J2, turn_enumT a (t.heap.objs.size + 1) t.heap.objs.size (Nat.ne_of_gt (Nat.lt_succ_of_lt hlt)) (Nat.ne_of_lt hlt), ⟨⟨.none, he⟩, hit, Nat.succ_ne_self _⟩, fun b hb => ?_, q⟩
    have hle : t.heap.objs.size ≤ b := by
      rcases List.mem_cons.mp hb with z | z
      · rw [z]
        exact Nat.le_add_right _ _
      · rw [List.mem_singleton.mp z]
        exact Nat.le_refl _
    exact J.fpOk hle (J.hok.fresh hle)
section
open HT
/-! ### t[::-1] of a tuple -/
theorem rev_adjust (n : Nat) : Builtin.Slice.sliceAdjust none none (-1) (n : Int) = ((n : Int) - 1, -1) := by
  unfold Builtin.Slice.sliceAdjust
  rfl
theorem rev_places (n : Nat) : Builtin.Slice.slicePlaces ((n : Int) - 1) (-1) (-1) = n := by
  unfold Builtin.Slice.slicePlaces
  simp
  omega
theorem rev_pick (xs : List Value) : ((List.range xs.length).filterMap fun (k : Nat) => xs.toArray[(((xs.length : Int) - 1) + (k : Int) * (-1)).toNat]?) = xs.reverse := by
  have e : ∀ m, m ≤ xs.length → ((List.range m).filterMap fun (k : Nat) => xs.toArray[(((xs.length : Int) - 1) + (k : Int) * (-1)).toNat]?) = xs.reverse.take m := by
    intro m
    induction m with
    | zero =>
      intro _
      rfl
    | succ m ih =>
      intro h
      rw [List.range_succ, List.filterMap_append, ih (by omega), List.take_add_one]
      congr 1
      have hi : (((xs.length : Int) - 1) + (m : Int) * (-1)).toNat = xs.length - 1 - m := by omega
      have hr : xs.reverse[m]? = some xs[xs.length - 1 - m] := by
        rw [List.getElem?_reverse (by omega), List.getElem?_eq_getElem (by omega)]
      have ha : xs.toArray[xs.length - 1 - m]? = some xs[xs.length - 1 - m] := by
        rw [List.getElem?_toArray, List.getElem?_eq_getElem (by omega)]
      rw [hr]
      show List.filterMap _ [m] = [xs[xs.length - 1 - m]]
      rw [List.filterMap_cons_some (b := xs[xs.length - 1 - m]) (by rw [hi]; exact ha)]
      rfl
  rw [e _ (Nat.le_refl _), List.take_of_length_le (by rw [List.length_reverse]; exact Nat.le_refl _)]
section
variable {prog : Program} {w : World} {A : Around} {E : Value → Shared → Prop} {s : Shared}
theorem tuple_back {u sl : Addr} {its : List Value} {tk : Tok} {Q : Value → Shared → Prop} (hT : IsTup s.heap u its.toArray) (hs : s.heap.IsSliceOf sl .none .none (.int (-1) tk)) (hz : its.length ≤ sizeLine)
    (h : Q (.ref s.heap.objs.size) { s with heap := s.heap.push { cls := .type "tuple", data := .seq its.reverse.toArray } }) : wpAny (model prog w) A (getItem (.ref u) (.ref sl)) Q E s := by
  have fits : sizeOk (.seq its.reverse.toArray) := by
    show its.reverse.toArray.size ≤ sizeLine
    rw [List.size_toArray, List.length_reverse]
    exact hz
  obtain ⟨os, ho, hc, hd⟩ := id hs
  have ty : s.TypeIs (.ref sl) "slice" := ⟨os, ho, hc⟩
  unfold getItem
  try with_reducible refine wpAny_holding ?_
  first | refine wpAny_bind (wpAny_pure ?_) | skip
  refine wpAny_bind (wpAny_sequenceKey hT.typeIs (by decide) (wpAny_bind (wpAny_callSpecial?_slot (name := Str.ofString "__getitem__") hT.typeIs PyProof.Rows.slot_tuple_getitem (wpAny_call_entry PyProof.Rows.slot_tuple_getitem hT.typeIs entry_tuple_getitem ?_ (args_tuple_getitem _ _)))))
  show wpAny _ _ (Builtin.Tuple.tupleItemsOf (.ref u) >>= _) _ _ s
  refine wpAny_bind (tupleItemsOf_ hT (wpAny_bind (wpAny_typeOf ty ?_)))
  rw [if_pos (by decide)]
  refine wpAny_bind (m := Builtin.Slice.sliceApplied _ _) ?_
  unfold Builtin.Slice.sliceApplied Builtin.Slice.sliceFields
  refine wpAny_bind (wpAny_bind (wpAny_field ho hd (x := .none) rfl (wpAny_bind (wpAny_field ho hd (x := .none) rfl (wpAny_bind (wpAny_field ho hd (x := .int (-1) tk) rfl (wpAny_pure ?_)))))))
  refine wpAny_bind (slicePart_int ?_)
  show wpAny _ _ (if ((-1 : Int) == 0) = true then _ else _) _ _ s
  rw [if_neg (by decide)]
  refine wpAny_bind (slicePart_none (wpAny_bind (slicePart_none (wpAny_bind (wpAny_pure ?_)))))
  show wpAny _ _ (match Builtin.Slice.sliceAdjust none none (-1) (its.toArray.size : Int) with | (lo, hi) => pure (lo, (-1 : Int), Builtin.Slice.slicePlaces lo hi (-1))) _ _ s
  rw [rev_adjust]
  show wpAny _ _ (pure (((its.toArray.size : Int) - 1), (-1 : Int), Builtin.Slice.slicePlaces ((its.toArray.size : Int) - 1) (-1) (-1))) _ _ s
  rw [rev_places]
  refine wpAny_pure ?_
  show wpAny _ _ (if ((((its.toArray.size : Int) - 1) == 0 && (-1 : Int) == 1 && its.toArray.size == its.toArray.size) = true) then _ else _) _ _ s
  rw [if_neg (by simp), List.size_toArray, rev_pick]
  first
    | exact wpAny_bind (m := Builtin.Tuple.tupleExact _) (wpAny_newObj_type (wpAny_pure ⟨_, rfl, wpAny_pure h⟩) fits)
    | exact wpAny_bind (m := Builtin.Tuple.tupleExact _) (wpAny_newObj_type (wpAny_bind (wpAny_pure (wpAny_pure ⟨_, rfl, wpAny_pure h⟩))) fits)
    | exact wpAny_bind (wpAny_bind (m := Builtin.Tuple.tupleExact _) (wpAny_newObj_type (wpAny_pure (wpAny_pure ⟨_, rfl, wpAny_pure h⟩)) fits))
    | exact wpAny_bind (wpAny_bind (m := Builtin.Tuple.tupleExact _) (wpAny_newObj_type (wpAny_pure ⟨_, rfl, wpAny_pure h⟩) fits))
end
def tBackT (K : PySem.W.Frag) (te : TE) : TE := fun σ H Q => te σ H fun x G => ∃ a xs, x = .ref a ∧ SqT K G a xs ∧ ∀ p, G p = none → Q (.ref p) (upd G p (.tup xs.reverse))
theorem pe_backT {X : Cx} {e : Expr} {te : TE} {k : Nat} {u1 u2 u3 u4 : Pos} (he : PE X e te) : PE X (.Subscript e (.Slice none none (some (.UnaryOp .USub (.Constant (.int 1) k u1) u2)) u3) u4) (tBackT X.K te) := by
  refine ⟨fun pins s σ H Q I h => ?_⟩
  refine Subscript_ (thn (he.run pins s σ H _ I h) fun v t1 ⟨x, G1, J1, r1, g1⟩ => ?_)
  obtain ⟨a, xs, ex, hx, q⟩ := g1
  subst ex
  cases r1
  have step : PO X (some (.UnaryOp .USub (.Constant (.int 1) k u1) u2)) (tPart (tUn (rU fun i => .int (-i)) (tC (.int 1)))) := po_some (pe_un un_neg pe_int)
  refine wpAny_Slice (thn (po_none.run pins t1 σ G1 (fun o G => o = none ∧ G = G1) J1 ⟨rfl, rfl⟩) fun vl t2 ⟨l, G2, J2, pl, el, e2⟩ => ?_)
  subst el e2
  refine thn (po_none.run pins t2 σ G2 (fun o G => o = none ∧ G = G2) J2 ⟨rfl, rfl⟩) fun vu t3 ⟨u, G3, J3, pu, eu, e3⟩ => ?_
  subst eu e3
  refine thn (step.run pins t3 σ G3 (fun o G => o = some (-1) ∧ G = G3) J3 ⟨1, rfl, -1, rfl, rfl, rfl⟩) fun vs t4 ⟨o, G4, J4, ps, eo, e4⟩ => ?_
  subst eo e4
  have J5 : Inv X pins σ G4 { t4 with heap := t4.heap.push { cls := .type "slice", data := .fields #[vl, vu, vs] } } := J4.kept (t' := t4.toks) fun b ob z => Heap.get?_push_of_some _ z
  obtain ⟨its, r, hT, hz⟩ := J5.tuple hx
  have hlen := r.length
  show wpAny (model X.prog X.w) X.A (subscriptTail e (.Slice none none (some (.UnaryOp .USub (.Constant (.int 1) k u1) u2)) u3) (.ref a) (.ref t4.heap.objs.size)) (EP X pins σ Q) X.xe _
  refine tail_any (ops := [.ref a, .ref t4.heap.objs.size]) hT.typeIs (PyProof.Rows.slot_tuple_getitem.lookup) ?_ (by with_unfolding_all rfl)
  cases pl
  cases pu
  cases ps
  refine tuple_back hT (Heap.IsSliceOf.new _ _ _ _) (by omega) ?_
  refine ⟨.ref _, _, J5.laid (t' := t4.toks) (o := .tup xs.reverse) (fun b ob z => Heap.get?_push_of_some _ z) (Nat.le_refl _) ?_, rfl, q _ (J5.hok.fresh (Nat.le_refl _))⟩
  exact ⟨by rw [List.length_reverse]; exact hz, _, r.reverse, ⟨_, Heap.get?_push_size _ rfl, rfl, _, rfl⟩⟩
end
/-! ### how long a thing's text is -/
structure Sh (d : PyData) (n m : Nat) : Prop where
  s : d.showable = true
  l : d.shown.length ≤ n
  k : d.depth ≤ m
theorem Sh.mono {d : PyData} {n m n' m' : Nat} (h : Sh d n m) (a : n ≤ n') (b : m ≤ m') : Sh d n' m' := ⟨h.s, Nat.le_trans h.l a, Nat.le_trans h.k b⟩
theorem piled_le {c : Nat} : ∀ ts : List Str, (∀ t ∈ ts, t.length ≤ c) → piled ts ≤ ts.length * (c + 2)
  | [], _ => by
    show piled [] ≤ 0 * _
    simp [piled]
  | t :: r, h => by
    have h1 := h t List.mem_cons_self
    have h2 := piled_le r fun u hu => h u (List.mem_cons_of_mem _ hu)
    rw [piled_cons, List.length_cons, Nat.add_mul, Nat.one_mul]
    omega
theorem tuple_le {c : Nat} (ts : List Str) (h : ∀ t ∈ ts, t.length ≤ c) : (tupleText ts).length ≤ 4 + ts.length * (c + 2) := by
  unfold tupleText
  rw [strLen_append, strLen_append]
  have e1 : ((("(" : String) : Str)).length = 1 := rfl
  have e3 : (((if ts.length == 1 then ",)" else ")" : String) : Str)).length ≤ 2 := by split <;> decide
  have e4 := piled_le ts h
  rw [e1]
  by_cases hn : ts = []
  · subst hn
    have : (Str.join ", " []).length = 0 := rfl
    omega
  · have := join_length_add ts hn
    omega
theorem from_le {c : Nat} : ∀ (ts : List Str) (k : Nat) (acc : Str), (∀ t ∈ ts, t.length ≤ c) → (textFrom k acc ts).length ≤ acc.length + ts.length * (c + 2)
  | [], _, acc, _ => by
    show acc.length ≤ _
    omega
  | t :: r, k, acc, h => by
    have h1 := h t List.mem_cons_self
    have h2 := from_le r (k + 1) (acc ++ (if k > 0 then ", " else "" : String) ++ t) fun u hu => h u (List.mem_cons_of_mem _ hu)
    have e : (acc ++ (if k > 0 then ", " else "" : String) ++ t).length ≤ acc.length + 2 + t.length := by
      rw [strLen_append, strLen_append]
      have : (((if k > 0 then ", " else "" : String) : Str)).length ≤ 2 := by split <;> decide
      omega
    show (textFrom (k + 1) _ r).length ≤ _
    rw [List.length_cons, Nat.add_mul, Nat.one_mul]
    omega
theorem list_le {c : Nat} (ts : List Str) (h : ∀ t ∈ ts, t.length ≤ c) : (listText ts).length ≤ 4 + ts.length * (c + 2) := by
  unfold listText
  rw [strLen_append]
  have e1 : ((("[" : String) : Str)).length = 1 := rfl
  have e2 : ((("]" : String) : Str)).length = 1 := rfl
  have := from_le ts 0 "[" h
  rw [e2]
  omega
theorem shown_mem : ∀ {ds : List PyData} {t : Str}, t ∈ PyData.shownAll ds → ∃ d ∈ ds, t = d.shown
  | [], _, h => by
    rw [PyData.shownAll] at h
    cases h
  | d :: r, t, h => by
    rw [PyData.shownAll] at h
    rcases List.mem_cons.mp h with e | e
    · exact ⟨d, List.mem_cons_self, e⟩
    · obtain ⟨x, hx, e⟩ := shown_mem e
      exact ⟨x, List.mem_cons_of_mem _ hx, e⟩
theorem shown_len : ∀ ds : List PyData, (PyData.shownAll ds).length = ds.length
  | [] => by
    rw [PyData.shownAll]
    rfl
  | d :: r => by rw [PyData.shownAll, List.length_cons, List.length_cons, shown_len r]
theorem show_all : ∀ {ds : List PyData} {n m : Nat}, (∀ d ∈ ds, Sh d n m) → PyData.showableAll ds = true ∧ PyData.depthAll ds ≤ m
  | [], n, m, _ => by
    rw [PyData.showableAll, PyData.depthAll]
    exact ⟨rfl, Nat.zero_le _⟩
  | d :: r, n, m, h => by
    have h1 := h d List.mem_cons_self
    obtain ⟨h2, h3⟩ := show_all (n := n) (m := m) fun u hu => h u (List.mem_cons_of_mem _ hu)
    rw [PyData.showableAll, PyData.depthAll, h1.s, h2]
    have := h1.k
    exact ⟨rfl, by omega⟩
theorem Sh.tuple {ds : List PyData} {n m k : Nat} (h : ∀ d ∈ ds, Sh d n m) (hk : ds.length ≤ k) : Sh (.tuple ds) (4 + k * (n + 2)) (m + 1) := by
  obtain ⟨h1, h2⟩ := show_all h
  refine ⟨by rw [PyData.showable]; exact h1, ?_, by rw [PyData.depth]; omega⟩
  rw [PyData.shown]
  refine Nat.le_trans (tuple_le (c := n) _ fun t ht => ?_) ?_
  · obtain ⟨d, hd, e⟩ := shown_mem ht
    rw [e]
    exact (h d hd).l
  · rw [shown_len]
    have := Nat.mul_le_mul_right (n + 2) hk
    omega
theorem Sh.list {ds : List PyData} {n m k : Nat} (h : ∀ d ∈ ds, Sh d n m) (hk : ds.length ≤ k) : Sh (.list ds) (4 + k * (n + 2)) (m + 1) := by
  obtain ⟨h1, h2⟩ := show_all h
  refine ⟨by rw [PyData.showable]; exact h1, ?_, by rw [PyData.depth]; omega⟩
  rw [PyData.shown]
  refine Nat.le_trans (list_le (c := n) _ fun t ht => ?_) ?_
  · obtain ⟨d, hd, e⟩ := shown_mem ht
    rw [e]
    exact (h d hd).l
  · rw [shown_len]
    have := Nat.mul_le_mul_right (n + 2) hk
    omega
theorem Sh.int {i : Int} (h : i.natAbs < 10 ^ 30) : Sh (.int i) 40 0 := by
  refine ⟨?_, ?_, by rw [PyData.depth]; exact Nat.le_refl _⟩
  · rw [PyData.showable]
    refine decide_eq_true ?_
    by_cases h0 : i.natAbs = 0
    · rw [h0]
      decide
    · exact (Nat.log2_lt h0).mpr (Nat.lt_of_lt_of_le h (by decide +kernel))
  · rw [PyData.shown]
    show (Str.ofString (toString i)).length ≤ 40
    rw [PySem.ofString_length]
    have := int_text_length_le10 (k := 30) (by decide) h
    omega
theorem Sh.bool (b : Bool) : Sh (.bool b) 40 0 := by
  refine ⟨by rw [PyData.showable], ?_, by rw [PyData.depth]; exact Nat.le_refl _⟩
  rw [PyData.shown]
  cases b <;> decide
theorem Sh.none : Sh .none 40 0 := by
  refine ⟨by rw [PyData.showable], ?_, by rw [PyData.depth]; exact Nat.le_refl _⟩
  rw [PyData.shown]
  decide
theorem sh_text {x : Str} (h : (reprText x).length ≤ 40) : Sh (.str x) 40 0 := ⟨by rw [PyData.showable], by rw [PyData.shown]; exact h, by rw [PyData.depth]; exact Nat.le_refl _⟩
/-! ### repr of data -/
mutual
def noLst : PyData → Bool
  | .list _ => false
  | .tuple xs => noLstAll xs
  | .dict kvs => noLstKV kvs
  | _ => true
def noLstAll : List PyData → Bool
  | [] => true
  | x :: r => noLst x && noLstAll r
def noLstKV : List (PyData × PyData) → Bool
  | [] => true
  | p :: r => noLst p.1 && noLst p.2 && noLstKV r
end
/-- no list beside a dict -/
def okR (d : PyData) : Bool := !d.hasDict || noLst d
theorem keys_read {h : Heap} {P : Program} {w : World} : ∀ {es : List DictEntry} {kvs : List (Key × Value)}, Pairs (mixKind P w) es kvs → ReadsAll h (es.map (·.key)) (kvs.map fun p => keyD p.1) []
  | _, _, .nil => .nil
  | e :: _, p :: _, .cons h1 h2 t => by
    have ih := keys_read (h := h) t
    obtain ⟨k, v⟩ := p
    have h1' : keyIs k e.key = true := h1
    rcases keyIs_shape h1' with ⟨i, t, rfl, e2⟩ | ⟨x, t, rfl, e2⟩
    · refine ReadsAll.cons (as := []) (bs := []) ?_ ih
      show PySem.Reads h e.key (.int i) []
      rw [e2]
      exact .int i t
    · refine ReadsAll.cons (as := []) (bs := []) ?_ ih
      show PySem.Reads h e.key (.str x) []
      rw [e2]
      exact .str x t
theorem vals_of {P : Program} {w : World} : ∀ {es : List DictEntry} {kvs : List (Key × Value)}, Pairs (mixKind P w) es kvs → es.map (·.val) = kvs.map (·.2)
  | _, _, .nil => rfl
  | _, _, .cons h1 h2 t => by
    rw [List.map_cons, List.map_cons, h2, vals_of t]
theorem kv_split : ∀ {kvs : List (Key × V)} {vs : List (Key × Value)}, KV kvs vs → (kvs.map fun p => keyD p.1) = (vs.map fun p => keyD p.1) ∧ Vals (kvs.map (·.2)) (vs.map (·.2))
  | _, _, .nil => ⟨rfl, .nil⟩
  | _, _, .cons h t => by
    obtain ⟨a, b⟩ := kv_split t
    obtain ⟨h1, h2⟩ := h
    exact ⟨by rw [List.map_cons, List.map_cons, a, h1], .cons h2 b⟩
theorem zip_fst {α β : Type} : ∀ {xs : List α} {ys : List β}, xs.length = ys.length → (xs.zip ys).map (·.1) = xs ∧ (xs.zip ys).map (·.2) = ys
  | [], [], _ => ⟨rfl, rfl⟩
  | x :: xs, y :: ys, h => by
    obtain ⟨a, b⟩ := zip_fst (xs := xs) (ys := ys) (by simpa using h)
    exact ⟨by rw [List.zip_cons_cons, List.map_cons, a], by rw [List.zip_cons_cons, List.map_cons, b]⟩
theorem noLst_kv : ∀ {xs ys : List PyData}, xs.length = ys.length → noLstKV (xs.zip ys) = true → noLstAll ys = true
  | [], [], _, _ => by rw [noLstAll]
  | x :: xs, y :: ys, h, e => by
    rw [List.zip_cons_cons, noLstKV, Bool.and_eq_true, Bool.and_eq_true] at e
    rw [noLstAll, e.1.2, noLst_kv (by simpa using h) e.2]
    rfl
section
variable {X : Cx} {pins : List (Addr × Obj)} {σ : L2.St} {H : Hp} {s : Shared} {A : Addr → Prop}
mutual
theorem Rp.reads (I : Inv X pins σ H s) : ∀ {v : V} {d : PyData} {u : Value}, Rp X.K A H v d → RelV v u → ∃ as, PySem.Reads s.heap u d as ∧ (noLst d = true → sysModules ∉ as)
  | _, _, _, .non, r => by
    cases r
    exact ⟨_, .none, fun _ h => nomatch h⟩
  | _, _, _, .bl b, r => by
    cases r
    exact ⟨_, .bool b, fun _ h => nomatch h⟩
  | _, _, _, .int i, r => by
    obtain ⟨t, rfl⟩ := r
    exact ⟨_, .int i t, fun _ h => nomatch h⟩
  | _, _, _, .str x, r => by
    obtain ⟨t, rfl⟩ := r
    exact ⟨_, .str x t, fun _ h => nomatch h⟩
  | _, _, _, .lst q ra, r => by
    cases r
    obtain ⟨its, rv, ⟨o, n, ho, hc, _, hd⟩, _⟩ := I.list (sqLA_sq q)
    obtain ⟨as, hr, _⟩ := RpAll.reads I ra rv
    exact ⟨_, .list ho hc hd hr, fun z => by simp [noLst] at z⟩
  | _, _, _, .tup q ra, r => by
    cases r
    obtain ⟨its, rv, ⟨o, ho, hc, n, hd⟩, _⟩ := I.tuple (sqTA_sq q)
    obtain ⟨as, hr, hn⟩ := RpAll.reads I ra rv
    exact ⟨_, .tuple ho hc hd hr, fun z => hn (by simpa [noLst] using z)⟩
  | _, _, _, .dct (a := a) (kvs := kvs) (ds := ds) e na ra, r => by
    cases r
    obtain ⟨_, hs, vs, kv, o, es, ep, ho, hx, hd, _, hp, _⟩ := I.hok a _ e
    obtain ⟨k1, k2⟩ := kv_split kv
    have hl : (kvs.map fun p => keyD p.1).length = ds.length := by
      rw [← ra.length, List.length_map, List.length_map]
    obtain ⟨z1, z2⟩ := zip_fst hl
    obtain ⟨bs, hr, hn⟩ := RpAll.reads I ra k2
    have := PySem.Reads.dict (h := s.heap) (a := a) (kvs := (kvs.map fun p => keyD p.1).zip ds) ho hx.1 hd (by rw [z1, k1]; exact keys_read hp) (by rw [z2, vals_of hp]; exact hr)
    refine ⟨_, this, fun z hm => ?_⟩
    rcases List.mem_append.mp hm with hm | hm
    · exact (beq_eq_false_iff_ne.mp hs) (List.mem_singleton.mp hm).symm
    · exact hn (noLst_kv hl (by simpa [noLst] using z)) hm
theorem RpAll.reads (I : Inv X pins σ H s) : ∀ {vs : List V} {ds : List PyData} {us : List Value}, RpAll X.K A H vs ds → Vals vs us → ∃ as, PySem.ReadsAll s.heap us ds as ∧ (noLstAll ds = true → sysModules ∉ as)
  | _, _, _, .nil, r => by
    cases r
    exact ⟨_, .nil, fun _ h => nomatch h⟩
  | _, _, _, .cons h t, r => by
    cases r with
    | cons r1 r2 =>
      obtain ⟨as, q1, n1⟩ := Rp.reads I h r1
      obtain ⟨bs, q2, n2⟩ := RpAll.reads I t r2
      refine ⟨_, .cons q1 q2, fun z hm => ?_⟩
      rw [noLstAll, Bool.and_eq_true] at z
      rcases List.mem_append.mp hm with hm | hm
      · exact n1 z.1 hm
      · exact n2 z.2 hm
end
end
def rReprG (K : PySem.W.Frag) : List V → Hp → VK → Prop := fun xs H Q => ∃ x d A, xs = [x] ∧ Rp K A H x d ∧ Sh d 10000000 50 ∧ okR d = true ∧ Q (.str d.shown) H
theorem call_reprG {X : Cx} (hg : X.A.guards = some []) (hu : X.A.units + 64 < cLine) : CallR X (.builtin "repr") (rReprG X.K) := by
  intro pins s σ H xs us Q I r h
  obtain ⟨x, d, A, rfl, hd, sh, ok, q⟩ := h
  have fits : d.shown.length ≤ sizeLine := Nat.le_trans sh.l (by decide)
  have hk := sh.k
  cases r with
  | cons r1 r2 =>
    cases r2
    have go : ∀ {a : Addr}, x = .ref a → wpAny (model X.prog X.w) X.A (call (.builtin "repr") [.ref a]) (EP X pins σ Q) X.xe s := fun {a} ex => by
      subst ex
      obtain ⟨as, rd, hn⟩ := Rp.reads (u := .ref a) I hd rfl
      refine repr_of_reads' rd sh.s (fun hD => hn ?_) hg (by omega) (fun _ _ e => e) (fun h' u tk kept => ⟨.str d.shown, H, I.kept (t' := tk) kept, ⟨u, rfl⟩, q⟩) fits
      unfold okR at ok
      rw [hD] at ok
      simpa using ok
    cases hd with
    | bl b =>
      cases r1
      refine PySem.P.repr_of_bool ⟨.str _, H, I.tok _, ⟨_, rfl⟩, ?_⟩
      rw [PyData.shown] at q
      cases b <;> exact q
    | non =>
      cases r1
      refine PySem.P.repr_of_none ⟨.str _, H, I.tok _, ⟨_, rfl⟩, ?_⟩
      rw [PyData.shown] at q
      exact q
    | int i =>
      obtain ⟨t, rfl⟩ := r1
      have hs := sh.s
      rw [PyData.showable] at hs
      refine PySem.P.repr_of_int (of_decide_eq_true hs) ⟨.str _, H, I.tok _, ⟨_, rfl⟩, ?_⟩
      rw [PyData.shown] at q
      exact q
    | str x =>
      obtain ⟨t, rfl⟩ := r1
      rw [PyData.shown] at q fits
      exact PySem.P.repr_of_str ⟨.str _, H, I.tok _, ⟨_, rfl⟩, q⟩ fits
    | lst _ _ =>
      cases r1
      exact go rfl
    | tup _ _ =>
      cases r1
      exact go rfl
    | dct _ _ _ =>
      cases r1
      exact go rfl
def fRepr : List Sl → (Sl → Prop) → Prop := fun ss Qd => match ss with
  | [s] => (match s.rd with
    | some d => Sh d 10000000 50 ∧ okR d = true ∧ Qd (.d (.str d.shown))
    | none => False)
  | _ => False
instance {K : PySem.W.Frag} : RefC K (rReprG K) fRepr := ⟨fun W A H0 H xs ss Qd Q b f i rx h w => by
  unfold fRepr at h
  split at h
  · obtain ⟨v, rfl, r⟩ := vlsr1 rx
    split at h
    · rename_i d ed
      obtain ⟨A', r'⟩ := r.rd b ed
      exact ⟨v, d, A', rfl, r', h.1, h.2.1, w.here i _ h.2.2⟩
    · exact h.elim
  · exact h.elim⟩
/-! ### enumerate of a tuple, a tuple turned about -/
section
variable {K : PySem.W.Frag} {E : XK}
def iEnT (fa : TDA) : TDI := fun ρ Qd R => fa ρ (fun ss => match ss with
  | [.d (.tuple xs)] => Qd (enumD xs)
  | _ => False) R
instance {t : TA} {f : TDA} [ht : RefA K τ E t f] : RefI K τ E (iEnumT K t) (iEnT f) := ⟨fun W A H σ ρ Qd R P a h k => by
  refine ht.go W A H σ ρ _ R _ a h fun vs H1 ss f1 i1 r1 q => ?_
  split at q
  · rename_i xs
    obtain ⟨v, rfl, r⟩ := vlsr1 r1
    have rp : Rp K A H1 v (.tuple xs) := r
    obtain ⟨p, us, rfl, sq, ra⟩ := rp.tup_
    refine ⟨p, _, rfl, sq, k (ItT K p) H1 [some (.ref p)] [.d (.tuple xs)] (enumD xs) f1 i1 (gh1 rp) ⟨fun W A H i b g hi => ?_, fun W A H i b g hi => ?_, fun W A H i x H' d b g ed y => ?_⟩ q⟩
    · rw [enumD_len] at hi
      obtain ⟨a, us, e, s2, r2⟩ := g.one.tup_
      cases e
      obtain ⟨u, eu, _⟩ := r2.get (List.getElem?_eq_getElem hi)
      exact ⟨us, u, s2, eu⟩
    · rw [enumD_len] at hi
      obtain ⟨a, us, e, s2, r2⟩ := g.one.tup_
      cases e
      exact ⟨us, s2, by rw [r2.length]; exact hi⟩
    · obtain ⟨a, us, e, s2, r2⟩ := g.one.tup_
      cases e
      obtain ⟨T, u, rfl, nT, rfl, hx⟩ := y
      obtain ⟨x', ex', rfl⟩ := enumD_get ed
      obtain ⟨d', e1, e2⟩ := r2.getV (hx us s2)
      rw [ex'] at e1
      cases e1
      exact rp_pair b nT (.int _) e2
  · exact q.elim⟩
def dBack (f : TD) : TD := fun ρ Qd R => f ρ (fun s => match s with
  | .d (.tuple xs) => Qd (.d (.tuple xs.reverse))
  | _ => False) R
instance {t : TE} {f : TD} [ht : RefE K τ E t f] : RefE K τ E (tBackT K t) (dBack f) := ⟨fun W A H σ ρ Qd R Q a h w => by
  refine ht.go W A H σ ρ _ R _ a h fun v H1 s f1 i1 r1 q => ?_
  split at q
  · rename_i xs
    have rp : Rp K A H1 v (.tuple xs) := r1
    obtain ⟨p, us, rfl, sq, ra⟩ := rp.tup_
    exact ⟨p, us, rfl, sq, Want.tup (a.bs.fr f1 i1) (w.back f1) ra.reverse q⟩
  · exact q.elim⟩
end
end Dl

namespace Dl
open PySem PySem.Spec PyProof.Rows L2 LamX
/-! ### the state that draws are taken from -/
def Keep (z : Addr) (H H' : Hp) : Prop := ∀ b o, H b = some o → b ≠ z → H' b = some o
theorem Keep.self {z : Addr} {H : Hp} {o : HO} : Keep z H (upd H z o) := fun b u h n => by rw [upd_ne n]; exact h
def spTake : Sp := fun vs H Q _ => ∃ (z : Addr) (m : Int), vs = [.ref z, .int m] ∧ StOk H z ∧ 0 < m ∧ m < 1073741824 ∧
  ∀ H' n, Keep z H H' → StOk H' z → 0 ≤ n → n < m → Q (.int n) H'
def sdTake : SpD := fun ss Qd _ => ∃ m : Int, ss = [.st, .d (.int m)] ∧ 0 < m ∧ m < 1073741824 ∧ ∀ n : Int, 0 ≤ n → n < m → Qd (.d (.int n))
theorem take_imp {K : PySem.W.Frag} {ms : List Bool} : ∀ vs H Q E, spD K ms sdTake vs H Q E → spTake vs H Q E := fun vs H Q E ⟨τ, W, A, ss, Qd, R, b, r, ar, q, w, ek⟩ => by
  obtain ⟨m, rfl, h1, h2, q⟩ := q
  obtain ⟨v, u, rfl, r1, r2⟩ := vlsr2 r
  obtain rfl := r2.flat (u := .int m) rfl
  obtain ⟨z, rfl, st⟩ := r1
  refine ⟨z, m, rfl, st.ok H b.inv, h1, h2, fun H' n kp st' n0 n1 => ?_⟩
  obtain ⟨x, y, e, hx, hy, hy2⟩ := st'
  refine w (.int n) H' (.d (.int n)) ⟨fun c o ec _ nc => kp c o ec fun z => nc (z ▸ st.b), fun c hc => ?_⟩ ?_ (Rp.int n) (q n n0 n1)
  · by_cases h : c = z
    · subst h
      exact ⟨_, e, nt_lst⟩
    · obtain ⟨o, e1, t1⟩ := hc
      exact ⟨o, kp c o e1 h, t1⟩
  · refine W.stay _ H' (fun c o ec => ?_) (st.set H x y b.inv hx hy hy2)
    by_cases h : c = z
    · subst h
      rw [upd_same] at ec
      cases ec
      exact e
    · rw [upd_ne h] at ec
      exact kp c o ec h
/-- a new state -/
def spState (K : PySem.W.Frag) : Sp := fun vs H Q _ => ∃ (a : Addr) (ns : List Int) (i : Nat), vs = [.ref a, .int (i : Int)] ∧ SqL K H a (ns.map V.int) ∧ ∀ H' z, Same H H' → H z = none → StOk H' z → Q (.ref z) H'
def dNew (i : Nat) (fa : TDA) : TDS := fun dd R ρ => fa ρ (fun ss => (∃ ns, ∃ k : Nat, ss = [.scr ns, .d (.int (k : Int))]) ∧ dd.nx (ρ.set i .st)) R
def Wld.more {τ : List (Addr × Str)} (W : Wld τ) (z : Addr) (n : ¬ W.B z) : Wld τ where
  B := fun a => W.B a ∨ a = z
  I := fun H => W.I H ∧ StOk H z
  tab := fun H h => W.tab H h.1
  tbI := fun H H' h e t => ⟨W.tbI H H' h.1 e t, by
    obtain ⟨x, y, e1, r⟩ := h.2
    exact ⟨x, y, e _ _ e1 nt_lst, r⟩⟩
  stay := fun H H' s h => ⟨W.stay H H' s h.1, by
    obtain ⟨x, y, e1, r⟩ := h.2
    exact ⟨x, y, s _ _ e1, r⟩⟩
  own := fun H p o o' h e m m' np => ⟨W.own H p o o' h.1 e m m' fun q => np (.inl q), by
    obtain ⟨x, y, e1, r⟩ := h.2
    exact ⟨x, y, (upd_ne fun q => np (.inr q.symm)).trans e1, r⟩⟩
  nt := fun H h a xs z e => z.elim (fun z => W.nt H h.1 a xs z e) fun z => by
    obtain ⟨x, y, e1, _⟩ := h.2
    rw [z, e1] at e
    cases e
section
variable {K : PySem.W.Frag} {E : XK}
instance {i : Nat} {t : TA} {fa : TDA} [ha : RefA K τ E t fa] : RefS K τ E (tAsg (tCall (spState K) [] E0 t) (gName i)) (dNew i fa) := ⟨fun W A0 H0 D dd R H σ ρ gσ gρ b sr er ek h => by
  obtain ⟨W', A, c⟩ := sr
  refine ha.go W' A H σ ρ _ R _ (c.at_ ek) h fun vs H1 ss f1 i1 r1 q => ?_
  obtain ⟨⟨ns, k, rfl⟩, q⟩ := q
  obtain ⟨v, u, rfl, ra, rb⟩ := vlsr2 r1
  obtain rfl := rb.flat (u := .int (k : Int)) rfl
  obtain ⟨a, rfl, sc⟩ := ra
  refine ⟨a, ns, k, rfl, sc H1 i1, fun H2 z s2 nz st => ?_⟩
  have c1 := c.step f1 i1
  have c2 := c1.step (Fr.of s2) (W'.stay _ _ s2 i1)
  have nzO : ¬ Ob H1 z := nob nz
  have nB : ¬ W'.B z := c1.bs.nB nzO
  have nA : ¬ A z := c1.bs.nA nzO
  obtain ⟨x, y, ez, hx, hy, hy2⟩ := st
  have gA : Goes A (fun b => A b ∨ b = z) H1 H1 := fun b o eb _ nb => ⟨eb, fun q => q.elim nb (ne_of_none eb nz)⟩
  -- each slot in the greater world
  have up : ∀ {v : Option V} {s : Sl}, SlR K W' A H1 v s → SlR K (W'.more z nB) (fun b => A b ∨ b = z) H2 v s := fun {v s} q => by
    have f2 : Fr W'.B H1 H2 := Fr.of s2
    have gg : Goes A (fun b => A b ∨ b = z) H1 H2 := fun b o eb t nb => ⟨s2 b o eb, (gA b o eb t nb).2⟩
    cases s with
    | un => exact q
    | d x =>
      obtain ⟨u, e1, r1⟩ := q
      exact ⟨u, e1, r1.go gg⟩
    | ml ys =>
      obtain ⟨q', us, e1, e2, e3, e4, e5⟩ := q
      exact ⟨q', us, e1, s2 _ _ e2, fun w => w.elim e3 (ne_of_none e2 nz), .inl e4, e5.go gg⟩
    | bl ys =>
      obtain ⟨q', us, e1, e2, e3⟩ := q
      exact ⟨q', us, e1, ⟨s2 _ _ e2.1, fun w => w.elim e2.2 (ne_of_none e2.1 nz)⟩, e3.go gg⟩
    | st =>
      obtain ⟨z0, e1, sw⟩ := q
      have ne : z ≠ z0 := fun w => by
        obtain ⟨x, y, e, _⟩ := sw.ok H1 i1
        rw [← w, nz] at e
        cases e
      refine ⟨z0, e1, .inl sw.b, fun H h => sw.ok H h.1, fun H x y h h1 h2 h3 => ⟨sw.set H x y h.1 h1 h2 h3, ?_⟩⟩
      obtain ⟨x', y', e', r'⟩ := h.2
      exact ⟨x', y', (upd_ne ne).trans e', r'⟩
    | scr ms =>
      obtain ⟨a', e1, sc'⟩ := q
      exact ⟨a', e1, fun H h => sc' H h.1⟩
    | raw u => exact q
    | mo o =>
      obtain ⟨q', us, e1, e2, e3, e4, e5⟩ := q
      exact ⟨q', us, e1, s2 _ _ e2, fun w => w.elim e3 (ne_of_none e2 nz), .inl e4, e5.go gg⟩
    | bo o =>
      obtain ⟨q', us, e1, e2, e3, e4⟩ := q
      exact ⟨q', us, e1, s2 _ _ e2, fun w => w.elim e3 (ne_of_none e2 nz), e4.go gg⟩
  have env' : EnvR K (W'.more z nB) (fun b => A b ∨ b = z) H2 (σ ++ gσ) (ρ ++ gρ) := ⟨c1.env.len, fun j s e => by
    obtain ⟨v, e1, r⟩ := c1.env.at_ j s e
    exact ⟨v, e1, up r⟩, c1.env.dis⟩
  have n0 : ¬ Ob H0 z := fun q => nzO (c1.fr.2 z q)
  have cF : Cor K W A0 H0 (W'.more z nB) (fun b => A b ∨ b = z) H2 σ ρ gσ gρ := by
    refine ⟨⟨fun b h => .inl (c.wl.up b h), fun b h => ?_, fun H h => c.wl.inv H h.1⟩, fun b h => .inl (c.a0 b h), ⟨fun b h => h.imp (c.bs.ba b) id, fun b h => ?_, ⟨c2.bs.inv, x, y, ez, hx, hy, hy2⟩, fun b xs h e => h.elim (fun h => c2.bs.nt b xs h e) fun h => by
      rw [h, ez] at e
      cases e⟩, c2.fr, env', c.lg, c.new⟩
    · rcases h with h | rfl
      · exact c.wl.dn b h
      · exact .inr n0
    · rcases h with h | rfl
      · exact c2.bs.dom b h
      · exact ⟨_, ez, nt_lst⟩
  refine er.nx H2 (σ.set i (some (.ref z))) (ρ.set i .st) ⟨_, _, cF.set (s := .st) trivial ⟨z, rfl, .inr rfl, fun H h => h.2, fun H x y h h1 h2 h3 => ⟨?_, x, y, upd_same, h1, h2, h3⟩⟩⟩ q
  obtain ⟨x', y', e', _⟩ := h.2
  exact W'.own H z _ _ h.1 e' (.lst _) (.lst _) nB⟩
/-! ### what is said of a call: told, or the refusal's word -/
def TSaid (C : Nat → Addr) (ms : List Nat) (wd : Nat → Str) : (XK → Hp → VK → Prop) → Hp → VK → Prop := fun tl H Q =>
  tl (fun cls d H' => ∃ m, m ∈ ms ∧ cls = .ref (C m) ∧ d = none ∧ ∀ G t, Same H' G → H' t = none → G t = some (.tup [.str (wd m)]) → Q (.ref t) G) H fun v G => ([V.str "told", v] : List V).length ≤ sizeLine ∧ ∀ p, G p = none → Q (.ref p) (upd G p (.tup [.str "told", v]))
def dSaid (C : Nat → Addr) (ms : List Nat) (wd : Nat → Str) (f : TD) : TD := fun ρ Qd _ => f ρ (fun s => match s.dat with
  | some x => Qd (.d (.tuple [.str "told", x]))
  | none => False) fun er => ∃ m, m ∈ ms ∧ er = (C m, []) ∧ Qd (.d (.tuple [.str (wd m)]))
theorem fr_ext {B : Addr → Prop} {H H1 : Hp} (e : ExtN H H1) : Fr B H H1 := ⟨fun b o h t _ => e b o h t, fun b ⟨o, h, t⟩ => ⟨o, e b o h t, t⟩⟩
instance {C : Nat → Addr} {ms : List Nat} {wd : Nat → Str} {t : XK → TE} {f : TD} [ht : ∀ E', RefE K τ E' (t E') f] : RefE K τ E (tLam τ (TSaid C ms wd) t) (dSaid C ms wd f) := ⟨fun W A H σ ρ Qd R Q a h w => by
  refine ⟨W.tab H a.bs.inv, fun H1 e1 t1 => ?_⟩
  have f1 : Fr W.B H H1 := fr_ext e1
  have i1 := W.tbI H H1 a.bs.inv e1 t1
  have a1 := a.fr f1 i1
  have w1 := w.back f1
  refine (ht _).go W A H1 σ ρ _ _ _ ⟨a1.bs, a1.env, fun er x H' f' i' z r => ?_⟩ h fun v H' s f' i' r q => ?_
  · obtain ⟨m, hm, rfl, q⟩ := r
    have hx : x = none := by
      rcases z with z | z
      · exact z.2
      · exact absurd rfl z.1
    refine ⟨m, hm, rfl, hx, fun G t sm nt et => ?_⟩
    have b' := a1.bs.fr f' i'
    exact w1 (.ref t) G (.d (.tuple [.str (wd m)])) (f'.trans (Fr.of sm)) (W.stay _ _ sm i') (Rp.tup ⟨et, b'.nA (nob nt)⟩ (.cons (.str _) .nil)) q
  · obtain ⟨x, ex, q⟩ := dat_iff (P := fun x => Qd (.d (.tuple [.str "told", x]))) q
    exact ⟨by show 2 ≤ sizeLine; decide, Want.tup (a1.bs.fr f' i') (w1.back f') (.cons (.str _) (.cons (r.dat a1.bs ex) .nil)) q⟩⟩
end
/-! ### a law, by its body -/
theorem tabs_updL {T : List (Addr × Str)} {G : Hp} {l : Addr} {o o' : HO} (h : Tabs T G) (e : G l = some o) (mb : Mb o) : Tabs T (upd G l o') := fun p hp => by
  obtain ⟨ps, h1, h2, h3⟩ := h p hp
  refine ⟨ps, (upd_ne (ne_of h1 e fun q => by cases mb <;> cases q)).trans h1, h2, fun pos cv hc => ?_⟩
  obtain ⟨c, e1, e2⟩ := h3 pos cv hc
  exact ⟨c, e1, (upd_ne (ne_of e2 e fun q => by
    unfold CodeO at q
    cases mb <;> cases q)).trans e2⟩
/-- the world of a law: the script, the tables -/
theorem law_world {K : PySem.W.Frag} {τ : List (Addr × Str)} {H : Hp} {a : Addr} {ns : List Int} (hS : SqL K H a (ns.map V.int)) (hT : Tabs τ H) : ∃ (W : Wld τ) (A : Addr → Prop), Bs W A H ∧ ∀ H, W.I H → SqL K H a (ns.map V.int) := by
  rcases hS with hS | hS
  · have hO : Ob H a := by
      rcases hS with h | ⟨o, h⟩
      · exact ⟨_, h, nt_lst⟩
      · exact ⟨_, h, nt_frz⟩
    refine ⟨{ B := fun b => b = a, I := fun G => Tabs τ G ∧ Rd G a (.lst (ns.map V.int)), tab := fun G h => h.1, tbI := fun G G' h e t => ⟨t, ?_⟩, stay := fun G G' s h => ⟨h.1.ext s, ?_⟩, own := fun G p o o' h e m m' np => ⟨tabs_updL h.1 e m, ?_⟩, nt := fun G h b xs z e => h.2.elim (fun q => by rw [show b = a from z, q] at e; cases e) fun ⟨o, q⟩ => by rw [show b = a from z, q] at e; cases e }, fun b => b = a, ⟨fun _ h => h, fun b h => h ▸ hO, ⟨hT, hS⟩, fun b xs z e => hS.elim (fun q => by rw [show b = a from z, q] at e; cases e) fun ⟨o, q⟩ => by rw [show b = a from z, q] at e; cases e⟩, fun G h => .inl h.2⟩
    · rcases h.2 with z | ⟨o, z⟩
      · exact .inl (e _ _ z nt_lst)
      · exact .inr ⟨o, e _ _ z nt_frz⟩
    · rcases h.2 with z | ⟨o, z⟩
      · exact .inl (s _ _ z)
      · exact .inr ⟨o, s _ _ z⟩
    · rcases h.2 with z | ⟨o, z⟩
      · exact .inl ((upd_ne fun q => np q.symm).trans z)
      · exact .inr ⟨o, (upd_ne fun q => np q.symm).trans z⟩
  · exact ⟨{ B := fun _ => False, I := fun G => Tabs τ G, tab := fun G h => h, tbI := fun G G' h e t => t, stay := fun G G' s h => h.ext s, own := fun G p o o' h e m m' np => tabs_updL h e m, nt := fun _ _ _ _ z => z.elim }, fun _ => False, ⟨fun _ h => h, fun b h => h.elim, hT, fun _ _ z => z.elim⟩, fun G _ => .inr hS⟩
/-- what is left to be shown of a law's body -/
def ReadsL (K : PySem.W.Frag) (τ : List (Addr × Str)) (E : XK) (t : TS) (N : List Str) : Prop := ∃ g, RefS K τ E t g ∧ ∀ ns : List Int, g { nx := fun _ => False, rt := fun s => s = .d (.bool true) } (fun _ => False) (startD N [.scr ns])
theorem ReadsL.run {K : PySem.W.Frag} {τ : List (Addr × Str)} {E : XK} {t : TS} {N : List Str} (h : ReadsL K τ E t N) {H : Hp} {a : Addr} {ns : List Int} {nx : L2.St → Hp → Prop} {Q : VK} (hS : SqL K H a (ns.map V.int)) (hT : Tabs τ H) (hQ : ∀ G, Q (.bl true) G) : t { nx := nx, rt := Q } (L2.start N [.ref a]) H := by
  obtain ⟨g, hg, h⟩ := h
  obtain ⟨W, A, b, sc⟩ := law_world hS hT
  have r : VlsR K W A H H [.ref a] [.scr ns] := .cons ⟨a, rfl, sc⟩ .nil
  have ar : ∀ s ∈ ([.scr ns] : List Sl), s.arg := fun s hs => by
    rw [List.mem_singleton.mp hs]
    trivial
  have env := env_start (N := N) r ar
  refine hg.go W A H _ { nx := fun _ => False, rt := fun s => s = .d (.bool true) } (fun _ => False) H _ _ [] [] b ⟨W, A, WLe.refl W H, fun _ z => z, b, Fr.refl H, by rw [List.append_nil, List.append_nil]; exact env, env.len, fun i p t e k _ => ?_⟩ ⟨fun H' σ ρ sr z => False.elim z, fun v H' s f i r z => ?_, fun H' σ ρ sr z => False.elim z, fun H' σ ρ sr z => False.elim z⟩ (fun er x H' f i z r => r.elim) (h ns)
  · have := List.mem_of_getElem? e
    rcases List.mem_append.mp this with z | z
    · have := ar _ z
      cases t <;> first | exact this.elim | exact k.elim
    · rw [(List.mem_replicate.mp z).2] at k
      exact k.elim
  · have z' : s = .d (.bool true) := z
    subst z'
    obtain rfl := r.flat (u := .bl true) rfl
    exact hQ H'
/-- a freeze ahead of a block -/
theorem pss_fz {X : Cx} {ss : List Stmt} {t : TS} (i : Nat) (h : PSs X ss t) : PSs X ss (tFz i t) := h
end Dl

namespace Dl
open PySem PySem.Spec PyProof.Rows L2
/-! ### the rules with their written part by name -/
section
variable {X : Cx} {K : PySem.W.Frag}
theorem op_addK (h : X.K = K) : OpR X (binaryOp .Add) (rAddX K) := h ▸ op_addX
theorem op_mulK (h : X.K = K) : OpR X (binaryOp .Mult) (rMulX K) := h ▸ op_mulX
theorem op_eqK (h : X.K = K) (hu : X.A.units + 64 < cLine) : OpR X (compareOp .Eq) (rEqD K) := h ▸ op_eqD hu
theorem op_neK (h : X.K = K) (hu : X.A.units + 64 < cLine) : OpR X (compareOp .NotEq) (rNeD K) := h ▸ op_neD hu
theorem op_inK (h : X.K = K) : OpR X (compareOp .In) (rIn K false) := h ▸ op_in_seq
theorem op_notInK (h : X.K = K) : OpR X (compareOp .NotIn) (rIn K true) := h ▸ op_notIn_seq
theorem ix_seqK (h : X.K = K) : IxR X (rIx K) := h ▸ ix_seq
theorem sl_anyK (h : X.K = K) : L2.SlR X (rSlX K) := h ▸ sl_any
theorem call_isiQ (h : X.K = K) : CallR X (.builtin "isinstance") (rIsi K) := h ▸ call_isi
theorem cr_allK (hc : X.calm = true) (h : X.K = K) : CallR X (.builtin "all") (rAll K) := h ▸ cr_all hc
theorem cr_anyK (hc : X.calm = true) (h : X.K = K) : CallR X (.builtin "any") (rAny K) := h ▸ cr_any hc
theorem cr_sumK (hc : X.calm = true) (h : X.K = K) : CallR X (.builtin "sum") (rSum K) := h ▸ cr_sum hc
theorem cr_maxK (hc : X.calm = true) (h : X.K = K) : CallR X (.builtin "max") (rMax K) := h ▸ cr_max hc
theorem cr_minK (hc : X.calm = true) (h : X.K = K) : CallR X (.builtin "min") (rMin K) := h ▸ cr_min hc
theorem cr_sortedK (h : X.K = K) : CallR X (.builtin "sorted") (rSorted K) := h ▸ cr_sorted
def rLenK (K : PySem.W.Frag) : List V → Hp → VK → Prop := fun xs H Q => ∃ p ys, xs = [.ref p] ∧ (SqL K H p ys ∨ SqT K H p ys) ∧ Q (.int ys.length) H
theorem call_lenK (h : X.K = K) : CallR X (.builtin "len") (rLenK K) := h ▸ call_len_seq
def rListK (K : PySem.W.Frag) : List V → Hp → VK → Prop := fun xs H Q => ∃ p ys, xs = [.ref p] ∧ (SqL K H p ys ∨ SqT K H p ys) ∧ ∀ l, H l = none → Q (.ref l) (upd H l (.lst ys))
theorem call_listK (h : X.K = K) : CallR X (.type "list") (rListK K) := h ▸ call_list_of
def rTupleK (K : PySem.W.Frag) : List V → Hp → VK → Prop := fun xs H Q => ∃ p ys, xs = [.ref p] ∧ ((SqL K H p ys ∧ ∀ l, H l = none → Q (.ref l) (upd H l (.tup ys))) ∨ (SqT K H p ys ∧ Q (.ref p) H))
theorem call_tupleK (h : X.K = K) : CallR X (.type "tuple") (rTupleK K) := h ▸ call_tuple_of
theorem call_reprQ (h : X.K = K) (hg : X.A.guards = some []) (hu : X.A.units + 64 < cLine) : CallR X (.builtin "repr") (rReprG K) := h ▸ call_reprG hg hu
theorem pt_truK {a : Expr} {ta : TE} (h : X.K = K) (ha : PE X a ta) (he : ∀ whole, isTrue a X.env whole = (do let v ← whole; standAt a.pos; holding [v] (truthy v))) : PT X a (tTru K ta) := h ▸ pt_tru ha he
theorem pi_listK {tg e : Expr} {te : TE} (h : X.K = K) (he : PE X e te) : PI X tg e (iList K te) := h ▸ pi_list he
theorem pi_tupK {tg e : Expr} {te : TE} (h : X.K = K) (he : PE X e te) : PI X tg e (iTup K te) := h ▸ pi_tup he
theorem pi_enumK {e : Expr} {ta : TA} {p pos tp : Pos} {elts : List Expr} {kk : Nat} (h : X.K = K) (ge : Gl X "enumerate") (me : X.mg "enumerate" = none) (ha : PA X [e] ta) (hs : starEach [e] X.env = [(false, eval e X.env)] := by rfl) :
    PI X (.Tuple elts kk tp) (.Call (.Name "enumerate" p) [e] [] pos) (iEnumT K ta) := h ▸ pi_enumT ge me ha hs
theorem pi_enumLK {e : Expr} {ta : TA} {p pos tp : Pos} {elts : List Expr} {kk : Nat} (h : X.K = K) (ge : Gl X "enumerate") (me : X.mg "enumerate" = none) (ha : PA X [e] ta) (hs : starEach [e] X.env = [(false, eval e X.env)] := by rfl) :
    PI X (.Tuple elts kk tp) (.Call (.Name "enumerate" p) [e] [] pos) (iEnum K ta) := h ▸ pi_enum ge me ha hs
theorem pi_zipK {e e2 : Expr} {ta : TA} {p pos tpos : Pos} {elts : List Expr} {kk : Nat} (h : X.K = K) (hg : Gl X "zip") (hm : X.mg "zip" = none) (ha : PA X [e, e2] ta)
    (hs : starEach [e, e2] X.env = (false, eval e X.env) :: starEach [e2] X.env := by rfl) (hpl : (backTo pos (starEach [e2] X.env)).any (·.1) = false := by rfl) :
    PI X (.Tuple elts kk tpos) (.Call (.Name "zip" p) [e, e2] [] pos) (RZ.iZipA K ta) := h ▸ RZ.pi_zipA hg hm ha hs hpl
theorem pe_backK {e : Expr} {te : TE} {k : Nat} {u1 u2 u3 u4 : Pos} (h : X.K = K) (he : PE X e te) : PE X (.Subscript e (.Slice none none (some (.UnaryOp .USub (.Constant (.int 1) k u1) u2)) u3) u4) (tBackT K te) := h ▸ pe_backT he
end
instance {K : PySem.W.Frag} : RefC K (rLenK K) fLen := ⟨fun W A H0 H xs ss Qd Q b f i rx h w => (inferInstance : RefC K (fun xs H Q => ∃ p ys, xs = [.ref p] ∧ (SqL K H p ys ∨ SqT K H p ys) ∧ Q (.int ys.length) H) fLen).go W A H0 H xs ss Qd Q b f i rx h w⟩
instance {K : PySem.W.Frag} : RefC K (rListK K) fList := ⟨fun W A H0 H xs ss Qd Q b f i rx h w => (inferInstance : RefC K (fun xs H Q => ∃ p ys, xs = [.ref p] ∧ (SqL K H p ys ∨ SqT K H p ys) ∧ ∀ l, H l = none → Q (.ref l) (upd H l (.lst ys))) fList).go W A H0 H xs ss Qd Q b f i rx h w⟩
instance {K : PySem.W.Frag} : RefC K (rTupleK K) fTuple := ⟨fun W A H0 H xs ss Qd Q b f i rx h w => (inferInstance : RefC K (fun xs H Q => ∃ p ys, xs = [.ref p] ∧ ((SqL K H p ys ∧ ∀ l, H l = none → Q (.ref l) (upd H l (.tup ys))) ∨ (SqT K H p ys ∧ Q (.ref p) H))) fTuple).go W A H0 H xs ss Qd Q b f i rx h w⟩
/-- a method, the written part by name -/
theorem pe_bmK {X : Cx} {K : PySem.W.Frag} {T id : String} {name : Str} {r : V → List V → Hp → VK → Prop} {o e : Expr} {es : List Expr} {to : TE} {t : TA} {apos cpos : Pos} (h : X.K = K) (pa : PlainAttrs T) (slot : Slot T name id) (hty : typeOf (.builtin id) = pure (.type "method_descriptor")) (hm : MtR X id r) (ho : PE X o to) (ha : PA X (e :: es) t)
    (hbase : attributeBase o name X.env (eval o X.env) = eval o X.env := by rfl)
    (hf : ((backTo cpos (starEach (e :: es) X.env)).all (fun x => !x.1) && (backToKw cpos (keywordEach [] X.env)).all (fun x => x.1.isSome) && decide ((e :: es).length + ([] : List Keyword).length + (if ([] : List Keyword).isEmpty then 0 else 1) < 30)) = true := by rfl)
    (hl : (apos.endLine == cpos.line) = true := by rfl) (hs : starEach (e :: es) X.env = (false, eval e X.env) :: starEach es X.env := by rfl) (hp : (backTo cpos (starEach es X.env)).any (·.1) = false := by rfl) : PE X (.Call (.Attribute o name apos) (e :: es) [] cpos) (tBM K T r to t) := by
  subst h
  exact pe_bm pa slot hty hm ho ha hbase hf hl hs hp
end Dl

namespace Dl
open PySem PySem.Spec PyProof.Rows L2
theorem pg_tupK {X : Cx} {K : PySem.W.Frag} {ts : List Expr} {t : TGs} {i n : Nat} {pos : Pos} (h : X.K = K) (hc : X.calm = true) (hs : PGs X ts t) (en : (assignEach ts X.env).length = n := by rfl) (es : (assignEach ts X.env).findIdx? (·.1) = none := by rfl) : PG X (.Tuple ts i pos) (gTup K n t) := h ▸ pg_tup hc hs en es
/-! ### shapes of data -/
/-- data that can be compared, of at most so many depths -/
structure Lay (d : PyData) (n : Nat) : Prop where
  c : d.canLay0 = true
  k : d.depth ≤ n
theorem Lay.mono {d : PyData} {n m : Nat} (h : Lay d n) (l : n ≤ m) : Lay d m := ⟨h.c, Nat.le_trans h.k l⟩
theorem Lay.sh {d : PyData} {n : Nat} (h : Lay d n) (l : n ≤ 64) : SeqAt.shaped d = true := by
  unfold SeqAt.shaped
  rw [h.c, Bool.true_and]
  exact decide_eq_true (Nat.le_trans h.k l)
theorem lay_int (i : Int) (n : Nat) : Lay (.int i) n := ⟨by simp [PyData.canLay0], by simp [PyData.depth]⟩
theorem lay_bool (i : Bool) (n : Nat) : Lay (.bool i) n := ⟨by simp [PyData.canLay0], by simp [PyData.depth]⟩
theorem lay_none (n : Nat) : Lay .none n := ⟨by simp [PyData.canLay0], by simp [PyData.depth]⟩
theorem lay_str {x : Str} (h : PyData.strOk x = true) (n : Nat) : Lay (.str x) n := ⟨by simp [PyData.canLay0, h], by simp [PyData.depth]⟩
theorem lay_all : ∀ {xs : List PyData} {n : Nat}, (∀ x ∈ xs, Lay x n) → PyData.canLayAll0 xs = true ∧ PyData.depthAll xs ≤ n
  | [], n, _ => by simp [PyData.canLayAll0, PyData.depthAll]
  | x :: r, n, h => by
    obtain ⟨a, b⟩ := lay_all (xs := r) (n := n) fun y hy => h y (List.mem_cons_of_mem _ hy)
    have hx := h x List.mem_cons_self
    refine ⟨by rw [PyData.canLayAll0, hx.c, a]; rfl, ?_⟩
    rw [PyData.depthAll]
    have := hx.k
    omega
theorem lay_tup {xs : List PyData} {n : Nat} (h : ∀ x ∈ xs, Lay x n) : Lay (.tuple xs) (n + 1) := by
  obtain ⟨a, b⟩ := lay_all h
  exact ⟨by rw [PyData.canLay0, a], by rw [PyData.depth]; omega⟩
theorem lay_lst {xs : List PyData} {n : Nat} (h : ∀ x ∈ xs, Lay x n) : Lay (.list xs) (n + 1) := by
  obtain ⟨a, b⟩ := lay_all h
  exact ⟨by rw [PyData.canLay0, a], by rw [PyData.depth]; omega⟩
theorem eqv_int (i j : Int) : PyData.eqv (.int i) (.int j) = decide (i = j) := by
  simp only [PyData.eqv]
  rfl
theorem eqv_bool (i j : Bool) : PyData.eqv (.bool i) (.bool j) = decide (i = j) := by
  simp only [PyData.eqv]
  cases i <;> cases j <;> rfl
theorem eqv_str (i j : Str) : PyData.eqv (.str i) (.str j) = (i == j) := by simp only [PyData.eqv]
theorem sh_int (i : Int) : SeqAt.shaped (.int i) = true := (lay_int i 0).sh (by decide)
theorem sh_bool (i : Bool) : SeqAt.shaped (.bool i) = true := (lay_bool i 0).sh (by decide)
theorem sh_none : SeqAt.shaped .none = true := (lay_none 0).sh (by decide)
theorem sh_str {x : Str} (h : PyData.strOk x = true) : SeqAt.shaped (.str x) = true := (lay_str h 0).sh (by decide)
/-! ### nets among data -/
def wholeD : PyData → Bool
  | .int _ => true
  | _ => false
def withinD (lo hi : Int) : PyData → Bool
  | .int i => decide (lo ≤ i) && decide (i ≤ hi)
  | _ => false
theorem withinD_true {lo hi : Int} {x : PyData} (h : withinD lo hi x = true) : ∃ i, x = .int i ∧ lo ≤ i ∧ i ≤ hi := by
  cases x with
  | int i =>
    have h : (decide (lo ≤ i) && decide (i ≤ hi)) = true := h
    rw [Bool.and_eq_true, decide_eq_true_eq, decide_eq_true_eq] at h
    exact ⟨i, rfl, h.1, h.2⟩
  | _ => cases h
theorem withinD_of {lo hi i : Int} (a : lo ≤ i) (b : i ≤ hi) : withinD lo hi (.int i) = true := by
  show (decide (lo ≤ i) && decide (i ≤ hi)) = true
  rw [decide_eq_true a, decide_eq_true b]
  rfl
theorem withinD_not {lo hi i : Int} (h : i < lo ∨ hi < i) : withinD lo hi (.int i) = false := by
  show (decide (lo ≤ i) && decide (i ≤ hi)) = false
  rcases h with h | h
  · rw [decide_eq_false (by omega)]
    rfl
  · rw [decide_eq_false (show ¬ (i ≤ hi) by omega), Bool.and_false]
def tupD (n : Int) : PyData → Bool
  | .tuple xs => decide ((xs.length : Int) = n)
  | _ => false
def isT : PyData → Bool
  | .tuple _ => true
  | _ => false
def neI : PyData → PyData → Bool
  | .int i, .int j => !decide (i = j)
  | _, _ => false
def roadD (p : Int) : PyData → Bool
  | .tuple [a, b, c, t] => withinD 0 (p - 1) a && (withinD 0 (p - 1) b && (neI a b && (withinD 1 99 c && withinD 0 99 t)))
  | _ => false
def netD : PyData → Bool
  | .tuple [.int p, .tuple rs] => withinD 1 10 (.int p) && (decide (rs.length ≤ 30) && rs.all (roadD p))
  | _ => false
/-- a road, a net -/
structure Road where
  one : Int
  other : Int
  cost : Int
  time : Int
  deriving DecidableEq
def Road.dt (q : Road) : PyData := .tuple [.int q.one, .int q.other, .int q.cost, .int q.time]
structure RoadOk (p : Int) (q : Road) : Prop where
  o1 : 0 ≤ q.one
  o2 : q.one ≤ p - 1
  t1 : 0 ≤ q.other
  t2 : q.other ≤ p - 1
  ne : q.one ≠ q.other
  c1 : 1 ≤ q.cost
  c2 : q.cost ≤ 99
  m1 : 0 ≤ q.time
  m2 : q.time ≤ 99
structure NetOk (p : Int) (rs : List Road) : Prop where
  p1 : 1 ≤ p
  p2 : p ≤ 10
  len : rs.length ≤ 30
  all : ∀ q ∈ rs, RoadOk p q
def netT (p : Int) (rs : List Road) : PyData := .tuple [.int p, .tuple (rs.map Road.dt)]
theorem roadD_ok {p : Int} {q : Road} (h : RoadOk p q) : roadD p q.dt = true := by
  show (withinD 0 (p - 1) (.int q.one) && (withinD 0 (p - 1) (.int q.other) && (!decide (q.one = q.other) && (withinD 1 99 (.int q.cost) && withinD 0 99 (.int q.time))))) = true
  rw [withinD_of h.o1 h.o2, withinD_of h.t1 h.t2, withinD_of h.c1 h.c2, withinD_of h.m1 h.m2, decide_eq_false h.ne]
  rfl
theorem netD_ok {p : Int} {rs : List Road} (h : NetOk p rs) : netD (netT p rs) = true := by
  show (withinD 1 10 (.int p) && (decide ((rs.map Road.dt).length ≤ 30) && (rs.map Road.dt).all (roadD p))) = true
  rw [withinD_of h.p1 h.p2, decide_eq_true (by rw [List.length_map]; exact h.len), List.all_eq_true.mpr fun x hx => ?_]
  · rfl
  · obtain ⟨q, hq, rfl⟩ := List.mem_map.mp hx
    exact roadD_ok (h.all q hq)
theorem lay_road (q : Road) : Lay q.dt 1 := lay_tup fun x hx => by
  simp only [List.mem_cons, List.not_mem_nil, or_false] at hx
  rcases hx with rfl | rfl | rfl | rfl <;> exact lay_int _ 0
theorem lay_net (p : Int) (rs : List Road) : Lay (netT p rs) 3 := lay_tup fun x hx => by
  simp only [List.mem_cons, List.not_mem_nil, or_false] at hx
  rcases hx with rfl | rfl
  · exact lay_int _ 2
  · refine lay_tup fun x hx => ?_
    obtain ⟨q, _, rfl⟩ := List.mem_map.mp hx
    exact lay_road q
/-! ### how long the text of a net is -/
theorem Sh.small {i : Int} (h : i.natAbs ≤ 1000) : Sh (.int i) 40 0 := Sh.int (Nat.lt_of_le_of_lt h (by decide +kernel))
theorem Sh.road {p : Int} {q : Road} (h : RoadOk p q) (hp : p ≤ 10) : Sh q.dt 172 1 := by
  refine (Sh.tuple (n := 40) (m := 0) (k := 4) (fun d hd => ?_) (Nat.le_refl _)).mono (by decide) (Nat.le_refl _)
  have o1 := h.o1
  have o2 := h.o2
  have t1 := h.t1
  have t2 := h.t2
  have c1 := h.c1
  have c2 := h.c2
  have m1 := h.m1
  have m2 := h.m2
  simp only [List.mem_cons, List.not_mem_nil, or_false] at hd
  rcases hd with rfl | rfl | rfl | rfl <;> exact Sh.small (by omega)
theorem Sh.net {p : Int} {rs : List Road} (h : NetOk p rs) : Sh (netT p rs) 11000 3 := by
  have s1 : Sh (.tuple (rs.map Road.dt)) (4 + 30 * (172 + 2)) 2 := Sh.tuple (n := 172) (m := 1) (k := 30) (fun d hd => by
    obtain ⟨q, hq, rfl⟩ := List.mem_map.mp hd
    exact Sh.road (h.all q hq) h.p2) (by rw [List.length_map]; exact h.len)
  have s2 : Sh (.int p) 40 0 := Sh.small (by have := h.p1; have := h.p2; omega)
  refine (Sh.tuple (n := 4 + 30 * (172 + 2)) (m := 2) (k := 2) (fun d hd => ?_) (Nat.le_refl _)).mono (by decide) (Nat.le_refl _)
  simp only [List.mem_cons, List.not_mem_nil, or_false] at hd
  rcases hd with rfl | rfl
  · exact s2.mono (by decide) (by decide)
  · exact s1
/-- no dict in it -/
theorem noDict_all : ∀ {xs : List PyData}, (∀ x ∈ xs, x.hasDict = false) → PyData.hasDictAll xs = false
  | [], _ => by rw [PyData.hasDictAll]
  | x :: r, h => by
    rw [PyData.hasDictAll, h x List.mem_cons_self, noDict_all fun y hy => h y (List.mem_cons_of_mem _ hy)]
    rfl
mutual
theorem noDict_lay : ∀ {d : PyData}, d.canLay0 = true → d.hasDict = false
  | .none, _ => by simp [PyData.hasDict]
  | .bool _, _ => by simp [PyData.hasDict]
  | .int _, _ => by simp [PyData.hasDict]
  | .str _, _ => by simp [PyData.hasDict]
  | .list xs, h => by
    rw [PyData.hasDict]
    exact noDict_lays (by simpa [PyData.canLay0] using h)
  | .tuple xs, h => by
    rw [PyData.hasDict]
    exact noDict_lays (by simpa [PyData.canLay0] using h)
  | .dict _, h => by simp [PyData.canLay0] at h
theorem noDict_lays : ∀ {xs : List PyData}, PyData.canLayAll0 xs = true → PyData.hasDictAll xs = false
  | [], _ => by rw [PyData.hasDictAll]
  | x :: r, h => by
    rw [PyData.canLayAll0, Bool.and_eq_true] at h
    rw [PyData.hasDictAll, noDict_lay h.1, noDict_lays h.2]
    rfl
end
theorem okR_lay {d : PyData} {n : Nat} (h : Lay d n) : okR d = true := by
  unfold okR
  rw [noDict_lay h.c]
  rfl
end Dl

namespace Dl
open PySem PySem.Spec PyProof.Rows L2
section
variable {K : PySem.W.Frag} {E : XK}
/-! ### written dicts -/
theorem Want.dct {τ : List (Addr × Str)} {W : Wld τ} {A : Addr → Prop} {H : Hp} {Qd : Sl → Prop} {Q : VK} {kvs : List (Key × V)} {ds : List PyData} (b : Bs W A H) (h : Want K W A H Qd Q) (r : RpAll K A H (kvs.map (·.2)) ds) (q : Qd (.d (.dict ((kvs.map fun (z : Key × V) => keyD z.1).zip ds)))) : ∀ p, H p = none → Q (.ref p) (upd H p (.dK kvs)) := fun p n =>
  h _ _ (.d (.dict ((kvs.map fun (z : Key × V) => keyD z.1).zip ds))) (Fr.new n) (W.stay _ _ (same_new n) b.inv) (Rp.dct upd_same (b.nA (nob n)) (r.go (goes_fr b.ba (Fr.new n)))) q
def dDict0 : TD := fun _ Qd _ => Qd (.d (.dict []))
instance : RefE K τ E tDNewK dDict0 := ⟨fun W A H σ ρ Qd R Q a h w => Want.dct (kvs := []) (ds := []) a.bs w .nil h⟩
def dDict1 (k n : Int) : TD := fun _ Qd _ => Qd (.d (.dict [(.int k, .int n)]))
instance {k n : Int} : RefE K τ E (tDisp [(tC (.int k), tC (.int n))]) (dDict1 k n) := ⟨fun W A H σ ρ Qd R Q a h w => by
  intro p np
  refine ⟨upd_same, [(Sum.inl k, .int n)], rfl, by show 1 ≤ 15; decide, ?_⟩
  rw [upd_upd]
  exact Want.dct (kvs := [(Sum.inl k, .int n)]) (ds := [.int n]) a.bs w (.cons (.int n) .nil) h p np⟩
end
/-! ### what is drawn from a list -/
/-- the one of a number -/
theorem pick {α : Type} {xs : List α} {n : Int} (h0 : 0 ≤ n) (h1 : n < (xs.length : Int)) : ∃ v, v ∈ xs ∧ L2.atI xs n = some v := by
  obtain ⟨m, rfl⟩ := Int.eq_ofNat_of_zero_le h0
  have hm : m < xs.length := by omega
  exact ⟨xs[m], List.getElem_mem hm, L2.atI_nat (List.getElem?_eq_getElem hm)⟩
/-- an item, where the list is known and the number drawn -/
theorem fIx_pick {xs : List PyData} {n : Int} {Qd : Sl → Prop} (h0 : 0 ≤ n) (h1 : n < (xs.length : Int)) (h : ∀ d ∈ xs, Qd (.d d)) : fIx (.ml xs) (.d (.int n)) Qd := by
  obtain ⟨v, hv, e⟩ := pick h0 h1
  show (match L2.atI xs n with | some d => Qd (.d d) | none => False)
  rw [e]
  exact h v hv
theorem fIx_at {xs : List PyData} {n : Nat} {d : PyData} {Qd : Sl → Prop} (e : xs[n]? = some d) (h : Qd (.d d)) : fIx (.d (.tuple xs)) (.d (.int (n : Int))) Qd := by
  show (match L2.atI xs (n : Int) with | some d => Qd (.d d) | none => False)
  rw [L2.atI_nat e]
  exact h
theorem fIxL_at {xs : List PyData} {n : Nat} {d : PyData} {Qd : Sl → Prop} {s : Sl} (hs : s.seq = some xs) (e : xs[n]? = some d) (h : Qd (.d d)) : fIxL s (.d (.int (n : Int))) Qd := by
  unfold fIxL
  rw [hs]
  show (match L2.atI xs (n : Int) with | some d => Qd (.d d) | none => False)
  rw [L2.atI_nat e]
  exact h
/-! ### slices -/
theorem sIx_nat {n d m : Nat} (h : m ≤ n) : HT.sIx n d (some (m : Int)) = m := by
  rw [HT.sIx_nat, Nat.min_eq_left h]
theorem cutD_take {xs : List PyData} {m : Nat} (h : m ≤ xs.length) : cutD xs none (some (m : Int)) = xs.take m := by
  unfold cutD
  rw [sIx_nat h]
  show (xs.drop 0).take (m - 0) = _
  rw [List.drop_zero, Nat.sub_zero]
theorem cutD_drop {xs : List PyData} {m : Nat} (h : m ≤ xs.length) : cutD xs (some (m : Int)) none = xs.drop m := by
  unfold cutD
  rw [sIx_nat h]
  show (xs.drop m).take (xs.length - m) = _
  rw [List.take_of_length_le (by rw [List.length_drop]; omega)]
end Dl

namespace Dl
open PySem PySem.Spec PyProof.Rows L2
theorem rangeD_get {lo : Int} {n i : Nat} {d : PyData} (h : (rangeD lo n)[i]? = some d) : i < n ∧ d = .int (lo + (i : Int)) := by
  unfold rangeD at h
  rw [List.getElem?_map] at h
  have hi : i < n := by
    rcases Nat.lt_or_ge i n with z | z
    · exact z
    · rw [List.getElem?_eq_none (by rw [List.length_range]; exact z)] at h
      cases h
  rw [List.getElem?_range hi] at h
  cases h
  exact ⟨hi, rfl⟩
theorem rangeD_len (lo : Int) (n : Nat) : (rangeD lo n).length = n := by rw [rangeD, List.length_map, List.length_range]
/-- a number among drawn ones -/
theorem fIx_num {xs : List PyData} {n lo hi : Int} {Qd : Sl → Prop} (h0 : 0 ≤ n) (h1 : n < (xs.length : Int)) (hx : ∀ d ∈ xs, ∃ i : Int, d = .int i ∧ lo ≤ i ∧ i ≤ hi) (h : ∀ i : Int, lo ≤ i → i ≤ hi → Qd (.d (.int i))) : fIx (.ml xs) (.d (.int n)) Qd := fIx_pick h0 h1 fun d hd => by
  obtain ⟨i, rfl, a, b⟩ := hx d hd
  exact h i a b
theorem other_ok {a b p : Int} (a0 : 0 ≤ a) (a1 : a < p) (b0 : 0 ≤ b) (b1 : b < p - 1) : 0 ≤ (a + 1 + b) % p ∧ (a + 1 + b) % p ≤ p - 1 ∧ a ≠ (a + 1 + b) % p := by
  by_cases h : a + 1 + b < p
  · rw [Int.emod_eq_of_lt (by omega) h]
    omega
  · have e : a + 1 + b = (a + 1 + b - p) + p := by omega
    rw [e, Int.add_emod_right, Int.emod_eq_of_lt (by omega) (by omega)]
    omega
/-! ### what the operators tell of known things -/
section
variable {Qd : Sl → Prop} {i j : Int} {a b : Bool} {x y : Str} {xs ys : List PyData} {g : Int → Int → V} {C : Int → Int → Prop} {d e : PyData} {s u : Sl} {neg : Bool} {lo hi : Option Int}
theorem fI0_c : fI0 g (.d (.int i)) (.d (.int j)) Qd = Qd (vS (g i j)) := propext Iff.rfl
theorem fI_c : fI C g (.d (.int i)) (.d (.int j)) Qd = (C i j ∧ Qd (vS (g i j))) := propext Iff.rfl
theorem fU_c {g : Int → V} : fU g (.d (.int i)) Qd = Qd (vS (g i)) := propext Iff.rfl
theorem fAddX_i : fAddX (.d (.int i)) (.d (.int j)) Qd = Qd (.d (.int (i + j))) := propext Iff.rfl
theorem fAddX_t : fAddX (.d (.tuple xs)) (.d (.tuple ys)) Qd = (xs.length + ys.length ≤ sizeLine ∧ Qd (.d (.tuple (xs ++ ys)))) := propext Iff.rfl
theorem fAddX_s : fAddX (.d (.str x)) (.d (.str y)) Qd = (x.length + y.length ≤ sizeLine ∧ Qd (.d (.str (x ++ y)))) := propext Iff.rfl
theorem fAddX_mm : fAddX (.ml xs) (.ml ys) Qd = (xs.length + ys.length ≤ sizeLine ∧ Qd (.ml (xs ++ ys))) := propext Iff.rfl
theorem fAddX_bm : fAddX (.bl xs) (.ml ys) Qd = (xs.length + ys.length ≤ sizeLine ∧ Qd (.ml (xs ++ ys))) := propext Iff.rfl
theorem fAddX_mb : fAddX (.ml xs) (.bl ys) Qd = (xs.length + ys.length ≤ sizeLine ∧ Qd (.ml (xs ++ ys))) := propext Iff.rfl
theorem fAddX_bb : fAddX (.bl xs) (.bl ys) Qd = (xs.length + ys.length ≤ sizeLine ∧ Qd (.ml (xs ++ ys))) := propext Iff.rfl
theorem fAddX_lm : fAddX (.d (.list xs)) (.ml ys) Qd = (xs.length + ys.length ≤ sizeLine ∧ Qd (.ml (xs ++ ys))) := propext Iff.rfl
theorem fAddX_ll : fAddX (.d (.list xs)) (.d (.list ys)) Qd = (xs.length + ys.length ≤ sizeLine ∧ Qd (.ml (xs ++ ys))) := propext Iff.rfl
theorem fMulX_i : fMulX (.d (.int i)) (.d (.int j)) Qd = (CMul i j ∧ Qd (.d (.int (i * j)))) := propext Iff.rfl
theorem fMulX_m : fMulX (.ml xs) (.d (.int j)) Qd = (-(2 ^ 63) ≤ j ∧ j < 2 ^ 63 ∧ xs.length * j.toNat ≤ sizeLine ∧ Qd (.ml (List.replicate j.toNat xs).flatten)) := propext Iff.rfl
theorem fSlX_t : fSlX (.d (.tuple xs)) lo hi Qd = Qd (.d (.tuple (cutD xs lo hi))) := propext Iff.rfl
theorem fSlX_m : fSlX (.ml xs) lo hi Qd = Qd (.ml (cutD xs lo hi)) := propext Iff.rfl
theorem fSlX_b : fSlX (.bl xs) lo hi Qd = Qd (.ml (cutD xs lo hi)) := propext Iff.rfl
theorem fSlX_l : fSlX (.d (.list xs)) lo hi Qd = Qd (.ml (cutD xs lo hi)) := propext Iff.rfl
theorem fIs_n : fIs neg (.d .none) (.d .none) Qd = Qd (.d (.bool !neg)) := by cases neg <;> rfl
theorem fIs_i : fIs neg (.d (.int i)) (.d .none) Qd = Qd (.d (.bool neg)) := by cases neg <;> rfl
theorem fIs_b : fIs neg (.d (.bool a)) (.d .none) Qd = Qd (.d (.bool neg)) := by cases neg <;> rfl
theorem fIs_s : fIs neg (.d (.str x)) (.d .none) Qd = Qd (.d (.bool neg)) := by cases neg <;> rfl
theorem fIs_l : fIs neg (.d (.list xs)) (.d .none) Qd = Qd (.d (.bool neg)) := by cases neg <;> rfl
theorem fIs_t : fIs neg (.d (.tuple xs)) (.d .none) Qd = Qd (.d (.bool neg)) := by cases neg <;> rfl
theorem fIs_m : fIs neg (.ml xs) (.d .none) Qd = Qd (.d (.bool neg)) := by cases neg <;> rfl
theorem fIs_bl : fIs neg (.bl xs) (.d .none) Qd = Qd (.d (.bool neg)) := by cases neg <;> rfl
theorem fLen_t : fLen [.d (.tuple xs)] Qd = Qd (.d (.int xs.length)) := propext Iff.rfl
theorem fLen_l : fLen [.d (.list xs)] Qd = Qd (.d (.int xs.length)) := propext Iff.rfl
theorem fLen_m : fLen [.ml xs] Qd = Qd (.d (.int xs.length)) := propext Iff.rfl
theorem fLen_b : fLen [.bl xs] Qd = Qd (.d (.int xs.length)) := propext Iff.rfl
theorem fLen_scr {ns : List Int} : fLen [.scr ns] Qd = Qd (.d (.int ns.length)) := by
  show Qd (.d (.int ((ns.map PyData.int).length : Nat))) = _
  rw [List.length_map]
theorem fIsi_c {T : String} : fIsi [.d d, .raw (.ty T)] Qd = (okTy T ∧ Qd (.d (.bool (isiD (tyD d) T)))) := propext Iff.rfl
theorem fEqD_c : fEqD neg (.d d) (.d e) Qd = (SeqAt.shaped d = true ∧ SeqAt.shaped e = true ∧ Qd (.d (.bool (if neg then !PyData.eqv d e else PyData.eqv d e)))) := propext Iff.rfl
theorem fEqD_mm : fEqD neg (.ml xs) (.ml ys) Qd = (SeqAt.shaped (.list xs) = true ∧ SeqAt.shaped (.list ys) = true ∧ Qd (.d (.bool (if neg then !PyData.eqv (.list xs) (.list ys) else PyData.eqv (.list xs) (.list ys))))) := propext Iff.rfl
theorem fEqD_bm : fEqD neg (.bl xs) (.ml ys) Qd = (SeqAt.shaped (.list xs) = true ∧ SeqAt.shaped (.list ys) = true ∧ Qd (.d (.bool (if neg then !PyData.eqv (.list xs) (.list ys) else PyData.eqv (.list xs) (.list ys))))) := propext Iff.rfl
theorem fEqD_bb : fEqD neg (.bl xs) (.bl ys) Qd = (SeqAt.shaped (.list xs) = true ∧ SeqAt.shaped (.list ys) = true ∧ Qd (.d (.bool (if neg then !PyData.eqv (.list xs) (.list ys) else PyData.eqv (.list xs) (.list ys))))) := propext Iff.rfl
theorem fEqD_dm : fEqD neg (.d d) (.ml ys) Qd = (SeqAt.shaped d = true ∧ SeqAt.shaped (.list ys) = true ∧ Qd (.d (.bool (if neg then !PyData.eqv d (.list ys) else PyData.eqv d (.list ys))))) := propext Iff.rfl
theorem fEq_ss : fEq neg (.d (.str x)) (.d (.str y)) Qd = (True ∧ Qd (.d (.bool (if neg then !decide (V.str x = V.str y) else decide (V.str x = V.str y))))) := by
  show (scal (.str x) (.str y) = true ∧ _) = _
  rw [show scal (.str x) (.str y) = true from rfl]
  simp
theorem fInt_i : fInt [.d (.int i)] Qd = Qd (.d (.int i)) := propext Iff.rfl
theorem fInt_b : fInt [.d (.bool a)] Qd = Qd (.d (.int (if a then 1 else 0))) := propext Iff.rfl
theorem fTuple_m : fTuple [.ml xs] Qd = Qd (.d (.tuple xs)) := propext Iff.rfl
theorem fTuple_b : fTuple [.bl xs] Qd = Qd (.d (.tuple xs)) := propext Iff.rfl
theorem fTuple_t : fTuple [.d (.tuple xs)] Qd = Qd (.d (.tuple xs)) := propext Iff.rfl
theorem fTuple_l : fTuple [.d (.list xs)] Qd = Qd (.d (.tuple xs)) := propext Iff.rfl
theorem fList_m : fList [.ml xs] Qd = Qd (.ml xs) := propext Iff.rfl
theorem fList_b : fList [.bl xs] Qd = Qd (.ml xs) := propext Iff.rfl
theorem fList_t : fList [.d (.tuple xs)] Qd = Qd (.ml xs) := propext Iff.rfl
theorem fList_l : fList [.d (.list xs)] Qd = Qd (.ml xs) := propext Iff.rfl
theorem f2I_c {g : Int → Int → Int} : f2I g [.d (.int i), .d (.int j)] Qd = Qd (.d (.int (g i j))) := propext Iff.rfl
theorem fRepr_c : fRepr [.d d] Qd = (Sh d 10000000 50 ∧ okR d = true ∧ Qd (.d (.str d.shown))) := propext Iff.rfl
theorem fRepr_b : fRepr [.bl xs] Qd = (Sh (.list xs) 10000000 50 ∧ okR (.list xs) = true ∧ Qd (.d (.str (PyData.list xs).shown))) := propext Iff.rfl
theorem fRepr_m : fRepr [.ml xs] Qd = (Sh (.list xs) 10000000 50 ∧ okR (.list xs) = true ∧ Qd (.d (.str (PyData.list xs).shown))) := propext Iff.rfl
theorem fStr_c : fStr [.d (.int i)] Qd = (i.natAbs.log2 < 1920 ∧ Qd (.d (.str (toString i)))) := propext Iff.rfl
theorem fAll_m {bs : List Bool} : fBools gAll [.ml (bs.map PyData.bool)] Qd = Qd (.d (.bool (bs.all id))) := by
  show (match (oAll dbool (bs.map PyData.bool)) with | some ns => gAll ns Qd | none => False) = _
  rw [bools_of]
  rfl
theorem fAny_m {bs : List Bool} : fBools gAny [.ml (bs.map PyData.bool)] Qd = Qd (.d (.bool (bs.any id))) := by
  show (match (oAll dbool (bs.map PyData.bool)) with | some ns => gAny ns Qd | none => False) = _
  rw [bools_of]
  rfl
theorem fSum_m {ns : List Int} : fInts gSum [.ml (ns.map PyData.int)] Qd = Qd (.d (.int ns.sum)) := by
  show (match (oAll dint (ns.map PyData.int)) with | some ns => gSum ns Qd | none => False) = _
  rw [ints_of]
  rfl
end
end Dl

namespace Dl
open PySem PySem.Spec PyProof.Rows L2
theorem pe_no {X : Cx} {e : Expr} : PE X e (fun _ _ _ => False) := ⟨fun _ _ _ _ _ _ h => h.elim⟩
/-- xs.count(x) of flat things -/
def rCountV (K : PySem.W.Frag) : V → List V → Hp → VK → Prop := fun x xs H Q => ∃ (a : Addr) (ys : List V) (y : V), x = V.ref a ∧ xs = [y] ∧ SqL K H a ys ∧ flatV y = true ∧ ys.all flatV = true ∧ Q (.int ((ys.countP fun u => eqV u y) : Nat)) H
theorem count_eqU {x : V} : ∀ {xs : List V} {us : List Value}, Vals xs us → xs.all flatV = true → us.countP (eqU x) = xs.countP fun y => eqV y x
  | _, _, .nil, _ => rfl
  | y :: r, _, .cons h t, f => by
    rw [List.all_cons, Bool.and_eq_true] at f
    rw [List.countP_cons, List.countP_cons, count_eqU t f.2, eqU_of h f.1]
theorem mt_countV {X : Cx} : MtR X "list.count" (rCountV X.K) := by
  intro pins s σ H x xs v us Q I rx rxs h
  obtain ⟨a, ys, y, rfl, rfl, sq, fy, fys, q⟩ := h
  cases rx
  cases rxs with
  | cons ry rt =>
    rename_i uy ut
    cases rt
    obtain ⟨its, rv, ⟨⟨cls, dd, data, sl⟩, n, ho, hc, hn, hd⟩, _⟩ := I.list sq
    simp only at hc hd
    subst hc hd
    refine call_meets PySem.F.slot_list_count ⟨_, ho, rfl⟩ PySem.F.entry_list_count (PySem.F.args_list_count_2 _ _) (SeqAt.list_countAt a its.toArray n dd sl uy (eqU y)) ⟨ho, fun u hu => mem_eqAt ry fy rv fys u (by simpa using hu), ?_⟩
    refine ⟨.int _, H, I.tok _, ⟨s.toks, ?_⟩, q⟩
    show Value.int ((its.toArray.toList.countP (eqU y) : Nat) : Int) s.toks = _
    rw [show its.toArray.toList = its from rfl, count_eqU rv fys]
/-! ### an error that is handled, and defs that are handed it -/
def ErrOf (D : Addr) (o : Obj) : Prop := Zc (.ref D) none o ∧ ∃ vs, o.data = .fields vs
theorem call_isP {X : Cx} {p : Addr × Obj} {D : Addr} (C : ExcC X.K D) (hp : p ∈ X.pn) (hz : ErrOf D p.2) : CallR X (.builtin "isinstance") (rIsE X.K D p.1) := by
  intro pins s σ H xs us Q I r h
  obtain ⟨c, cv, b, rfl, hc, e, q⟩ := h
  cases r with
  | cons rx rr =>
    cases rr with
    | cons rt rn =>
      cases rn
      cases rx
      have ec := hc _ rt
      subst ec
      obtain ⟨got, _⟩ := I.pin p (List.mem_append.mpr (.inl hp))
      obtain ⟨pa, oe⟩ := p
      obtain ⟨⟨h1, h2⟩, vs, hv⟩ := hz
      have J : PySem.W.InstAt s.heap pa oe D none := by
        obtain ⟨oc, od, oda, osl⟩ := oe
        dsimp only at h1 h2 hv
        subst h1 h2 hv
        exact ⟨got, rfl, rfl, trivial⟩
      exact PySem.W.kia_one (PySem.W.handS_kitx_exc C.hg C.hk C.hs C.hd C.ha C.hn C.ht C.hm) I.kIn J e (fun z => nomatch z) fun tk => ⟨.bl b, H, I.kept (t' := tk) fun _ _ z => z, rfl, q⟩
/-- what a def promises that is called with the error of class D while it is handled -/
structure FnE (P : Program) (w : World) (K : PySem.W.Frag) (mg : Str → Option Value) (base : Heap) (k : Nat) (f : Addr) (fd : FuncData) (ps : List Str) (D : Addr) (sp : Addr → List V → Hp → VK → Prop) : Prop where
  len : ∀ a vs H Q, sp a vs H Q → vs.length = ps.length
  run : ∀ (A : Around) (outer : List Env) (s : Shared) (H : Hp) (args : Args) (us : List Value) (vs : List V) (Q : VK) (p : Addr × Obj), L2H.RoomH k A → L2H.PinOk outer H s p → ErrOf D p.2 → Env0 P w K mg base A outer s H → BindsTo s fd args (ps.zip us) → Vals vs us → sp p.1 vs H Q →
    codeAny (model P w) A (.call (.ref f) args) (CR CX0 outer P w H s Q E0) s
theorem fnE_of {P : Program} {w : World} {K : PySem.W.Frag} {mg : Str → Option Value} {base : Heap} {x : Str} {st : Stmt} {f D : Addr} {fd : FuncData} {N ps : List Str} {k : Nat} {sp : Addr → List V → Hp → VK → Prop} (F : Fun K x x st f fd) (S : FnScope N ps (defScope st)) (len : ∀ a vs H Q, sp a vs H Q → vs.length = ps.length)
    (body : ∀ (cdv : Value) (A : Around) (outer : List Env) (s : Shared) (H : Hp) (vs : List V) (Q : VK) (p : Addr × Obj), L2H.RoomH k (A.deeper (envOfC x (defScope st) s.heap.objs.size f cdv)) → ErrOf D p.2 → sp p.1 vs H Q →
      ∃ t, PSs (L2H.cxH CX0 P w K mg base N x (defScope st) f cdv A outer s H E0 p).nox (defBody st) t ∧ t { nx := fun _ G => Q .non G, rt := Q } (L2.start N vs) H) : FnE P w K mg base (k + 1) f fd ps D sp := by
  obtain ⟨oc, od, kV, doc, pm, an, cdv, ct, osl, rfl, lk, hcd⟩ := F.ex
  refine ⟨len, fun A outer s H args us vs Q p hr pin err e0 bnd rv hsp => ?_⟩
  have inK : K.In s.heap := e0.mod.kin.keeps fun b o e => (e0.bs b o e).1
  refine codeAny_call_function hr.depth (inK _ _ lk) rfl S.co S.gen rfl (PySem.W.codeRec_of inK hcd) (bnd _ _ _ _ ?_)
  refine wpAny_newFunctionEnv_cells S.kind (fun y hy => ?_) fun env he s1 inC => ?_
  · rcases S.par y.1 (List.of_mem_zip (show (y.1, y.2) ∈ ps.zip us from hy)).1 with z | z
    · exact .inl z
    · exact .inr ⟨z, PySem.W.cellsFrom_some _ _ _ (.inl z)⟩
  · subst he
    refine ⟨(e0.mod.nolimit.keeps fun b o e => (e0.bs b o e).1).keeps inC.toInCall.keep, codeAny_func ?_⟩
    obtain ⟨t, ht, hq⟩ := body cdv A outer s H vs Q p (hr.deeper _) err hsp
    have J : L2.Inv (L2H.cxH CX0 P w K mg base N x (defScope st) f cdv A outer s H E0 p) [] (L2.start N vs) H s1 := L2H.inv_startH S pin e0 (len _ _ _ _ hsp) rv inC
    refine wpAny_mono (ht.nox.run [] s1 (L2.start N vs) H _ J hq) (fun fl s' hs => ?_) fun e s' hs => hs
    cases fl with
    | ret u =>
      obtain ⟨v, σ', H', J', rv', q⟩ := hs
      exact ⟨v, H', J'.os, J'.bare, J'.base, J'.hok, rv', q⟩
    | next =>
      obtain ⟨σ', H', J', q⟩ := hs
      exact ⟨.non, H', J'.os, J'.bare, J'.base, J'.hok, rfl, q⟩
    | brk =>
      obtain ⟨_, _, _, q⟩ := hs
      exact q.elim
    | cont =>
      obtain ⟨_, _, _, q⟩ := hs
      exact q.elim
theorem pe_callE {X : Cx} {k : Nat} {f D : Addr} {fd : FuncData} {ps : List Str} {sp : Addr → List V → Hp → VK → Prop} {x : Str} {u1 u2 : Pos} {e : Expr} {es : List Expr} {t : TA} {p : Addr × Obj} (F : FnE X.prog X.w X.K X.mg X.base k f fd ps D sp) (hr : L2H.RoomH k X.A) (hp : p ∈ X.pn) (hz : ErrOf D p.2) (hg : Gl X x) (hm : X.mg x = some (.ref f))
    (hk : PySem.W.keepIn X.K (.ref f) = true) (hb : L2.Binds X.K fd ps []) (ha : PA X (e :: es) t) (hdb : (x == ("__debug__" : Str)) = false := by decide) (he : starEach (e :: es) X.env = (false, eval e X.env) :: starEach es X.env := by rfl) (hpl : (backTo u2 (starEach es X.env)).any (·.1) = false := by rfl) :
    PE X (.Call (.Name x u1) (e :: es) [] u2) (fun σ H Q => t σ H fun vs G => sp p.1 vs G Q) := by
  refine ⟨fun pins s σ H Q I h => wpAny_Call_Name_kw (ld_glob I hg hm ?_ hdb)⟩
  refine PySem.W.callWith_K (h₀ := X.base) I.ok.mod.kin hk (thn (ha.run u2 pins s σ H _ I h) fun us t1 ⟨vs, G, J, rv, q⟩ => ⟨J.kIn, ?_⟩) he hpl
  have hl : us.length = ps.length := by
    rw [← rv.length]
    exact F.len _ _ _ _ q
  have bnd := hb t1 us J.kIn (by rw [List.append_nil]; exact hl)
  rw [List.append_nil] at bnd
  have pp := J.pin p (List.mem_append_left _ hp)
  have pin : L2H.PinOk X.stack G t1 p := ⟨pp.1, pp.2.1, fun hm => (List.mem_cons.mp (J.stkSub p.1 hm)).elim pp.2.2.1 pp.2.2.2.1, pp.2.2.2.2⟩
  refine wpAny_call (codeAny_mono (F.run X.A X.stack t1 G ⟨us, []⟩ us vs Q p hr pin hz J.env0 bnd rv q) fun r s' hq => ?_)
  cases r with
  | error e => exact (show False from hq).elim
  | ok fl =>
    cases fl with
    | ret u => exact J.after hq
    | next => exact (show False from hq).elim
    | brk => exact (show False from hq).elim
    | cont => exact (show False from hq).elim
theorem pass00 {X : Cx} {P : Program} {w : World} : Passes (L2.CX P w) X E0 := fun _ _ _ _ _ _ _ h => by
  obtain ⟨a, B, H', cls, d, _, _, _, _, _, _, _, h⟩ := h
  exact h.elim
end Dl

namespace Dl
open PySem PySem.Spec PyProof.Rows L2
/-! ### a reading step by step: nothing is opened ahead of its value -/
def setK (i : Nat) (ρ : List Sl) (nx : List Sl → Prop) : Sl → Prop := fun s => match s with
  | .un => False
  | .bl _ => False
  | .bo _ => False
  | s => nx (ρ.set i s)
def retK (rt : Sl → Prop) : Sl → Prop := fun s => match s with
  | .bl _ => False
  | .st => False
  | .scr _ => False
  | .bo _ => False
  | s => rt s
def tstK (Qd : Bool → Prop) : Sl → Prop := fun s => match s with
  | .d (.bool b) => Qd b
  | _ => False
def truK (Qd : Bool → Prop) : Sl → Prop := fun s => match truD s with
  | some b => Qd b
  | none => False
def iteS (g h : TDS) (dd : DEnds) (R : Er → Prop) (ρ : List Sl) : Bool → Prop := fun b => match b with
  | true => g dd R ρ
  | false => h dd R ρ
def iteE (fa fb : TD) (ρ : List Sl) (Qd : Sl → Prop) (R : Er → Prop) : Bool → Prop := fun b => match b with
  | true => fa ρ Qd R
  | false => fb ρ Qd R
def andK (e : TDT) (ρ : List Sl) (Qd : Bool → Prop) (R : Er → Prop) : Bool → Prop := fun b => match b with
  | true => e ρ Qd R
  | false => Qd false
def orK (e : TDT) (ρ : List Sl) (Qd : Bool → Prop) (R : Er → Prop) : Bool → Prop := fun b => match b with
  | true => Qd true
  | false => e ρ Qd R
def andV (fb : TD) (ρ : List Sl) (Qd : Sl → Prop) (R : Er → Prop) : Bool → Prop := fun b => match b with
  | true => fb ρ Qd R
  | false => Qd (.d (.bool false))
def orV (fb : TD) (ρ : List Sl) (Qd : Sl → Prop) (R : Er → Prop) : Bool → Prop := fun b => match b with
  | true => Qd (.d (.bool true))
  | false => fb ρ Qd R
def asgK (fg : FG) (ρ : List Sl) (nx : List Sl → Prop) : Sl → Prop := fun s => match s.dat with
  | some x => fg x ρ nx
  | none => False
def chK (g : Sl → Sl → (Sl → Prop) → Prop) (fc : TD) (ρ : List Sl) (Qd : Sl → Prop) (R : Er → Prop) (u : Sl) : Sl → Prop := fun z => match z with
  | .d (.bool b) => (match b with
    | true => fc ρ (fun y => g u y Qd) R
    | false => Qd (.d (.bool false)))
  | _ => False
def tpK (Qd : List PyData → Prop) : Sl → Prop := fun s => match s.dat with
  | some (.tuple xs) => Qd xs
  | _ => False
def lsK (Qd : List PyData → Prop) : Sl → Prop := fun s => match s.dat with
  | some (.list xs) => Qd xs
  | _ => False
def sqK (Qd : List PyData → Prop) : Sl → Prop := fun s => match s.seq with
  | some xs => Qd xs
  | none => False
section
variable {dd : DEnds} {R : Er → Prop} {ρ : List Sl} {Qd : Sl → Prop} {Qb : Bool → Prop} {Ql : List PyData → Prop} {Qs : List Sl → Prop} {i j : Nat} {fe fa fb fc : TD} {g h : TDS} {c e : TDT} {x : PyData} {xs ys : List PyData} {v : V} {f f' : Sl → Sl → (Sl → Prop) → Prop} {nx : List Sl → Prop} {rt : Sl → Prop} {b : Bool} {fg : FG} {n : Int} {y : Str} {fi : TDI} {fA : TDA} {u : Sl}
theorem dNext_c : dNext dd R ρ = dd.nx ρ := propext Iff.rfl
theorem dBreak_c : dBreak dd R ρ = dd.bk ρ := propext Iff.rfl
theorem dCont_c : dCont dd R ρ = dd.ct ρ := propext Iff.rfl
theorem dSeq_c : dSeq g h dd R ρ = g { dd with nx := h dd R } R ρ := propext Iff.rfl
theorem dDrop_c : dDrop fe dd R ρ = fe ρ (fun _ => dd.nx ρ) R := propext Iff.rfl
theorem dRet_c : dRet fe dd R ρ = fe ρ (retK dd.rt) R := propext Iff.rfl
theorem retK_d : retK rt (.d x) = rt (.d x) := propext Iff.rfl
theorem retK_m : retK rt (.ml xs) = rt (.ml xs) := propext Iff.rfl
theorem retK_r : retK rt (.raw v) = rt (.raw v) := propext Iff.rfl
theorem dRetN_c : dRetN dd R ρ = dd.rt (.d .none) := propext Iff.rfl
theorem dIfS_c : dIfS c g h dd R ρ = c ρ (iteS g h dd R ρ) R := propext Iff.rfl
theorem iteS_t : iteS g h dd R ρ true = g dd R ρ := propext Iff.rfl
theorem iteS_f : iteS g h dd R ρ false = h dd R ρ := propext Iff.rfl
theorem dSet_c : dSet i fe dd R ρ = fe ρ (setK i ρ dd.nx) R := propext Iff.rfl
theorem setK_d : setK i ρ nx (.d x) = nx (ρ.set i (.d x)) := propext Iff.rfl
theorem setK_m : setK i ρ nx (.ml xs) = nx (ρ.set i (.ml xs)) := propext Iff.rfl
theorem setK_s : setK i ρ nx .st = nx (ρ.set i .st) := propext Iff.rfl
theorem setK_r : setK i ρ nx (.raw v) = nx (ρ.set i (.raw v)) := propext Iff.rfl
theorem dAsg_c : dAsg fe fg dd R ρ = fe ρ (asgK fg ρ dd.nx) R := propext Iff.rfl
theorem asgK_d : asgK fg ρ nx (.d x) = fg x ρ nx := propext Iff.rfl
theorem asgK_m : asgK fg ρ nx (.ml xs) = fg (.list xs) ρ nx := propext Iff.rfl
theorem dFz_c : dFz i g dd R ρ = g dd R (ρ.set i ((ρ[i]?).getD .un).fz) := propext Iff.rfl
theorem dNever_c : dNever dd R ρ = False := propext Iff.rfl
theorem dRaise_c {C : Addr} : dRaise C dd R ρ = R (C, []) := propext Iff.rfl
theorem dC_c : dC v ρ Qd R = Qd (vS v) := propext Iff.rfl
theorem dOp_c : dOp f fa fb ρ Qd R = fa ρ (fun s => fb ρ (fun u => f s u Qd) R) R := propext Iff.rfl
theorem dUn_c {f1 : Sl → (Sl → Prop) → Prop} : dUn f1 fa ρ Qd R = fa ρ (fun s => f1 s Qd) R := propext Iff.rfl
theorem dTst_c : dTst fe ρ Qb R = fe ρ (tstK Qb) R := propext Iff.rfl
theorem tstK_c : tstK Qb (.d (.bool b)) = Qb b := propext Iff.rfl
theorem dTru_c : dTru fe ρ Qb R = fe ρ (truK Qb) R := propext Iff.rfl
theorem truK_n : truK Qb (.d .none) = Qb false := propext Iff.rfl
theorem truK_b : truK Qb (.d (.bool b)) = Qb b := propext Iff.rfl
theorem truK_i : truK Qb (.d (.int n)) = Qb (n != 0) := propext Iff.rfl
theorem truK_t : truK Qb (.d (.tuple xs)) = Qb (!xs.isEmpty) := propext Iff.rfl
theorem truK_l : truK Qb (.d (.list xs)) = Qb (!xs.isEmpty) := propext Iff.rfl
theorem truK_m : truK Qb (.ml xs) = Qb (!xs.isEmpty) := propext Iff.rfl
theorem truK_bl : truK Qb (.bl xs) = Qb (!xs.isEmpty) := propext Iff.rfl
theorem dNot_c : dNot c ρ Qb R = c ρ (fun b => Qb (!b)) R := propext Iff.rfl
theorem dAnd_c : dAnd c e ρ Qb R = c ρ (andK e ρ Qb R) R := propext Iff.rfl
theorem andK_t : andK e ρ Qb R true = e ρ Qb R := propext Iff.rfl
theorem andK_f : andK e ρ Qb R false = Qb false := propext Iff.rfl
theorem dOr_c : dOr c e ρ Qb R = c ρ (orK e ρ Qb R) R := propext Iff.rfl
theorem orK_t : orK e ρ Qb R true = Qb true := propext Iff.rfl
theorem orK_f : orK e ρ Qb R false = e ρ Qb R := propext Iff.rfl
theorem dAndV_c : dAndV fa fb ρ Qd R = fa ρ (tstK (andV fb ρ Qd R)) R := propext Iff.rfl
theorem andV_t : andV fb ρ Qd R true = fb ρ Qd R := propext Iff.rfl
theorem andV_f : andV fb ρ Qd R false = Qd (.d (.bool false)) := propext Iff.rfl
theorem dOrV_c : dOrV fa fb ρ Qd R = fa ρ (tstK (orV fb ρ Qd R)) R := propext Iff.rfl
theorem orV_t : orV fb ρ Qd R true = Qd (.d (.bool true)) := propext Iff.rfl
theorem orV_f : orV fb ρ Qd R false = fb ρ Qd R := propext Iff.rfl
theorem dNotV_c : dNotV fa ρ Qd R = fa ρ (tstK fun b => Qd (.d (.bool !b))) R := propext Iff.rfl
theorem dIf_c : dIf c fa fb ρ Qd R = c ρ (iteE fa fb ρ Qd R) R := propext Iff.rfl
theorem iteE_t : iteE fa fb ρ Qd R true = fa ρ Qd R := propext Iff.rfl
theorem iteE_f : iteE fa fb ρ Qd R false = fb ρ Qd R := propext Iff.rfl
theorem dChain_c : dChain f f' fa fb fc ρ Qd R = fa ρ (fun s => fb ρ (fun u => f s u (chK f' fc ρ Qd R u)) R) R := propext Iff.rfl
theorem chK_t : chK f' fc ρ Qd R u (.d (.bool true)) = fc ρ (fun y => f' u y Qd) R := propext Iff.rfl
theorem chK_f : chK f' fc ρ Qd R u (.d (.bool false)) = Qd (.d (.bool false)) := propext Iff.rfl
theorem dNil_c : dNil ρ Qs R = Qs [] := propext Iff.rfl
theorem dCons_c {fr : TDA} : dCons fa fr ρ Qs R = fa ρ (fun s => fr ρ (fun ss => Qs (s :: ss)) R) R := propext Iff.rfl
theorem dCB_c {r : List Sl → (Sl → Prop) → Prop} : dCB r fA ρ Qd R = fA ρ (fun ss => r ss Qd) R := propext Iff.rfl
theorem dCall_c {ms : List Bool} {sp : SpD} : dCall ms sp fA ρ Qd R = fA ρ (fun ss => sp (cvs ms ss) Qd R) R := propext Iff.rfl
theorem dCall0_c {ms : List Bool} {sp : SpD} : dCall0 ms sp fA ρ Qd R = fA ρ (fun ss => sp (cvs ms ss) Qd fun _ => False) R := propext Iff.rfl
def tupK (Qd : Sl → Prop) (ss : List Sl) : Prop := ss.length ≤ sizeLine ∧ match dats ss with
  | some ds => Qd (.d (.tuple ds))
  | none => False
def lstK (Qd : Sl → Prop) (ss : List Sl) : Prop := ss.length ≤ sizeLine ∧ match dats ss with
  | some ds => Qd (.ml ds)
  | none => False
theorem dTup_c : dTup fA ρ Qd R = fA ρ (tupK Qd) R := propext Iff.rfl
theorem dLst_c : dLst fA ρ Qd R = fA ρ (lstK Qd) R := propext Iff.rfl
theorem dFor_c : dFor fi fg g dd R ρ = fi ρ (fun ds => forD fg g dd R ds ρ) R := propext Iff.rfl
theorem dLc_c {vs : List Nat} : dLc fi fg c fe vs ρ Qd R = fi ρ (fun ds => lcD fg c fe (wipeD ρ vs) R (fun ys => Qd (.ml ys)) ds []) R := propext Iff.rfl
theorem iTp_c : iTp fe ρ Ql R = fe ρ (tpK Ql) R := propext Iff.rfl
theorem tpK_c : tpK Ql (.d (.tuple xs)) = Ql xs := propext Iff.rfl
theorem iLst_c : iLst fe ρ Ql R = fe ρ (lsK Ql) R := propext Iff.rfl
theorem lsK_d : lsK Ql (.d (.list xs)) = Ql xs := propext Iff.rfl
theorem lsK_m : lsK Ql (.ml xs) = Ql xs := propext Iff.rfl
theorem iSeq_c : iSeq fe ρ Ql R = fe ρ (sqK Ql) R := propext Iff.rfl
theorem sqK_d : sqK Ql (.d (.list xs)) = Ql xs := propext Iff.rfl
theorem sqK_m : sqK Ql (.ml xs) = Ql xs := propext Iff.rfl
theorem sqK_b : sqK Ql (.bl xs) = Ql xs := propext Iff.rfl
theorem dSl_c {r : Sl → Option Int → Option Int → (Sl → Prop) → Prop} {fl fh : TDO} : dSl r fe fl fh ρ Qd R = fe ρ (fun s => fl ρ (fun l => fh ρ (fun h => r s l h Qd) R) R) R := propext Iff.rfl
theorem dNo_c {Qo : Option Int → Prop} : dNo ρ Qo R = Qo none := propext Iff.rfl
def ptK (Qo : Option Int → Prop) : Sl → Prop := fun s => match s with
  | .d (.int i) => Qo (some i)
  | _ => False
theorem dPt_c {Qo : Option Int → Prop} : dPt fe ρ Qo R = fe ρ (ptK Qo) R := propext Iff.rfl
theorem ptK_c {Qo : Option Int → Prop} : ptK Qo (.d (.int n)) = Qo (some n) := propext Iff.rfl
theorem dYes_c : dYes ρ Qb R = Qb true := propext Iff.rfl
theorem dBack_c : dBack fe ρ Qd R = fe ρ (fun s => match s with
  | .d (.tuple xs) => Qd (.d (.tuple xs.reverse))
  | _ => False) R := propext Iff.rfl
theorem dDict0_c : dDict0 ρ Qd R = Qd (.d (.dict [])) := propext Iff.rfl
theorem dDict1_c {k n : Int} : dDict1 k n ρ Qd R = Qd (.d (.dict [(.int k, .int n)])) := propext Iff.rfl
theorem gdName_c {Qρ : List Sl → Prop} : gdName i x ρ Qρ = Qρ (ρ.set i (.d x)) := propext Iff.rfl
theorem gdTup_c {m : Nat} {fs : FGs} {Qρ : List Sl → Prop} : gdTup m fs (.tuple xs) ρ Qρ = (xs.length = m ∧ fs xs ρ Qρ) := propext Iff.rfl
theorem gdCons_c {fs : FGs} {Qρ : List Sl → Prop} : gdCons fg fs (x :: xs) ρ Qρ = fg x ρ (fun ρ' => fs xs ρ' Qρ) := propext Iff.rfl
theorem gdNil_c {Qρ : List Sl → Prop} : gdNil [] ρ Qρ = Qρ ρ := propext Iff.rfl
def apK (xs : List PyData) (i : Nat) (ρ : List Sl) (nx : List Sl → Prop) : Sl → Prop := fun s => xs.length < sizeLine ∧ match s.dat with
    | some y => nx (ρ.set i (.ml (xs ++ [y])))
    | none => False
def appK (i : Nat) (fe : TD) (ρ : List Sl) (nx : List Sl → Prop) (R : Er → Prop) : Sl → Prop := fun s => match s with
  | .ml xs => fe ρ (apK xs i ρ nx) R
  | _ => False
theorem dApp_c : dApp i fe dd R ρ = appK i fe ρ dd.nx R ((ρ[i]?).getD .un) := propext Iff.rfl
theorem appK_c : appK i fe ρ nx R (.ml xs) = fe ρ (apK xs i ρ nx) R := propext Iff.rfl
theorem apK_d : apK xs i ρ nx (.d x) = (xs.length < sizeLine ∧ nx (ρ.set i (.ml (xs ++ [x])))) := propext Iff.rfl
theorem apK_m : apK xs i ρ nx (.ml ys) = (xs.length < sizeLine ∧ nx (ρ.set i (.ml (xs ++ [.list ys])))) := propext Iff.rfl
def varK (Qd : Sl → Prop) : Sl → Prop := fun s => match s with
  | .un => False
  | .d x => Qd (.d x)
  | .ml xs => Qd (.bl xs)
  | .bl xs => Qd (.bl xs)
  | .st => Qd .st
  | .scr ns => Qd (.scr ns)
  | .raw v => Qd (.raw v)
  | .mo o => Qd (.bo o)
  | .bo o => Qd (.bo o)
theorem dVar_c : dVar i ρ Qd R = varK Qd ((ρ[i]?).getD .un) := propext Iff.rfl
theorem varK_d : varK Qd (.d x) = Qd (.d x) := propext Iff.rfl
theorem varK_m : varK Qd (.ml xs) = Qd (.bl xs) := propext Iff.rfl
theorem varK_b : varK Qd (.bl xs) = Qd (.bl xs) := propext Iff.rfl
theorem varK_s : varK Qd .st = Qd .st := propext Iff.rfl
theorem varK_sc {ns : List Int} : varK Qd (.scr ns) = Qd (.scr ns) := propext Iff.rfl
theorem varK_r : varK Qd (.raw v) = Qd (.raw v) := propext Iff.rfl
theorem varK_mo {o : OD} : varK Qd (.mo o) = Qd (.bo o) := propext Iff.rfl
theorem varK_bo {o : OD} : varK Qd (.bo o) = Qd (.bo o) := propext Iff.rfl
theorem setK_mo {o : OD} : setK i ρ nx (.mo o) = nx (ρ.set i (.mo o)) := propext Iff.rfl
theorem retK_mo {o : OD} : retK rt (.mo o) = rt (.mo o) := propext Iff.rfl
theorem dNew_c : dNew i fA dd R ρ = fA ρ (fun ss => (∃ ns, ∃ k : Nat, ss = [.scr ns, .d (.int (k : Int))]) ∧ dd.nx (ρ.set i .st)) R := propext Iff.rfl
def toldK (Qd : Sl → Prop) : Sl → Prop := fun s => match s.dat with
  | some x => Qd (.d (.tuple [.str "told", x]))
  | none => False
def wordK (C : Nat → Addr) (ms : List Nat) (wd : Nat → Str) (Qd : Sl → Prop) : Er → Prop := fun er => ∃ m, m ∈ ms ∧ er = (C m, []) ∧ Qd (.d (.tuple [.str (wd m)]))
theorem dSaid_c {C : Nat → Addr} {ms : List Nat} {wd : Nat → Str} : dSaid C ms wd fe ρ Qd R = fe ρ (toldK Qd) (wordK C ms wd Qd) := propext Iff.rfl
theorem toldK_d : toldK Qd (.d x) = Qd (.d (.tuple [.str "told", x])) := propext Iff.rfl
theorem toldK_m : toldK Qd (.ml xs) = Qd (.d (.tuple [.str "told", .list xs])) := propext Iff.rfl
def rgK (Ql : List PyData → Prop) : List Sl → Prop := fun ss => match ss with
  | [.d (.int j)] => -(2 ^ 62) ≤ j ∧ j < 2 ^ 62 ∧ Ql (rangeD 0 j.toNat)
  | _ => False
def rgK2 (Ql : List PyData → Prop) : List Sl → Prop := fun ss => match ss with
  | [.d (.int i), .d (.int j)] => (-(2 ^ 62) ≤ i ∧ i < 2 ^ 62 ∧ -(2 ^ 62) ≤ j ∧ j < 2 ^ 62) ∧ Ql (rangeD i (j - i).toNat)
  | _ => False
theorem iRg1_c : iRg1 fA ρ Ql R = fA ρ (rgK Ql) R := propext Iff.rfl
theorem rgK_c : rgK Ql [.d (.int n)] = (-(2 ^ 62) ≤ n ∧ n < 2 ^ 62 ∧ Ql (rangeD 0 n.toNat)) := propext Iff.rfl
theorem iRg2_c : iRg2 fA ρ Ql R = fA ρ (rgK2 Ql) R := propext Iff.rfl
theorem rgK2_c {m : Int} : rgK2 Ql [.d (.int m), .d (.int n)] = ((-(2 ^ 62) ≤ m ∧ m < 2 ^ 62 ∧ -(2 ^ 62) ≤ n ∧ n < 2 ^ 62) ∧ Ql (rangeD m (n - m).toNat)) := propext Iff.rfl
def enK (Ql : List PyData → Prop) : List Sl → Prop := fun ss => match ss with
  | [.d (.tuple xs)] => Ql (enumD xs)
  | _ => False
theorem iEnT_c : iEnT fA ρ Ql R = fA ρ (enK Ql) R := propext Iff.rfl
theorem enK_c : enK Ql [.d (.tuple xs)] = Ql (enumD xs) := propext Iff.rfl
def zpK (Ql : List PyData → Prop) : List Sl → Prop := fun ss => match ss with
  | [s, u] => (match s.dat, u.dat with
    | some (.list xs), some (.list ys) => Ql (zipD xs ys)
    | some (.tuple xs), some (.tuple ys) => Ql (zipD xs ys)
    | _, _ => False)
  | _ => False
theorem iZp_c : iZp fA ρ Ql R = fA ρ (zpK Ql) R := propext Iff.rfl
theorem zpK_tt : zpK Ql [.d (.tuple xs), .d (.tuple ys)] = Ql (zipD xs ys) := propext Iff.rfl
theorem zpK_mm : zpK Ql [.ml xs, .ml ys] = Ql (zipD xs ys) := propext Iff.rfl
theorem zpK_ll : zpK Ql [.d (.list xs), .d (.list ys)] = Ql (zipD xs ys) := propext Iff.rfl
theorem zpK_lm : zpK Ql [.d (.list xs), .ml ys] = Ql (zipD xs ys) := propext Iff.rfl
theorem zpK_ml : zpK Ql [.ml xs, .d (.list ys)] = Ql (zipD xs ys) := propext Iff.rfl
def parK (i j : Nat) (ρ : List Sl) (nx : List Sl → Prop) : List Sl → Prop := fun ss => match ss with
  | [s, .ml ys] => (match s.flat with
    | some x => nx ((ρ.set i (vS x)).set j (.ml ys))
    | none => False)
  | [s, .d y] => (match s.dat with
    | some x => nx ((ρ.set i (.d x)).set j (.d y))
    | none => False)
  | _ => False
theorem dPar_c : dPar i j fA dd R ρ = fA ρ (parK i j ρ dd.nx) R := propext Iff.rfl
theorem parK_im : parK i j ρ nx [.d (.int n), .ml ys] = nx ((ρ.set i (.d (.int n))).set j (.ml ys)) := propext Iff.rfl
theorem parK_nm : parK i j ρ nx [.d .none, .ml ys] = nx ((ρ.set i (.d .none)).set j (.ml ys)) := propext Iff.rfl
theorem parK_sm : parK i j ρ nx [.d (.str y), .ml ys] = nx ((ρ.set i (.d (.str y))).set j (.ml ys)) := propext Iff.rfl
theorem parK_dd {x' : PyData} : parK i j ρ nx [.d x, .d x'] = nx ((ρ.set i (.d x)).set j (.d x')) := propext Iff.rfl
theorem parK_md : parK i j ρ nx [.ml xs, .d x] = nx ((ρ.set i (.d (.list xs))).set j (.d x)) := propext Iff.rfl
/-- all of them data, by one -/
theorem dats_nil : dats [] = some [] := rfl
theorem dats_d {ss : List Sl} {ds : List PyData} (h : dats ss = some ds) : dats (.d x :: ss) = some (x :: ds) := by
  unfold dats
  rw [h]
  rfl
theorem dats_m {ss : List Sl} {ds : List PyData} (h : dats ss = some ds) : dats (.ml xs :: ss) = some (.list xs :: ds) := by
  unfold dats
  rw [h]
  rfl
end
end Dl

namespace Dl
open PySem PySem.Spec PyProof.Rows L2
section
variable {K : PySem.W.Frag} {τ : List (Addr × Str)} {E : XK}
/-! ### tuple(range(..)), list(range(..)) -/
abbrev TRg := L2.St → Hp → (Int → Int → Hp → Prop) → Prop
abbrev TDR := List Sl → (Int → Int → Prop) → (Er → Prop) → Prop
class RefRg (K : PySem.W.Frag) (τ : List (Addr × Str)) (E : XK) (t : TRg) (f : outParam TDR) : Prop where
  go : ∀ (W : Wld τ) (A : Addr → Prop) (H : Hp) (σ : L2.St) (ρ : List Sl) (Qd : Int → Int → Prop) (R : Er → Prop) (Q : Int → Int → Hp → Prop), At K W A E H σ ρ R → f ρ Qd R → (∀ a b H', Fr W.B H H' → W.I H' → Qd a b → Q a b H') → t σ H Q
def rg1K (Qd : Int → Int → Prop) : Sl → Prop := fun s => match s with
  | .d (.int n) => Qd 0 n
  | _ => False
def rg2K (Qd : Int → Int → Prop) : Sl → Sl → Prop := fun s u => match s, u with
  | .d (.int m), .d (.int n) => Qd m n
  | _, _ => False
def dRg1 (f : TD) : TDR := fun ρ Qd R => f ρ (rg1K Qd) R
def dRg2 (f g : TD) : TDR := fun ρ Qd R => f ρ (fun s => g ρ (rg2K Qd s) R) R
instance {t : TE} {f : TD} [ht : RefE K τ E t f] : RefRg K τ E (tRg1 t) (dRg1 f) := ⟨fun W A H σ ρ Qd R Q a h w => by
  refine ht.go W A H σ ρ _ R _ a h fun v H1 s f1 i1 r1 q => ?_
  unfold rg1K at q
  split at q
  · rename_i n
    exact ⟨n, r1.flat (u := .int n) rfl, w _ _ H1 f1 i1 q⟩
  · exact q.elim⟩
instance {t u : TE} {f g : TD} [ht : RefE K τ E t f] [hu : RefE K τ E u g] : RefRg K τ E (tRg2 t u) (dRg2 f g) := ⟨fun W A H σ ρ Qd R Q a h w => by
  refine ht.go W A H σ ρ _ R _ a h fun v H1 s f1 i1 r1 q1 => ?_
  refine hu.go W A H1 σ ρ _ R _ (a.fr f1 i1) q1 fun v2 H2 s2 f2 i2 r2 q => ?_
  unfold rg2K at q
  split at q
  · rename_i m n
    exact ⟨m, n, r1.flat (u := .int m) rfl, r2.flat (u := .int n) rfl, w _ _ H2 (f1.trans f2) i2 q⟩
  · exact q.elim⟩
theorem rps_rg {A : Addr → Prop} {H : Hp} (a b : Int) : RpAll K A H (rgV a b) (rangeD a (b - a).toNat) := by
  unfold rgV rangeD
  generalize (List.range (b - a).toNat) = l
  induction l with
  | nil => exact .nil
  | cons x r ih => exact .cons (.int _) ih
def tupRg (Qd : Sl → Prop) : Int → Int → Prop := fun a b => RgOk a b ∧ Qd (.d (.tuple (rangeD a (b - a).toNat)))
def lstRg (Qd : Sl → Prop) : Int → Int → Prop := fun a b => RgOk a b ∧ Qd (.ml (rangeD a (b - a).toNat))
def dTupRg (f : TDR) : TD := fun ρ Qd R => f ρ (tupRg Qd) R
def dLstRg (f : TDR) : TD := fun ρ Qd R => f ρ (lstRg Qd) R
instance {t : TRg} {f : TDR} [ht : RefRg K τ E t f] : RefE K τ E (tTupRg t) (dTupRg f) := ⟨fun W A H σ ρ Qd R Q a h w => by
  refine ht.go W A H σ ρ _ R _ a h fun x y H1 f1 i1 q => ?_
  exact ⟨q.1, Want.tup (a.bs.fr f1 i1) (w.back f1) (rps_rg x y) q.2⟩⟩
instance {t : TRg} {f : TDR} [ht : RefRg K τ E t f] : RefE K τ E (tLstRg t) (dLstRg f) := ⟨fun W A H σ ρ Qd R Q a h w => by
  refine ht.go W A H σ ρ _ R _ a h fun x y H1 f1 i1 q => ?_
  exact ⟨q.1, Want.lst (a.bs.fr f1 i1) (w.back f1) (rps_rg x y) q.2⟩⟩
variable {ρ : List Sl} {R : Er → Prop} {Qd : Sl → Prop} {fr : TDR} {f g : TD} {Qr : Int → Int → Prop} {m n : Int}
theorem dTupRg_c : dTupRg fr ρ Qd R = fr ρ (tupRg Qd) R := propext Iff.rfl
theorem dLstRg_c : dLstRg fr ρ Qd R = fr ρ (lstRg Qd) R := propext Iff.rfl
theorem dRg1_c : dRg1 f ρ Qr R = f ρ (rg1K Qr) R := propext Iff.rfl
theorem dRg2_c : dRg2 f g ρ Qr R = f ρ (fun s => g ρ (rg2K Qr s) R) R := propext Iff.rfl
theorem rg1K_c : rg1K Qr (.d (.int n)) = Qr 0 n := propext Iff.rfl
theorem rg2K_c : rg2K Qr (.d (.int m)) (.d (.int n)) = Qr m n := propext Iff.rfl
theorem tupRg_c : tupRg Qd m n = (RgOk m n ∧ Qd (.d (.tuple (rangeD m (n - m).toNat)))) := propext Iff.rfl
theorem lstRg_c : lstRg Qd m n = (RgOk m n ∧ Qd (.ml (rangeD m (n - m).toNat))) := propext Iff.rfl
/-! ### a number among numbers; xs[::-1] -/
theorem dflats_ints : ∀ ns : List Int, dflats (ns.map PyData.int) = some (ns.map V.int)
  | [] => rfl
  | n :: r => by
    show (match dflat (.int n), dflats (r.map PyData.int) with
      | some v, some vs => some (v :: vs)
      | _, _ => none) = _
    rw [dflats_ints r]
    rfl
theorem inV_ints (x : Int) : ∀ ns : List Int, inV (.int x) (ns.map V.int) = ns.contains x
  | [] => rfl
  | n :: r => by
    show (eqV (.int n) (.int x) || inV (.int x) (r.map V.int)) = _
    rw [inV_ints x r, List.contains_cons]
    congr 1
    show decide (n = x) = _
    by_cases h : n = x
    · subst h
      simp
    · rw [decide_eq_false h]
      exact (beq_false_of_ne (fun z => h z.symm)).symm
theorem fIn_nums {x : Int} {ns : List Int} {neg : Bool} (h : Qd (.d (.bool (if neg then !(ns.contains x) else ns.contains x)))) : fIn neg (.d (.int x)) (.d (.tuple (ns.map PyData.int))) Qd := by
  unfold fIn
  show (match some (V.int x), dflats (ns.map PyData.int) with
    | some x, some ys => Qd (.d (.bool (if neg then !inV x ys else inV x ys)))
    | _, _ => False)
  rw [dflats_ints]
  show Qd (.d (.bool (if neg then !inV (.int x) (ns.map V.int) else inV (.int x) (ns.map V.int))))
  rw [inV_ints]
  exact h
def backK (Qd : Sl → Prop) : Sl → Prop := fun s => match s with
  | .d (.tuple xs) => Qd (.d (.tuple xs.reverse))
  | _ => False
theorem dBack_k : dBack f ρ Qd R = f ρ (backK Qd) R := propext Iff.rfl
theorem backK_c {xs : List PyData} : backK Qd (.d (.tuple xs)) = Qd (.d (.tuple xs.reverse)) := propext Iff.rfl
theorem rangeD_nums (lo : Int) (n : Nat) : rangeD lo n = ((List.range n).map fun (k : Nat) => lo + (k : Int)).map PyData.int := by
  unfold rangeD
  rw [List.map_map]
  rfl
theorem lay_nums (ns : List Int) : Lay (.tuple (ns.map PyData.int)) 1 := lay_tup (n := 0) fun x hx => by
  obtain ⟨q, _, rfl⟩ := List.mem_map.mp hx
  exact lay_int q _
/-- all([p(x) for x in ..]) -/
theorem lcD_allB {fg : FG} {ft : TDT} {fe : TD} (p : PyData → Bool) (ds : List PyData) (step : ∀ d ∈ ds, ∀ acc N, acc.length < sizeLine → N (acc ++ [.bool (p d)]) → lcStep fg ft fe ρ R d acc N) (hl : ds.length ≤ 100000) (q : Qd (.d (.bool (ds.all p)))) : lcD fg ft fe ρ R (fun ys => fBools gAll [.ml ys] Qd) ds [] := by
  refine lcD_map (fun d => .bool (p d)) ds [] step (by rw [List.length_nil]; omega) ?_
  have eb : (Sl.ml (ds.map fun d => PyData.bool (p d))).seq.bind (oAll dbool) = some (ds.map p) := by
    show oAll dbool (ds.map fun d => .bool (p d)) = _
    rw [show (ds.map fun d => PyData.bool (p d)) = (ds.map p).map PyData.bool by rw [List.map_map]; rfl]
    exact bools_of _
  show fBools gAll [.ml (ds.map fun d => .bool (p d))] _
  unfold fBools
  dsimp only
  rw [eb]
  show Qd (.d (.bool ((ds.map p).all id)))
  rw [List.all_map]
  exact q
theorem lcD_anyB {fg : FG} {ft : TDT} {fe : TD} (p : PyData → Bool) (ds : List PyData) (step : ∀ d ∈ ds, ∀ acc N, acc.length < sizeLine → N (acc ++ [.bool (p d)]) → lcStep fg ft fe ρ R d acc N) (hl : ds.length ≤ 100000) (q : Qd (.d (.bool (ds.any p)))) : lcD fg ft fe ρ R (fun ys => fBools gAny [.ml ys] Qd) ds [] := by
  refine lcD_map (fun d => .bool (p d)) ds [] step (by rw [List.length_nil]; omega) ?_
  have eb : (Sl.ml (ds.map fun d => PyData.bool (p d))).seq.bind (oAll dbool) = some (ds.map p) := by
    show oAll dbool (ds.map fun d => .bool (p d)) = _
    rw [show (ds.map fun d => PyData.bool (p d)) = (ds.map p).map PyData.bool by rw [List.map_map]; rfl]
    exact bools_of _
  show fBools gAny [.ml (ds.map fun d => .bool (p d))] _
  unfold fBools
  dsimp only
  rw [eb]
  show Qd (.d (.bool ((ds.map p).any id)))
  rw [List.any_map]
  exact q
theorem fIx_last {xs init : List PyData} {d : PyData} (e : xs = init ++ [d]) (h : Qd (.d d)) : fIx (.ml xs) (.d (.int (-1))) Qd := by
  show (match L2.atI xs (-1) with | some d => Qd (.d d) | none => False)
  rw [e, L2.atI_last]
  exact h
theorem fIxB_last {xs init : List PyData} {d : PyData} (e : xs = init ++ [d]) (h : Qd (.d d)) : fIx (.bl xs) (.d (.int (-1))) Qd := by
  show (match L2.atI xs (-1) with | some d => Qd (.d d) | none => False)
  rw [e, L2.atI_last]
  exact h
theorem fIxT_last {xs init : List PyData} {d : PyData} (e : xs = init ++ [d]) (h : Qd (.d d)) : fIx (.d (.tuple xs)) (.d (.int (-1))) Qd := by
  show (match L2.atI xs (-1) with | some d => Qd (.d d) | none => False)
  rw [e, L2.atI_last]
  exact h
end
end Dl

namespace Dl
open PySem PySem.Spec PyProof.Rows L2
/-! ### dicts of one's own -/
def keyOf : Sl → Option Key
  | .d (.int i) => some (.inl i)
  | .d (.str x) => some (.inr x)
  | _ => none
def valD (kvs : List (Key × PyData)) (k : Key) : Option PyData := (kvs.find? fun kv => decide (kv.1 = k)).map (·.2)
def putD (kvs : List (Key × PyData)) (k : Key) (v : PyData) : List (Key × PyData) :=
  if (kvs.any fun kv => decide (kv.1 = k)) = true then kvs.map (fun kv => if kv.1 = k then (kv.1, v) else kv) else kvs ++ [(k, v)]
section
variable {K : PySem.W.Frag} {τ : List (Addr × Str)} {E : XK}
theorem key_flat {W : Wld τ} {A : Addr → Prop} {H0 H : Hp} {v : V} {s : Sl} {k : Key} (h : VlR K W A H0 H v s) (e : keyOf s = some k) : v = kV k := by
  cases s with
  | d x => cases x <;> first | (cases e; exact h.flat rfl) | cases e
  | _ => cases e
theorem od_val {A : Addr → Prop} {H : Hp} (k : Key) : ∀ {ks : List (Key × V)} {kvs : List (Key × PyData)}, ks.map (·.1) = kvs.map (·.1) → RpAll K A H (ks.map (·.2)) (kvs.map (·.2)) → (valD kvs k = none → valV ks k = none) ∧ ∀ d, valD kvs k = some d → ∃ v, valV ks k = some v ∧ Rp K A H v d
  | [], [], _, _ => ⟨fun _ => rfl, fun d e => by cases e⟩
  | [], _ :: _, e, _ => by cases e
  | _ :: _, [], e, _ => by cases e
  | (k1, v) :: ks, (k2, d) :: kvs, e, r => by
    obtain ⟨e1, e2⟩ := List.cons.inj e
    cases r with
    | cons r1 r2 =>
      have e1 : k1 = k2 := e1
      subst e1
      by_cases h : k1 = k
      · have z1 : valD ((k1, d) :: kvs) k = some d := by unfold valD; rw [List.find?_cons_of_pos (by simpa using h)]; rfl
        rw [z1, valV_pos h]
        exact ⟨(fun q => nomatch q), fun d' q => ⟨v, rfl, by cases q; exact r1⟩⟩
      · have z1 : valD ((k1, d) :: kvs) k = valD kvs k := by unfold valD; rw [List.find?_cons_of_neg (by simpa using h)]
        rw [z1, valV_neg h]
        exact od_val k e2 r2
theorem od_any (k : Key) : ∀ {ks : List (Key × V)} {kvs : List (Key × PyData)}, ks.map (·.1) = kvs.map (·.1) → (ks.any fun kv => decide (kv.1 = k)) = kvs.any fun kv => decide (kv.1 = k)
  | [], [], _ => rfl
  | [], _ :: _, e => by cases e
  | _ :: _, [], e => by cases e
  | p :: ks, q :: kvs, e => by
    obtain ⟨e1, e2⟩ := List.cons.inj e
    rw [List.any_cons, List.any_cons, od_any k e2, show p.1 = q.1 from e1]
theorem od_map {A : Addr → Prop} {H : Hp} (k : Key) {v : V} {d : PyData} (h : Rp K A H v d) : ∀ {ks : List (Key × V)} {kvs : List (Key × PyData)}, ks.map (·.1) = kvs.map (·.1) → RpAll K A H (ks.map (·.2)) (kvs.map (·.2)) →
    (ks.map (fun kv => if kv.1 = k then (kv.1, v) else kv)).map (·.1) = (kvs.map (fun kv => if kv.1 = k then (kv.1, d) else kv)).map (·.1) ∧ RpAll K A H ((ks.map (fun kv => if kv.1 = k then (kv.1, v) else kv)).map (·.2)) ((kvs.map (fun kv => if kv.1 = k then (kv.1, d) else kv)).map (·.2))
  | [], [], _, _ => ⟨rfl, .nil⟩
  | [], _ :: _, e, _ => by cases e
  | _ :: _, [], e, _ => by cases e
  | (k1, v1) :: ks, (k2, d2) :: kvs, e, r => by
    obtain ⟨e1, e2⟩ := List.cons.inj e
    have e1 : k1 = k2 := e1
    subst e1
    cases r with
    | cons r1 r2 =>
      obtain ⟨a, b⟩ := od_map k h e2 r2
      by_cases hk : k1 = k
      · refine ⟨?_, ?_⟩
        · rw [List.map_cons, List.map_cons, List.map_cons, List.map_cons, a, if_pos hk, if_pos hk]
        · rw [List.map_cons, List.map_cons, List.map_cons, List.map_cons, if_pos hk, if_pos hk]
          exact .cons h b
      · refine ⟨?_, ?_⟩
        · rw [List.map_cons, List.map_cons, List.map_cons, List.map_cons, a, if_neg hk, if_neg hk]
        · rw [List.map_cons, List.map_cons, List.map_cons, List.map_cons, if_neg hk, if_neg hk]
          exact .cons r1 b
theorem od_put {A : Addr → Prop} {H : Hp} (k : Key) {v : V} {d : PyData} (h : Rp K A H v d) {ks : List (Key × V)} {kvs : List (Key × PyData)} (e : ks.map (·.1) = kvs.map (·.1)) (r : RpAll K A H (ks.map (·.2)) (kvs.map (·.2))) :
    (putK ks k v).map (·.1) = (putD kvs k d).map (·.1) ∧ RpAll K A H ((putK ks k v).map (·.2)) ((putD kvs k d).map (·.2)) := by
  unfold putK putD
  rw [od_any k e]
  by_cases hk : (kvs.any fun kv => decide (kv.1 = k)) = true
  · rw [if_pos hk, if_pos hk]
    exact od_map k h e r
  · rw [if_neg hk, if_neg hk]
    refine ⟨?_, ?_⟩
    · rw [List.map_append, List.map_append, e]
      rfl
    · rw [List.map_append, List.map_append]
      exact r.append (.one h)
theorem od_len {ks : List (Key × V)} {kvs : List (Key × PyData)} (e : ks.map (·.1) = kvs.map (·.1)) : ks.length = kvs.length := by
  have := congrArg List.length e
  rwa [List.length_map, List.length_map] at this
theorem bo_dk {W : Wld τ} {A : Addr → Prop} {H0 H : Hp} {v : V} {kvs : List (Key × PyData)} (h : VlR K W A H0 H v (.bo (.dk kvs))) : ∃ p ks, v = .ref p ∧ H p = some (.dK ks) ∧ ks.map (·.1) = kvs.map (·.1) ∧ RpAll K A H (ks.map (·.2)) (kvs.map (·.2)) := by
  obtain ⟨p, ho, rfl, e, n, r⟩ := h
  cases ho <;> first | exact ⟨p, _, rfl, e, r.1, r.2⟩ | exact r.elim
/-- k in d, k not in d -/
def dinK (neg : Bool) (Qd : Sl → Prop) : Sl → Sl → Prop := fun s u => match keyOf s, u with
  | some k, .bo (.dk kvs) => Qd (.d (.bool (if neg then !(valD kvs k).isSome else (valD kvs k).isSome)))
  | _, _ => False
def dDIn (neg : Bool) (fy fd : TD) : TD := fun ρ Qd R => fy ρ (fun s => fd ρ (dinK neg Qd s) R) R
theorem din_go {W : Wld τ} {A : Addr → Prop} {H0 H : Hp} {x y : V} {s u : Sl} {neg : Bool} {Qd : Sl → Prop} (b : Bs W A H0) (ry : VlR K W A H0 H y s) (rx : VlR K W A H0 H x u) (q : dinK neg Qd s u) : ∃ a o, x = .ref a ∧ DGet H a y o ∧ Qd (.d (.bool (if neg then !o.isSome else o.isSome))) := by
  unfold dinK at q
  split at q
  · rename_i k kvs ek
    obtain ⟨p, ks, rfl, e, e1, r⟩ := bo_dk rx
    obtain rfl := key_flat ry ek
    obtain ⟨z1, z2⟩ := od_val k e1 r
    refine ⟨p, valV ks k, rfl, .k e, ?_⟩
    cases h : valD kvs k with
    | none =>
      rw [z1 h]
      rw [h] at q
      exact q
    | some d =>
      obtain ⟨v, ev, _⟩ := z2 d h
      rw [ev]
      rw [h] at q
      exact q
  · exact q.elim
instance {ty td : TE} {fy fd : TD} [hy : RefE K τ E ty fy] [hd : RefE K τ E td fd] : RefE K τ E (tDIn ty td) (dDIn false fy fd) := ⟨fun W A H σ ρ Qd R Q a h w => by
  refine hy.go W A H σ ρ _ R _ a h fun y H1 s f1 i1 r1 q1 => ?_
  refine hd.go W A H1 σ ρ _ R _ (a.fr f1 i1) q1 fun x H2 u f2 i2 r2 q2 => ?_
  obtain ⟨p, o, e1, g, q⟩ := din_go a.bs (r1.fr a.bs f2) (r2.early f1) q2
  exact ⟨p, o, e1, g, (w.back (f1.trans f2)).here i2 _ q⟩⟩
instance {ty td : TE} {fy fd : TD} [hy : RefE K τ E ty fy] [hd : RefE K τ E td fd] : RefE K τ E (tDNotIn ty td) (dDIn true fy fd) := ⟨fun W A H σ ρ Qd R Q a h w => by
  refine hy.go W A H σ ρ _ R _ a h fun y H1 s f1 i1 r1 q1 => ?_
  refine hd.go W A H1 σ ρ _ R _ (a.fr f1 i1) q1 fun x H2 u f2 i2 r2 q2 => ?_
  obtain ⟨p, o, e1, g, q⟩ := din_go a.bs (r1.fr a.bs f2) (r2.early f1) q2
  exact ⟨p, o, e1, g, (w.back (f1.trans f2)).here i2 _ q⟩⟩
/-- d[k] -/
def dgetK (Qd : Sl → Prop) : Sl → Sl → Prop := fun u s => match keyOf s, u with
  | some k, .bo (.dk kvs) => (match valD kvs k with
    | some x => Qd (.d x)
    | none => False)
  | _, _ => False
def dDGet (fd fy : TD) : TD := fun ρ Qd R => fd ρ (fun u => fy ρ (dgetK Qd u) R) R
instance {ty td : TE} {fy fd : TD} [hy : RefE K τ E ty fy] [hd : RefE K τ E td fd] : RefE K τ E (tDGet td ty) (dDGet fd fy) := ⟨fun W A H σ ρ Qd R Q a h w => by
  refine hd.go W A H σ ρ _ R _ a h fun x H1 u f1 i1 r1 q1 => ?_
  refine hy.go W A H1 σ ρ _ R _ (a.fr f1 i1) q1 fun y H2 s f2 i2 r2 q2 => ?_
  unfold dgetK at q2
  split at q2
  · rename_i k kvs ek
    obtain ⟨p, ks, rfl, e, e1, r⟩ := bo_dk (r1.fr a.bs f2)
    obtain rfl := key_flat r2 ek
    split at q2
    · rename_i d ed
      obtain ⟨v, ev, rv⟩ := (od_val k e1 r).2 d ed
      exact ⟨p, v, rfl, ev ▸ DGet.k e, (w.back (f1.trans f2)) v H2 (.d d) (Fr.refl H2) i2 rv q2⟩
    · exact q2.elim
  · exact q2.elim⟩
/-- d.get(k) -/
def dget1K (Qd : Sl → Prop) : Sl → Sl → Prop := fun u s => match keyOf s, u with
  | some k, .bo (.dk kvs) => Qd (.d ((valD kvs k).getD .none))
  | _, _ => False
def isBo : Sl → Prop
  | .bo (.dk _) => True
  | _ => False
def dDGet1 (fd fy : TD) : TD := fun ρ Qd R => fd ρ (fun u => isBo u ∧ fy ρ (dget1K Qd u) R) R
instance {ty td : TE} {fy fd : TD} [hy : RefE K τ E ty fy] [hd : RefE K τ E td fd] : RefE K τ E (tDGet1 td ty) (dDGet1 fd fy) := ⟨fun W A H σ ρ Qd R Q a h w => by
  refine hd.go W A H σ ρ _ R _ a h fun x H1 u f1 i1 r1 q1 => ?_
  obtain ⟨bu, q1⟩ := q1
  unfold isBo at bu
  split at bu
  · rename_i kvs
    obtain ⟨p, ks, rfl, e, _⟩ := bo_dk r1
    refine ⟨p, rfl, .inl ⟨ks, .inl e⟩, ?_⟩
    refine hy.go W A H1 σ ρ _ R _ (a.fr f1 i1) q1 fun y H2 s f2 i2 r2 q2 => ?_
    unfold dget1K at q2
    split at q2
    · rename_i k kvs2 ek ez
      cases ez
      obtain ⟨p', ks', e0, e, e1, r⟩ := bo_dk (r1.fr a.bs f2)
      cases e0
      obtain rfl := key_flat r2 ek
      refine ⟨valV ks' k, DGet.k e, ?_⟩
      obtain ⟨z1, z2⟩ := od_val k e1 r
      cases h : valD kvs k with
      | none =>
        rw [z1 h]
        rw [h] at q2
        exact (w.back (f1.trans f2)).here i2 .non q2
      | some d =>
        obtain ⟨v, ev, rv⟩ := z2 d h
        rw [ev]
        rw [h] at q2
        exact (w.back (f1.trans f2)) v H2 (.d d) (Fr.refl H2) i2 rv q2
    · exact q2.elim
  · exact bu.elim⟩
/-- d[k] = v -/
def dputK (i : Nat) (ρ : List Sl) (nx : List Sl → Prop) (y : PyData) (o : Sl) : Sl → Prop := fun s => match keyOf s, o with
  | some k, .mo (.dk kvs) => kvs.length < sizeLine ∧ nx (ρ.set i (.mo (.dk (putD kvs k y))))
  | _, _ => False
def dputV (i : Nat) (fy : TD) (ρ : List Sl) (nx : List Sl → Prop) (R : Er → Prop) : Sl → Prop := fun s => match s.dat with
  | some y => isBo ((ρ[i]?).getD .un).val ∧ fy ρ (dputK i ρ nx y ((ρ[i]?).getD .un)) R
  | none => False
def dDPut (i : Nat) (fy fv : TD) : TDS := fun dd R ρ => fv ρ (dputV i fy ρ dd.nx R) R
instance {i : Nat} {ty tv : TE} {fy fv : TD} [hy : RefE K τ E ty fy] [hv : RefE K τ E tv fv] : RefS K τ E (sDPut (tVar i) ty tv) (dDPut i fy fv) := ⟨fun W A0 H0 D dd R H σ ρ gσ gρ b sr er ek h => by
  obtain ⟨W', A, c⟩ := sr
  refine hv.go W' A H σ ρ _ R _ (c.at_ ek) h fun v H1 s f1 i1 r1 q1 => ?_
  unfold dputV at q1
  split at q1
  · rename_i y ey
    obtain ⟨bo, q1⟩ := q1
    have c1 := c.step f1 i1
    cases e : ρ[i]? with
    | none =>
      rw [e] at bo
      exact bo.elim
    | some s0 =>
      rw [e] at bo q1
      cases s0 with
      | mo o =>
        cases o with
        | dt kvs => exact bo.elim
        | dk kvs =>
          obtain ⟨w0, ew, p, ho, rfl, ep, nB, aP, od⟩ := (c1.env.pre c1.lg).at_ _ _ e
          refine ⟨.ref p, ew, ?_⟩
          refine hy.go W' A H1 σ ρ _ R _ (c1.at_ ek) q1 fun u H2 s2 f2 i2 r2 q2 => ?_
          have c2 := c1.step f2 i2
          unfold dputK at q2
          split at q2
          · rename_i k kvs' ek2 ez
            cases ez
            obtain rfl := key_flat r2 ek2
            cases ho with
            | dK ks =>
              have rv := (r1.fr c.bs f2).dat c.bs ey
              have ep2 := f2.1 _ _ ep nt_dK nB
              have od2 : OdR K A H2 (.dK ks) (.dk kvs) := od.go (goes_fr c1.bs.ba f2)
              refine ⟨p, _, rfl, DPut.k ep2 (by rw [od_len od.1]; exact q2.1), er.nx _ _ _ ⟨W', A, c2.mutO (s1 := .mo (.dk (putD kvs k y))) e trivial ew (.dK _) fun g nB aP => ⟨p, _, rfl, upd_same, nB, aP, ?_⟩⟩ q2.2⟩
              exact OdR.go g (show OdR K A H2 (.dK (putK ks k v)) (.dk (putD kvs k y)) from od_put k rv od2.1 od2.2)
            | _ => exact od.elim
          · exact q2.elim
      | bo o => 
        cases o with
        | dt kvs => exact bo.elim
        | dk kvs =>
          obtain ⟨w0, ew, p, ho, rfl, ep, nB, od⟩ := (c1.env.pre c1.lg).at_ _ _ e
          refine ⟨.ref p, ew, ?_⟩
          refine hy.go W' A H1 σ ρ _ R _ (c1.at_ ek) q1 fun u H2 s2 f2 i2 r2 q2 => ?_
          unfold dputK at q2
          split at q2
          · rename_i ez
            cases ez
          · exact q2.elim
      | _ => exact bo.elim
  · exact q1.elim⟩
/-- x = {}, x = {y: n} -/
theorem Want.odk {W : Wld τ} {A : Addr → Prop} {H : Hp} {Qd : Sl → Prop} {Q : VK} {ks : List (Key × V)} {kvs : List (Key × PyData)} (b : Bs W A H) (h : Want K W A H Qd Q) (e : ks.map (·.1) = kvs.map (·.1)) (r : RpAll K A H (ks.map (·.2)) (kvs.map (·.2))) (q : Qd (.mo (.dk kvs))) : ∀ p, H p = none → Q (.ref p) (upd H p (.dK ks)) := fun p n =>
  h _ _ (.mo (.dk kvs)) (Fr.new n) (W.stay _ _ (same_new n) b.inv) ⟨p, _, rfl, nob n, upd_same, e, r.go fun c o ec _ nc => ⟨same_new n _ _ ec, fun z => z.elim nc (ne_of_none ec n)⟩⟩ q
def dOwn0 (i : Nat) : TDS := fun dd _ ρ => dd.nx (ρ.set i (.mo (.dk [])))
instance {i : Nat} : RefS K τ E (tAsg tDNewK (gName i)) (dOwn0 i) := ⟨fun W A0 H0 D dd R H σ ρ gσ gρ b sr er ek h => by
  obtain ⟨W', A, c⟩ := sr
  intro p n
  have f1 : Fr W'.B H (upd H p (.dK [])) := Fr.new n
  exact er.nx _ _ _ ⟨W', _, c.own (s := .mo (.dk [])) f1 (W'.stay _ _ (same_new n) c.bs.inv) (nob n) ⟨p, _, rfl, upd_same, c.bs.nB (nob n), .inr rfl, rfl, .nil⟩ trivial⟩ h⟩
def dispK (Qd : Sl → Prop) (n : Int) : Sl → Prop := fun s => match keyOf s with
  | some k => Qd (.mo (.dk [(k, .int n)]))
  | none => False
def dDispV (j : Nat) (n : Int) : TD := fun ρ Qd _ => dispK Qd n ((ρ[j]?).getD .un)
instance {j : Nat} {n : Int} : RefE K τ E (tDisp [(tVar j, tC (.int n))]) (dDispV j n) := ⟨fun W A H σ ρ Qd R Q a h w => by
  intro p np
  unfold dDispV dispK at h
  split at h
  · rename_i k ek
    cases e : ρ[j]? with
    | none =>
      rw [e] at ek
      cases ek
    | some s =>
      rw [e] at ek
      obtain ⟨v, e1, r⟩ := a.env.at_ _ _ e
      have es : s ≠ .un := fun z => by
        subst z
        cases ek
      have ek' : keyOf s.val = some k := by
        cases s <;> first | exact ek | cases ek
      obtain ⟨u, rfl, r2⟩ := r.val (H0 := H) es
      obtain rfl := key_flat r2 ek'
      refine ⟨_, e1, upd_same, [(k, .int n)], rfl, by show 1 ≤ 15; decide, ?_⟩
      rw [upd_upd]
      exact Want.odk (ks := [(k, .int n)]) (kvs := [(k, .int n)]) a.bs w rfl (.cons (.int n) .nil) h p np
  · exact h.elim⟩
/-! ### the least of some data -/
def rMinX (K : PySem.W.Frag) : List V → Hp → VK → Prop := fun xs H Q => ∃ (a : Addr) (vs : List V) (x : PyData) (ds : List PyData), xs = [.ref a] ∧ SqL K H a vs ∧ DpAll K H vs (x :: ds) ∧ PySem.W.AlikeAll (x :: ds) ∧ PyData.depthAll (x :: ds) ≤ 60 ∧ ∀ (i : Nat) (v : V), vs[i]? = some v → (x :: ds)[i]? = some (PySem.W.minD x ds) → Q v H
open PySem.W in
theorem min_idx {prog : Program} {w : World} {A : Around} {E : Value → Shared → Prop} {s : Shared} {l : Addr} {vs : Array Value} {x : PyData} {xs : List PyData} {as : List Addr} {Q : Value → Shared → Prop} (hh : A.handled = none) (hl : s.heap.IsList l vs) (hr : ReadsAll s.heap vs.toList (x :: xs) as) (ha : AlikeAll (x :: xs)) (hu : A.units + 1 + PyData.depthAll (x :: xs) < cLine)
    (h : ∀ (i : Nat) v h' tk, vs[i]? = some v → (x :: xs).getD i .none = minD x xs → (∀ b o, s.heap.get? b = some o → h'.get? b = some o) → Q v { s with heap := h', toks := tk }) :
    wpAny (model prog w) A (call (.builtin "min") [.ref l]) Q E s := by
  have hn : vs.size = xs.length + 1 := readsAll_len hr
  refine call_min_walkH (iter_listW (A := A.in1) hh hl fun s₂ e W st hfp hw hk => ?_)
  refine ⟨_, _, _, _, _, _, _, s.heap, _, rfl, W, st, hfp, by omega, hw, hk, cmpIn_lt (A := A.in1) hr ha (by show A.units + 1 + _ < _; exact hu), fun v s' hP m => ?_⟩
  obtain ⟨h', tk, rfl, hk'⟩ := moved_old e rfl m
  have e1 : vs.size - 1 = xs.length := by omega
  have e2 := (argBest_fold dataLt PyData.none x xs xs.length (Nat.le_refl _)).2
  rw [List.take_length] at e2
  exact h _ v h' tk hP (by rw [e1]; unfold minD; exact e2) hk'
theorem cr_minX {X : Cx} (hc : X.calm = true) (hu : X.A.units + 64 < cLine) : CallR X (.builtin "min") (rMinX X.K) := by
  intro pins s σ H vs us Q I r h
  obtain ⟨a, ws, x, ds, rfl, hs, hp, al, dd, q⟩ := h
  rw [Vals.ref1 r]
  obtain ⟨its, rv, hl, _⟩ := I.list hs
  obtain ⟨as, ra⟩ := Dp.readsAll I _ _ _ hp rv
  refine min_idx (I.ok.hd hc) hl.isList (by simpa using ra) al (by omega) fun i v h' tk hv hm hk => ?_
  have hv' : its[i]? = some v := by simpa using hv
  have hi : i < ws.length := by
    rw [rv.length]
    exact (List.getElem?_eq_some_iff.mp hv').1
  obtain ⟨u, e1, rel⟩ := rv.get (List.getElem?_eq_getElem hi)
  rw [e1] at hv'
  cases hv'
  have hl2 : i < (x :: ds).length := by
    have h2 := PySem.W.readsAll_len (vs := its.toArray) (by simpa using ra)
    have h3 := rv.length
    rw [List.size_toArray] at h2
    omega
  refine ⟨ws[i], H, I.kept (t' := tk) hk, rel, q i _ (List.getElem?_eq_getElem hi) ?_⟩
  rw [List.getElem?_eq_getElem hl2]
  unfold List.getD at hm
  rw [List.getElem?_eq_getElem hl2] at hm
  exact congrArg some hm
theorem cr_minXK {X : Cx} {K : PySem.W.Frag} (hK : X.K = K) (hc : X.calm = true) (hu : X.A.units + 64 < cLine) : CallR X (.builtin "min") (rMinX K) := by
  subst hK
  exact cr_minX hc hu
/-- of which a least one can be found -/
def minOk (x : PyData) (ds : List PyData) : Prop := PyData.canLayAll0 (x :: ds) = true ∧ PySem.W.AlikeAll (x :: ds) ∧ PyData.depthAll (x :: ds) ≤ 60
def minK (Qd : Sl → Prop) : List PyData → Prop := fun xs => match xs with
  | x :: ds => minOk x ds ∧ Qd (.d (PySem.W.minD x ds))
  | [] => False
def fMinX : List Sl → (Sl → Prop) → Prop := fun ss Qd => match ss with
  | [s] => (match s.seq with
    | some xs => minK Qd xs
    | none => False)
  | _ => False
instance : RefC K (rMinX K) fMinX := ⟨fun W A H0 H xs ss Qd Q b f i rx h w => by
  unfold fMinX at h
  split at h
  · obtain ⟨v, rfl, r⟩ := vlsr1 rx
    split at h
    · rename_i xs ex
      obtain ⟨p, vs, rfl, sq, r⟩ := r.seq b ex
      unfold minK at h
      split at h
      · rename_i x ds
        obtain ⟨ok, q⟩ := h
        refine ⟨p, vs, x, ds, rfl, sqLA_sq sq, r.dp ok.1, ok.2.1, ok.2.2, fun i' v ev ed => ?_⟩
        obtain ⟨d, e1, rd⟩ := r.getV ev
        rw [ed] at e1
        cases e1
        exact w v H (.d _) (Fr.refl H) i rd q
      · exact h.elim
    · exact h.elim
  · exact h.elim⟩
/-! ### the least of pairs of numbers -/
def dPair (p : Int × Int) : PyData := .tuple [.int p.1, .int p.2]
def LeT (p q : Int × Int) : Prop := p.1 < q.1 ∨ (p.1 = q.1 ∧ p.2 ≤ q.2)
end
section
variable {dd : DEnds} {R : Er → Prop} {ρ : List Sl} {Qd : Sl → Prop} {i j : Nat} {fy fd fv : TD} {kvs : List (Key × PyData)} {neg : Bool} {n : Int} {x : Str} {y : PyData} {nx : List Sl → Prop} {xs ds : List PyData} {u s : Sl}
theorem dDIn_c : dDIn neg fy fd ρ Qd R = fy ρ (fun s => fd ρ (dinK neg Qd s) R) R := propext Iff.rfl
theorem dinK_i : dinK neg Qd (.d (.int n)) (.bo (.dk kvs)) = Qd (.d (.bool (if neg then !(valD kvs (.inl n)).isSome else (valD kvs (.inl n)).isSome))) := propext Iff.rfl
theorem dinK_s : dinK neg Qd (.d (.str x)) (.bo (.dk kvs)) = Qd (.d (.bool (if neg then !(valD kvs (.inr x)).isSome else (valD kvs (.inr x)).isSome))) := propext Iff.rfl
theorem dDGet_c : dDGet fd fy ρ Qd R = fd ρ (fun u => fy ρ (dgetK Qd u) R) R := propext Iff.rfl
theorem dgetK_i (e : valD kvs (.inl n) = some y) (h : Qd (.d y)) : dgetK Qd (.bo (.dk kvs)) (.d (.int n)) := by
  show (match valD kvs (.inl n) with
    | some x => Qd (.d x)
    | none => False)
  rw [e]
  exact h
theorem dDGet1_c : dDGet1 fd fy ρ Qd R = fd ρ (fun u => isBo u ∧ fy ρ (dget1K Qd u) R) R := propext Iff.rfl
theorem isBo_c : isBo (.bo (.dk kvs)) = True := propext Iff.rfl
theorem dget1K_i : dget1K Qd (.bo (.dk kvs)) (.d (.int n)) = Qd (.d ((valD kvs (.inl n)).getD .none)) := propext Iff.rfl
theorem dDPut_c : dDPut i fy fv dd R ρ = fv ρ (dputV i fy ρ dd.nx R) R := propext Iff.rfl
theorem dputV_d : dputV i fy ρ nx R (.d y) = (isBo ((ρ[i]?).getD .un).val ∧ fy ρ (dputK i ρ nx y ((ρ[i]?).getD .un)) R) := propext Iff.rfl
theorem dputK_i : dputK i ρ nx y (.mo (.dk kvs)) (.d (.int n)) = (kvs.length < sizeLine ∧ nx (ρ.set i (.mo (.dk (putD kvs (.inl n) y))))) := propext Iff.rfl
theorem val_mo {o : OD} : Sl.val (.mo o) = .bo o := rfl
theorem dOwn0_c : dOwn0 i dd R ρ = dd.nx (ρ.set i (.mo (.dk []))) := propext Iff.rfl
theorem dDispV_c : dDispV j n ρ Qd R = dispK Qd n ((ρ[j]?).getD .un) := propext Iff.rfl
theorem dispK_i {m : Int} : dispK Qd n (.d (.int m)) = Qd (.mo (.dk [(.inl m, .int n)])) := propext Iff.rfl
theorem fMinX_b : fMinX [.bl xs] Qd = minK Qd xs := propext Iff.rfl
theorem fMinX_m : fMinX [.ml xs] Qd = minK Qd xs := propext Iff.rfl
theorem minK_c : minK Qd (y :: ds) = (minOk y ds ∧ Qd (.d (PySem.W.minD y ds))) := propext Iff.rfl
theorem valD_put (kvs : List (Key × PyData)) (k j : Key) (y : PyData) : valD (putD kvs k y) j = if j = k then some y else valD kvs j := by
  have e0 : ∀ kvs : List (Key × PyData), valD kvs k = none → (kvs.any fun kv => decide (kv.1 = k)) = false := by
    intro kvs
    induction kvs with
    | nil => intro _; rfl
    | cons p r ih =>
      intro h
      unfold valD at h
      by_cases e : p.1 = k
      · rw [List.find?_cons_of_pos (by simpa using e)] at h
        cases h
      · rw [List.find?_cons_of_neg (by simpa using e)] at h
        rw [List.any_cons, ih h]
        simp [e]
  have e1 : ∀ kvs : List (Key × PyData), valD (kvs.map fun kv => if kv.1 = k then (kv.1, y) else kv) j = (valD kvs j).map fun x => if j = k then y else x := by
    intro kvs
    induction kvs with
    | nil => rfl
    | cons p r ih =>
      unfold valD at ih ⊢
      rw [List.map_cons]
      by_cases e : p.1 = j
      · by_cases e2 : p.1 = k
        · rw [if_pos e2, List.find?_cons_of_pos (by simpa using e), List.find?_cons_of_pos (by simpa using e)]
          show some y = some (if j = k then y else p.2)
          rw [if_pos (e.symm.trans e2)]
        · rw [if_neg e2, List.find?_cons_of_pos (by simpa using e), List.find?_cons_of_pos (by simpa using e)]
          show some p.2 = some (if j = k then y else p.2)
          rw [if_neg (fun z => e2 (e.trans z))]
      · have e3 : (if p.1 = k then (p.1, y) else p).1 = p.1 := by by_cases e2 : p.1 = k <;> simp [e2]
        rw [List.find?_cons_of_neg (by rw [e3]; simpa using e), List.find?_cons_of_neg (by simpa using e)]
        exact ih
  have e2 : ∀ kvs : List (Key × PyData), (kvs.any fun kv => decide (kv.1 = k)) = false → valD (kvs ++ [(k, y)]) j = if j = k then some y else valD kvs j := by
    intro kvs
    induction kvs with
    | nil =>
      intro _
      unfold valD
      by_cases e : k = j
      · subst e
        simp
      · rw [if_neg (fun z => e z.symm)]
        simp [e]
    | cons p r ih =>
      intro h
      rw [List.any_cons, Bool.or_eq_false_iff] at h
      have e3 : ¬ p.1 = k := by simpa using h.1
      unfold valD at ih ⊢
      rw [List.cons_append]
      by_cases e : p.1 = j
      · rw [List.find?_cons_of_pos (by simpa using e), List.find?_cons_of_pos (by simpa using e), if_neg (fun z => e3 (e.trans z))]
      · rw [List.find?_cons_of_neg (by simpa using e), List.find?_cons_of_neg (by simpa using e)]
        exact ih h.2
  unfold putD
  by_cases h : (kvs.any fun kv => decide (kv.1 = k)) = true
  · rw [if_pos h, e1]
    by_cases e : j = k
    · subst e
      rw [if_pos rfl]
      cases z : valD kvs j with
      | none =>
        rw [e0 kvs z] at h
        cases h
      | some d => simp
    · rw [if_neg e]
      cases valD kvs j <;> simp [e]
  · rw [if_neg h]
    exact e2 kvs (Bool.eq_false_iff.mpr h)
theorem length_putD (kvs : List (Key × PyData)) (k : Key) (v : PyData) : (putD kvs k v).length ≤ kvs.length + 1 := by
  unfold putD
  split
  · rw [List.length_map]
    omega
  · rw [List.length_append]
    exact Nat.le_refl _
end
end Dl

namespace Dl
open PySem PySem.Spec PyProof.Rows L2
/-! ### calls by keywords, defaults -/
def pickL {α : Type} (n m : Nat) (src : List (Nat ⊕ Nat)) (d : α) (us ws : List α) : List α :=
  if us.length = n ∧ ws.length = m then src.map (fun z => match z with
    | .inl i => us.getD i d
    | .inr j => ws.getD j d) else []
theorem vals_getD {vs : List V} {us : List Value} (r : Vals vs us) (i : Nat) : RelV (vs.getD i .non) (us.getD i .none) := by
  unfold List.getD
  cases e : vs[i]? with
  | none =>
    have := List.getElem?_eq_none_iff.mp e
    rw [List.getElem?_eq_none (by rw [← r.length]; exact this)]
    exact rfl
  | some v =>
    obtain ⟨u, e1, h⟩ := r.get e
    rw [e1]
    exact h
theorem pick_vals {n m : Nat} {src : List (Nat ⊕ Nat)} {vs zs : List V} {us ws : List Value} (r : Vals vs us) (rz : Vals zs ws) : Vals (pickL n m src .non vs zs) (pickL n m src .none us ws) := by
  unfold pickL
  rw [r.length, rz.length]
  split
  · induction src with
    | nil => exact .nil
    | cons z src ih =>
      refine .cons ?_ ih
      cases z with
      | inl i => exact vals_getD r i
      | inr j => exact vals_getD rz j
  · exact .nil
def pickS (ss zs : List Sl) : List (Nat ⊕ Nat) → Option (List Sl)
  | [] => some []
  | .inl i :: r => match ss[i]?, pickS ss zs r with
    | some s, some t => some (s :: t)
    | _, _ => none
  | .inr i :: r => match zs[i]?, pickS ss zs r with
    | some s, some t => some (s :: t)
    | _, _ => none
section
variable {K : PySem.W.Frag} {τ : List (Addr × Str)} {E : XK}
theorem VlsR.get {W : Wld τ} {A : Addr → Prop} {H0 H : Hp} {vs : List V} {ss : List Sl} (r : VlsR K W A H0 H vs ss) : ∀ {i : Nat} {s : Sl}, ss[i]? = some s → ∃ v, vs[i]? = some v ∧ VlR K W A H0 H v s := by
  induction r with
  | nil => intro i s e; simp at e
  | cons a _ ih =>
    intro i s e
    cases i with
    | zero => simp at e; subst e; exact ⟨_, rfl, a⟩
    | succ i => simp at e; obtain ⟨v, h1, h2⟩ := ih e; exact ⟨v, by simpa using h1, h2⟩
theorem pick_vlsr {W : Wld τ} {A : Addr → Prop} {H0 H : Hp} {vs us : List V} {ss zs : List Sl} (r : VlsR K W A H0 H vs ss) (rz : VlsR K W A H0 H us zs) {n m : Nat} (hn : ss.length = n) (hm : zs.length = m) : ∀ {src : List (Nat ⊕ Nat)} {ps : List Sl}, pickS ss zs src = some ps → VlsR K W A H0 H (pickL n m src .non vs us) ps := by
  intro src ps
  have hl : vs.length = n ∧ us.length = m := ⟨by rw [r.length, hn], by rw [rz.length, hm]⟩
  have key : ∀ {src : List (Nat ⊕ Nat)} {ps : List Sl}, pickS ss zs src = some ps → VlsR K W A H0 H (src.map (fun z => match z with
    | .inl i => vs.getD i .non
    | .inr j => us.getD j .non)) ps := by
    intro src
    induction src with
    | nil =>
      intro ps e
      cases e
      exact .nil
    | cons z src ih =>
      intro ps e
      cases z with
      | inl i =>
        unfold pickS at e
        split at e
        · rename_i s t e1 e2
          cases e
          obtain ⟨v, ev, rv⟩ := r.get e1
          refine .cons ?_ (ih e2)
          show VlR K W A H0 H (vs.getD i .non) s
          unfold List.getD
          rw [ev]
          exact rv
        · cases e
      | inr i =>
        unfold pickS at e
        split at e
        · rename_i s t e1 e2
          cases e
          obtain ⟨v, ev, rv⟩ := rz.get e1
          refine .cons ?_ (ih e2)
          show VlR K W A H0 H (us.getD i .non) s
          unfold List.getD
          rw [ev]
          exact rv
        · cases e
  intro e
  unfold pickL
  rw [if_pos hl]
  exact key e
def kwK (ms : List Bool) (sp : SpD) (n m : Nat) (src : List (Nat ⊕ Nat)) (Qd : Sl → Prop) (R : Er → Prop) (ss zs : List Sl) : Prop := ss.length = n ∧ zs.length = m ∧ match pickS ss zs src with
  | some ps => sp (cvs ms ps) Qd R
  | none => False
def dCallK (ms : List Bool) (sp : SpD) (n m : Nat) (src : List (Nat ⊕ Nat)) (fa fk : TDA) : TD := fun ρ Qd R => fa ρ (fun ss => fk ρ (kwK ms sp n m src Qd R ss) R) R
def dCallK0 (ms : List Bool) (sp : SpD) (n m : Nat) (src : List (Nat ⊕ Nat)) (fa fk : TDA) : TD := fun ρ Qd R => fa ρ (fun ss => fk ρ (kwK ms sp n m src Qd (fun _ => False) ss) R) R
instance {ms : List Bool} {sp : SpD} {n m : Nat} {src : List (Nat ⊕ Nat)} {t tk : TA} {fa fk : TDA} [ha : RefA K τ E t fa] [hk : RefA K τ E tk fk] : RefE K τ E (L2.tCallK (spD K ms sp) (pickL n m src .non) E0 t tk) (dCallK0 ms sp n m src fa fk) := ⟨fun W A H σ ρ Qd R Q a h w => by
  refine ha.go W A H σ ρ _ R _ a h fun vs H1 ss f1 i1 r1 q => ?_
  refine hk.go W A H1 σ ρ _ R _ (a.fr f1 i1) q fun us H2 zs f2 i2 r2 q2 => ?_
  obtain ⟨hn, hm, q2⟩ := q2
  split at q2
  · rename_i ps ep
    obtain ⟨r3, ar⟩ := (pick_vlsr (r1.fr a.bs f2) (r2.early f1) hn hm ep).cvs a.bs ms
    exact ⟨τ, W, A, _, Qd, _, a.bs.fr (f1.trans f2) i2, r3, ar, q2, w.back (f1.trans f2), fun er x H' f i z r => r.elim⟩
  · exact q2.elim⟩
instance (priority := low) {ms : List Bool} {sp : SpD} {n m : Nat} {src : List (Nat ⊕ Nat)} {t tk : TA} {fa fk : TDA} [ha : RefA K τ E t fa] [hk : RefA K τ E tk fk] : RefE K τ E (L2.tCallK (spD K ms sp) (pickL n m src .non) E t tk) (dCallK ms sp n m src fa fk) := ⟨fun W A H σ ρ Qd R Q a h w => by
  refine ha.go W A H σ ρ _ R _ a h fun vs H1 ss f1 i1 r1 q => ?_
  refine hk.go W A H1 σ ρ _ R _ (a.fr f1 i1) q fun us H2 zs f2 i2 r2 q2 => ?_
  obtain ⟨hn, hm, q2⟩ := q2
  split at q2
  · rename_i ps ep
    obtain ⟨r3, ar⟩ := (pick_vlsr (r1.fr a.bs f2) (r2.early f1) hn hm ep).cvs a.bs ms
    exact ⟨τ, W, A, _, Qd, R, a.bs.fr (f1.trans f2) i2, r3, ar, q2, w.back (f1.trans f2), (a.fr (f1.trans f2) i2).er⟩
  · exact q2.elim⟩
/-- a tuple that is written in the text -/
class CTup (K : PySem.W.Frag) (T : Addr) (xs : outParam (List PyData)) : Prop where
  sq : ∃ vs, SqT K (fun _ => none) T vs ∧ ∀ A H, RpAll K A H vs xs
theorem CTup.nil {T : Addr} (h : SqT K (fun _ => none) T []) : CTup K T [] := ⟨[], h, fun _ _ => .nil⟩
class RefV (K : PySem.W.Frag) (v : V) (s : outParam Sl) : Prop where
  go : ∀ {τ : List (Addr × Str)} (W : Wld τ) (A : Addr → Prop) (H0 H : Hp), VlR K W A H0 H v s
instance {i : Int} : RefV K (.int i) (.d (.int i)) := ⟨fun _ _ _ _ => Rp.int i⟩
instance {x : Str} : RefV K (.str x) (.d (.str x)) := ⟨fun _ _ _ _ => Rp.str x⟩
instance {b : Bool} : RefV K (.bl b) (.d (.bool b)) := ⟨fun _ _ _ _ => Rp.bl b⟩
instance : RefV K .non (.d .none) := ⟨fun _ _ _ _ => Rp.non⟩
class RefVs (K : PySem.W.Frag) (vs : List V) (ss : outParam (List Sl)) : Prop where
  go : ∀ {τ : List (Addr × Str)} (W : Wld τ) (A : Addr → Prop) (H0 H : Hp), VlsR K W A H0 H vs ss
instance : RefVs K [] [] := ⟨fun _ _ _ _ => .nil⟩
instance {v : V} {vs : List V} {s : Sl} {ss : List Sl} [h : RefV K v s] [hs : RefVs K vs ss] : RefVs K (v :: vs) (s :: ss) := ⟨fun W A H0 H => .cons (h.go W A H0 H) (hs.go W A H0 H)⟩
theorem VlsR.app {W : Wld τ} {A : Addr → Prop} {H0 H : Hp} {vs us : List V} {ss zs : List Sl} (r : VlsR K W A H0 H vs ss) (rz : VlsR K W A H0 H us zs) : VlsR K W A H0 H (vs ++ us) (ss ++ zs) := by
  induction r with
  | nil => exact rz
  | cons a _ ih => exact .cons a ih
def dCallD (ms : List Bool) (sp : SpD) (ds : List Sl) (fa : TDA) : TD := fun ρ Qd R => fa ρ (fun ss => sp (cvs ms (ss ++ ds)) Qd R) R
def dCallD0 (ms : List Bool) (sp : SpD) (ds : List Sl) (fa : TDA) : TD := fun ρ Qd R => fa ρ (fun ss => sp (cvs ms (ss ++ ds)) Qd (fun _ => False)) R
instance {ms : List Bool} {sp : SpD} {v : V} {dvs : List V} {ds : List Sl} {t : TA} {fa : TDA} [hd : RefVs K (v :: dvs) ds] [ha : RefA K τ E t fa] : RefE K τ E (tCall (spD K ms sp) (v :: dvs) E0 t) (dCallD0 ms sp ds fa) := ⟨fun W A H σ ρ Qd R Q a h w => by
  refine ha.go W A H σ ρ _ R _ a h fun vs H1 ss f1 i1 r1 q => ?_
  obtain ⟨r2, ar⟩ := (r1.app (hd.go W A H H1)).cvs a.bs ms
  exact ⟨τ, W, A, _, Qd, _, a.bs.fr f1 i1, r2, ar, q, w.back f1, fun er x H' f i z r => r.elim⟩⟩
instance (priority := low) {ms : List Bool} {sp : SpD} {v : V} {dvs : List V} {ds : List Sl} {t : TA} {fa : TDA} [hd : RefVs K (v :: dvs) ds] [ha : RefA K τ E t fa] : RefE K τ E (tCall (spD K ms sp) (v :: dvs) E t) (dCallD ms sp ds fa) := ⟨fun W A H σ ρ Qd R Q a h w => by
  refine ha.go W A H σ ρ _ R _ a h fun vs H1 ss f1 i1 r1 q => ?_
  obtain ⟨r2, ar⟩ := (r1.app (hd.go W A H H1)).cvs a.bs ms
  exact ⟨τ, W, A, _, Qd, R, a.bs.fr f1 i1, r2, ar, q, w.back f1, (a.fr f1 i1).er⟩⟩
variable {ρ : List Sl} {R : Er → Prop} {Qd : Sl → Prop} {ms : List Bool} {sp : SpD} {n m : Nat} {src : List (Nat ⊕ Nat)} {fa fk : TDA} {ds : List Sl}
theorem dCallK_c : dCallK ms sp n m src fa fk ρ Qd R = fa ρ (fun ss => fk ρ (kwK ms sp n m src Qd R ss) R) R := propext Iff.rfl
theorem dCallK0_c : dCallK0 ms sp n m src fa fk ρ Qd R = fa ρ (fun ss => fk ρ (kwK ms sp n m src Qd (fun _ => False) ss) R) R := propext Iff.rfl
theorem dCallD_c : dCallD ms sp ds fa ρ Qd R = fa ρ (fun ss => sp (cvs ms (ss ++ ds)) Qd R) R := propext Iff.rfl
theorem dCallD0_c : dCallD0 ms sp ds fa ρ Qd R = fa ρ (fun ss => sp (cvs ms (ss ++ ds)) Qd (fun _ => False)) R := propext Iff.rfl
theorem kwK_i {ss zs ps : List Sl} (h1 : ss.length = n) (h2 : zs.length = m) (h3 : pickS ss zs src = some ps) (h : sp (cvs ms ps) Qd R) : kwK ms sp n m src Qd R ss zs := ⟨h1, h2, by rw [h3]; exact h⟩
/-! ### comprehensions over things of a kind -/
theorem lcD_fmap {α : Type} {fg : FG} {ft : TDT} {fe : TD} {Qd : List PyData → Prop} (enc : α → PyData) (F : α → Option PyData) : ∀ (xs : List α) (acc : List PyData),
    (∀ x ∈ xs, ∀ acc N, acc.length < sizeLine → (∀ y, F x = some y → N (acc ++ [y])) → (F x = none → N acc) → lcStep fg ft fe ρ R (enc x) acc N) → acc.length + xs.length ≤ 100000 → Qd (acc ++ xs.filterMap F) → lcD fg ft fe ρ R Qd (xs.map enc) acc
  | [], acc, _, _, h => by
    rw [List.filterMap_nil, List.append_nil] at h
    exact h
  | x :: r, acc, step, hl, h => by
    rw [List.length_cons] at hl
    rw [List.map_cons]
    refine lcD_cons (step x List.mem_cons_self acc _ (line_1000 (by omega)) (fun y e => ?_) fun e => ?_)
    · refine lcD_fmap enc F r (acc ++ [y]) (fun e he => step e (List.mem_cons_of_mem _ he)) (by rw [List.length_append, List.length_singleton]; omega) ?_
      rw [List.filterMap_cons_some e] at h
      rw [List.append_assoc]
      exact h
    · refine lcD_fmap enc F r acc (fun e he => step e (List.mem_cons_of_mem _ he)) (by omega) ?_
      rw [List.filterMap_cons_none e] at h
      exact h
/-- each tells just one -/
theorem lcD_each {α : Type} {fg : FG} {ft : TDT} {fe : TD} {Qd : List PyData → Prop} (enc : α → PyData) (F : α → PyData) (xs : List α)
    (step : ∀ x ∈ xs, ∀ acc N, acc.length < sizeLine → N (acc ++ [F x]) → lcStep fg ft fe ρ R (enc x) acc N) (hl : xs.length ≤ 100000) (q : Qd (xs.map F)) : lcD fg ft fe ρ R Qd (xs.map enc) [] := by
  refine lcD_fmap enc (fun x => some (F x)) xs [] (fun x hx acc N ha hT _ => step x hx acc N ha (hT _ rfl)) (by rw [List.length_nil]; omega) ?_
  rw [List.nil_append, show (xs.filterMap fun x => some (F x)) = xs.map F from by rw [List.filterMap_eq_map']]
  exact q
theorem fm_those {α : Type} (F : α → PyData) (p : α → Bool) : ∀ xs : List α, (xs.filterMap fun x => if p x = true then some (F x) else none) = (xs.filter p).map F
  | [] => rfl
  | x :: r => by
    by_cases h : p x = true
    · rw [List.filterMap_cons_some (by exact if_pos h), List.filter_cons_of_pos h, List.map_cons, fm_those F p r]
    · rw [List.filterMap_cons_none (by exact if_neg h), List.filter_cons_of_neg h, fm_those F p r]
/-- those of which p is true -/
theorem lcD_those {α : Type} {fg : FG} {ft : TDT} {fe : TD} {Qd : List PyData → Prop} (enc F : α → PyData) (p : α → Bool) (xs : List α)
    (step : ∀ x ∈ xs, ∀ acc N, acc.length < sizeLine → (p x = true → N (acc ++ [F x])) → (p x = false → N acc) → lcStep fg ft fe ρ R (enc x) acc N) (hl : xs.length ≤ 100000) (q : Qd ((xs.filter p).map F)) : lcD fg ft fe ρ R Qd (xs.map enc) [] := by
  refine lcD_fmap enc (fun x => if p x = true then some (F x) else none) xs [] (fun x hx acc N ha hT hF => step x hx acc N ha (fun e => hT _ (if_pos e)) fun e => hF (if_neg (by rw [e]; decide))) (by rw [List.length_nil]; omega) ?_
  rw [List.nil_append, fm_those]
  exact q
theorem eqv_nil (xs : List PyData) : PyData.eqv (.list xs) (.list []) = xs.isEmpty := by cases xs <;> simp [PyData.eqv, PyData.eqvAll]
/-! ### the least of pairs -/
theorem LeT.refl (p : Int × Int) : LeT p p := .inr ⟨rfl, Int.le_refl _⟩
theorem LeT.trans {p q r : Int × Int} (h : LeT p q) (k : LeT q r) : LeT p r := by
  unfold LeT at *
  omega
theorem LeT.eq {p q : Int × Int} (h : LeT p q) (k : LeT q p) : p = q := by
  unfold LeT at *
  exact Prod.ext (by omega) (by omega)
theorem min_pairs : ∀ (ps : List (Int × Int)) (p : Int × Int), ∃ m, (m = p ∨ m ∈ ps) ∧ PySem.W.minD (dPair p) (ps.map dPair) = dPair m ∧ LeT m p ∧ ∀ r ∈ ps, LeT m r
  | [], p => ⟨p, .inl rfl, rfl, .refl p, fun _ h => nomatch h⟩
  | r :: ps, p => by
    have e : (if PySem.W.dataLt (dPair r) (dPair p) = true then dPair r else dPair p) = dPair (if r.1 < p.1 ∨ (r.1 = p.1 ∧ r.2 < p.2) then r else p) := by
      unfold dPair
      rw [PySem.W.dataLt_ii]
      by_cases h : r.1 < p.1 ∨ (r.1 = p.1 ∧ r.2 < p.2)
      · rw [if_pos (decide_eq_true h), if_pos h]
      · rw [if_neg (by rw [decide_eq_true_eq]; exact h), if_neg h]
    obtain ⟨m, h1, h2, h3, h4⟩ := min_pairs ps (if r.1 < p.1 ∨ (r.1 = p.1 ∧ r.2 < p.2) then r else p)
    have hd : PySem.W.minD (dPair p) ((r :: ps).map dPair) = PySem.W.minD (dPair (if r.1 < p.1 ∨ (r.1 = p.1 ∧ r.2 < p.2) then r else p)) (ps.map dPair) := by
      unfold PySem.W.minD
      rw [List.map_cons, List.foldl_cons, ← e]
    by_cases h : r.1 < p.1 ∨ (r.1 = p.1 ∧ r.2 < p.2)
    · rw [if_pos h] at h1 h2 h3 hd
      refine ⟨m, ?_, hd.trans h2, ?_, fun x hx => ?_⟩
      · rcases h1 with rfl | h1
        · exact .inr (List.mem_cons_self ..)
        · exact .inr (List.mem_cons_of_mem _ h1)
      · refine h3.trans ?_
        unfold LeT
        omega
      · rcases List.mem_cons.mp hx with rfl | hx
        · exact h3
        · exact h4 x hx
    · rw [if_neg h] at h1 h2 h3 hd
      refine ⟨m, ?_, hd.trans h2, h3, fun x hx => ?_⟩
      · rcases h1 with rfl | h1
        · exact .inl rfl
        · exact .inr (List.mem_cons_of_mem _ h1)
      · rcases List.mem_cons.mp hx with rfl | hx
        · refine h3.trans ?_
          unfold LeT
          omega
        · exact h4 x hx
theorem dPair_inj {p q : Int × Int} (h : dPair p = dPair q) : p = q := by
  unfold dPair at h
  simp at h
  exact Prod.ext h.1 h.2
theorem lay_pair (p : Int × Int) : Lay (dPair p) 1 := lay_tup (n := 0) fun x hx => by
  simp only [List.mem_cons, List.not_mem_nil, or_false] at hx
  rcases hx with rfl | rfl <;> exact lay_int _ _
theorem pairs_ok (p : Int × Int) (ps : List (Int × Int)) : minOk (dPair p) (ps.map dPair) := by
  have each : ∀ x ∈ dPair p :: ps.map dPair, ∃ r, x = dPair r := fun x hx => by
    rw [← List.map_cons] at hx
    obtain ⟨r, _, rfl⟩ := List.mem_map.mp hx
    exact ⟨r, rfl⟩
  obtain ⟨z1, z2⟩ := lay_all (xs := dPair p :: ps.map dPair) (n := 1) fun x hx => by
    obtain ⟨r, rfl⟩ := each x hx
    exact lay_pair r
  refine ⟨z1, ⟨fun x hx y hy => ?_, fun x hx => ?_⟩, Nat.le_trans z2 (by decide)⟩
  · obtain ⟨r, rfl⟩ := each x hx
    obtain ⟨r', rfl⟩ := each y hy
    simp [dPair, PySem.W.alike, PySem.W.alikeAll]
  · obtain ⟨r, rfl⟩ := each x hx
    exact fun z => nomatch z
/-- the least of some pairs -/
theorem fMin_pairs {ps : List (Int × Int)} (ne : ps ≠ []) (h : ∀ m, m ∈ ps → (∀ r ∈ ps, LeT m r) → Qd (.d (dPair m))) : fMinX [.bl (ps.map dPair)] Qd := by
  cases ps with
  | nil => exact absurd rfl ne
  | cons p ps =>
    obtain ⟨m, h1, h2, h3, h4⟩ := min_pairs ps p
    refine ⟨pairs_ok p ps, ?_⟩
    show Qd (.d (PySem.W.minD (dPair p) (ps.map dPair)))
    rw [h2]
    refine h m ?_ fun r hr => ?_
    · rcases h1 with rfl | h1
      · exact List.mem_cons_self
      · exact List.mem_cons_of_mem _ h1
    · rcases List.mem_cons.mp hr with rfl | hr
      · exact h3
      · exact h4 r hr
end
end Dl
namespace Wy
open PySem PySem.Spec PyProof.Rows L2 Dl
/-- a def with parameters that have defaults and are told by name -/
structure Dk (K : PySem.W.Frag) (mg : Str → Option Value) (x : Str) (st : Stmt) (kws : List (Str × V)) (f : Addr) (fd : FuncData) : Prop where
  F : Fun K x x st f fd
  D : FunD K x x (defArgs st) (defBody st) (defScope st) [] kws f fd
  g : mg x = some (.ref f)
structure Ck (P : Program) (w : World) (K : PySem.W.Frag) (mg : Str → Option Value) (base : Heap) (CX : CXT) (k : Nat) (x : Str) (st : Stmt) (ps : List Str) (kws : List (Str × V)) (sp : Sp) : Prop where
  ex : ∃ f fd, FnOk P w K mg base CX k f fd ps sp ∧ Dk K mg x st kws f fd
theorem pe_ck {X : Cx} {CX : CXT} {E : XK} {k : Nat} {st : Stmt} {ps ks : List Str} {kwd : List (Str × V)} {sp : Sp} {x : Str} {p pos : Pos} {e : Expr} {es : List Expr} {kws : List Keyword} {t tk : TA} {g : List Value → List Value → List Value} {gV : List V → List V → List V} (h : Ck X.prog X.w X.K X.mg X.base CX k x st ps kwd sp) (hb : ∀ f fd, Fun X.K x x st f fd → KBinds X.K fd ps ks g gV) (hr : Room k X.A) (hg : Gl X x) (hx : Passes CX X E) (ha : PA X (e :: es) t) (hkw : PK X kws tk)
    (hall : (backToKw pos (keywordEach kws X.env)).all (·.1.isSome) = true := by rfl) (hks : (backToKw pos (keywordEach kws X.env)).filterMap (·.1) = ks := by rfl)
    (hdb : (x == ("__debug__" : Str)) = false := by decide) (he : starEach (e :: es) X.env = (false, eval e X.env) :: starEach es X.env := by rfl)
    (hpl : ((backTo pos (starEach (e :: es) X.env)).any (·.1) || (backToKw pos (keywordEach kws X.env)).any (·.1.isNone)) = false := by rfl) : PE X (.Call (.Name x p) (e :: es) kws pos) (L2.tCallK sp gV E t tk) := by
  obtain ⟨f, fd, F, D⟩ := h.ex
  exact pe_callK F hr hg D.g D.F.kp (hb f fd D.F) hx ha hkw hall hks hdb he hpl
theorem pe_ck0 {X : Cx} {CX : CXT} {E : XK} {k : Nat} {st : Stmt} {ps ks : List Str} {kwd : List (Str × V)} {sp : Sp} {x : Str} {p pos : Pos} {kws : List Keyword} {tk : TA} {g : List Value → List Value → List Value} {gV : List V → List V → List V} (h : Ck X.prog X.w X.K X.mg X.base CX k x st ps kwd sp) (hb : ∀ f fd, Fun X.K x x st f fd → KBinds X.K fd ps ks g gV) (hr : Room k X.A) (hg : Gl X x) (hx : Passes CX X E) (hkw : PK X kws tk)
    (hall : (backToKw pos (keywordEach kws X.env)).all (·.1.isSome) = true := by rfl) (hks : (backToKw pos (keywordEach kws X.env)).filterMap (·.1) = ks := by rfl) (hdb : (x == ("__debug__" : Str)) = false := by decide)
    (hpl : ((backTo pos (starEach [] X.env)).any (·.1) || (backToKw pos (keywordEach kws X.env)).any (·.1.isNone)) = false := by rfl) : PE X (.Call (.Name x p) [] kws pos) (L2.tCallK sp gV E tNil tk) := by
  obtain ⟨f, fd, F, D⟩ := h.ex
  refine ⟨fun pins s σ H Q I h => wpAny_Call_Name_kw (ld_glob I hg D.g ?_ hdb)⟩
  refine PySem.W.callWith_KW0 (h₀ := X.base) I.ok.mod.kin D.F.kp hall (thn (hkw.run pos pins s σ H _ I h) fun ws t1 ⟨zs, G, J, rz, q⟩ => ⟨J.kIn, ?_⟩) hpl
  rw [hks]
  exact run_fnk (us := []) (vs := []) F hr (hb f fd D.F) hx J .nil rz q
theorem pe_cd {X : Cx} {CX : CXT} {E : XK} {k : Nat} {st : Stmt} {ps : List Str} {kwd : List (Str × V)} {dvs : List V} {sp : Sp} {x : Str} {p pos : Pos} {e : Expr} {es : List Expr} {t : TA} (h : Ck X.prog X.w X.K X.mg X.base CX k x st ps kwd sp) (hb : ∀ f fd, FunD X.K x x (defArgs st) (defBody st) (defScope st) [] kwd f fd → ∃ ds, Vals dvs ds ∧ Binds X.K fd ps ds) (hr : Room k X.A) (hg : Gl X x) (hx : Passes CX X E) (ha : PA X (e :: es) t)
    (hdb : (x == ("__debug__" : Str)) = false := by decide) (he : starEach (e :: es) X.env = (false, eval e X.env) :: starEach es X.env := by rfl) (hpl : (backTo pos (starEach es X.env)).any (·.1) = false := by rfl) : PE X (.Call (.Name x p) (e :: es) [] pos) (tCall sp dvs E t) := by
  obtain ⟨f, fd, F, D⟩ := h.ex
  obtain ⟨ds, hv, hb⟩ := hb f fd D.D
  exact pe_call F hr hg D.g D.F.kp hb hv hx ha hdb he hpl
end Wy

namespace Dl
open PySem PySem.Spec PyProof.Rows L2
/-! ### tuple * n -/
theorem tuple_mul1 (l : Addr) (items : Array Value) (n : Nat) (dd : Option Addr) (sl : Array (Option Value)) (u : Tok) :
    Meets (Builtin.«tuple.__mul__» ⟨[.ref l, .int 1 u], []⟩) (fun _ R s => s.heap.get? l = some { cls := .type "tuple", dict := dd, data := .seq items n, slots := sl } ∧ R (.ok (.ret (Value.ref l))) s) :=
  .of_wp fun prog w A R s h => by
    obtain ⟨hp, g, d, tk, os⟩ := s
    obtain ⟨hl, h⟩ := h
    have f1 := AutoSeq1.idx_int
    wp_walk using wpAny_loadPart' hl
    repeat (first
      | (refine wpAny_ite_false (decide_eq_false (by decide)) ?_; wp_walk using wpAny_loadPart' hl)
      | (refine wpAny_ite_true (decide_eq_true (by simp)) ?_; wp_walk using wpAny_loadPart' hl))
    exact ⟨_, rfl, h⟩
def rRepT1 (K : PySem.W.Frag) : R2 := fun x y H Q => ∃ l xs, x = .ref l ∧ y = .int 1 ∧ SqT K H l xs ∧ Q (.ref l) H
theorem op_repT1 {X : Cx} : OpR X (binaryOp .Mult) (rRepT1 X.K) := by
  intro pins s σ H x y v u Q I rx ry h
  obtain ⟨l, xs, rfl, rfl, hT, q⟩ := h
  cases rx
  obtain ⟨t, rfl⟩ := ry
  obtain ⟨its, r, ⟨⟨cls, dd, data, sl⟩, ho, hc, n, hd⟩, hs⟩ := I.tuple hT
  simp only at hc hd
  subst hc hd
  refine wpAny_binaryOp_repeat_ref (T := "tuple") (U := "int") (by decide) ⟨_, ho, rfl⟩ (fun s' => typeIs_int s' 1 t) noFill_tuple_mul F.fills_int_mul F.slot_int_rmul repeat_tuple F.slot_int_index.lookup
    (call_meets F.slot_int_rmul (typeIs_int s 1 t) F.entry_int_rmul (F.args_int_rmul_2 _ _) (int_rmul_tuple 1 t l its.toArray n dd sl)
      ⟨ho, rfl, ⟨_, ho, rfl⟩, call_meets F.slot_tuple_mul ⟨_, ho, rfl⟩ F.entry_tuple_mul (F.args_tuple_mul_2 _ _) (tuple_mul1 l its.toArray n dd sl t) ⟨ho, ?_⟩⟩)
  exact ⟨.ref l, H, I, rfl, q⟩
def rRepTX (K : PySem.W.Frag) : R2 := fun x y H Q => rRepT1 K x y H Q ∨ rRepT K x y H Q
theorem op_repTX {X : Cx} {K : PySem.W.Frag} (h : X.K = K) : OpR X (binaryOp .Mult) (rRepTX K) := by
  subst h
  exact op_repT1.or op_repT
def fRepT : Sl → Sl → (Sl → Prop) → Prop := fun s u Qd => match s, u with
  | .d (.tuple xs), .d (.int k) => xs ≠ [] ∧ 1 ≤ k ∧ k ≤ 1000 ∧ xs.length ≤ 1000 ∧ Qd (.d (.tuple (List.replicate k.toNat xs).flatten))
  | _, _ => False
section
variable {K : PySem.W.Frag} {τ : List (Addr × Str)} {E : XK}
instance : Ref2 K (rRepTX K) fRepT := ⟨fun W A H0 H x y s u Qd Q b f i rx ry h w => by
  unfold fRepT at h
  split at h
  · rename_i xs k
    obtain ⟨ne, h1, h2, h3, q⟩ := h
    have rx' : Rp K A H x (.tuple xs) := rx
    obtain ⟨p, vs, rfl, sq, r⟩ := Rp.tup_ rx'
    obtain rfl := ry.flat (u := .int k) rfl
    by_cases e : k = 1
    · subst e
      refine .inl ⟨p, vs, rfl, rfl, sq, w _ H (.d _) (Fr.refl H) i rx' ?_⟩
      have e : (List.replicate (1 : Int).toNat xs).flatten = xs := by
        show (List.replicate 1 xs).flatten = xs
        simp
      rw [e] at q
      exact q
    · refine .inr ⟨p, k, vs, rfl, rfl, sq, fun z => ne ?_, by omega, h2, by rw [r.length]; exact h3, Want.tup (b.fr f i) w (r.rep _) q⟩
      rw [z] at r
      cases r
      rfl
  · exact h.elim⟩
theorem fRepT_c {xs : List PyData} {k : Int} {Qd : Sl → Prop} : fRepT (.d (.tuple xs)) (.d (.int k)) Qd = (xs ≠ [] ∧ 1 ≤ k ∧ k ≤ 1000 ∧ xs.length ≤ 1000 ∧ Qd (.d (.tuple (List.replicate k.toNat xs).flatten))) := propext Iff.rfl
theorem rep_one (x : PyData) : ∀ n : Nat, (List.replicate n [x]).flatten = List.replicate n x
  | 0 => rfl
  | n + 1 => by
    rw [List.replicate_succ, List.flatten_cons, rep_one x n]
    rfl
/-! ### is, is not of truths -/
def fIsB (neg : Bool) : Sl → Sl → (Sl → Prop) → Prop := fun s u Qd => match s, u with
  | .d (.bool a), .d (.bool b) => Qd (.d (.bool (if neg then !decide (a = b) else decide (a = b))))
  | _, _ => False
instance : Ref2 K rIsB (fIsB false) := ⟨fun W A H0 H x y s u Qd Q b f i rx ry h w => by
  unfold fIsB at h
  split at h
  · rename_i a c
    exact ⟨a, c, rx.flat (u := .bl a) rfl, ry.flat (u := .bl c) rfl, w.here i _ h⟩
  · exact h.elim⟩
instance : Ref2 K rNotB (fIsB true) := ⟨fun W A H0 H x y s u Qd Q b f i rx ry h w => by
  unfold fIsB at h
  split at h
  · rename_i a c
    exact ⟨a, c, rx.flat (u := .bl a) rfl, ry.flat (u := .bl c) rfl, w.here i _ h⟩
  · exact h.elim⟩
theorem fIsB_c {neg a b : Bool} {Qd : Sl → Prop} : fIsB neg (.d (.bool a)) (.d (.bool b)) Qd = Qd (.d (.bool (if neg then !decide (a = b) else decide (a = b)))) := propext Iff.rfl
/-! ### x or y, x and y as values -/
theorem tru_go {W : Wld τ} {A : Addr → Prop} {H0 H : Hp} {v : V} {s : Sl} {b : Bool} (bs : Bs W A H0) (r1 : VlR K W A H0 H v s) (eb : truD s = some b) : TruV K v H b := by
  have sq : ∀ xs : List PyData, s.seq = some xs → b = (!xs.isEmpty) → TruV K v H b := fun xs e1 e2 => by
    obtain ⟨p, vs, rfl, sq, r⟩ := r1.seq bs e1
    exact .inl ⟨vs, sqLA_sq sq, by rw [e2, r.empty]⟩
  cases s with
  | d x =>
    cases x with
    | none =>
      obtain rfl := r1.flat (u := .non) rfl
      exact (Option.some.inj eb).symm
    | bool c =>
      obtain rfl := r1.flat (u := .bl c) rfl
      exact (Option.some.inj eb).symm
    | int c =>
      obtain rfl := r1.flat (u := .int c) rfl
      exact (Option.some.inj eb).symm
    | list xs => exact sq xs rfl (Option.some.inj eb).symm
    | tuple xs =>
      obtain ⟨p, vs, rfl, s2, r⟩ := Rp.tup_ r1
      exact .inr (.inl ⟨vs, s2, by rw [← Option.some.inj eb, r.empty]⟩)
    | str x => cases eb
    | dict x => cases eb
  | ml xs => exact sq xs rfl (Option.some.inj eb).symm
  | bl xs => exact sq xs rfl (Option.some.inj eb).symm
  | _ => cases eb
def orTK (fb : TD) (ρ : List Sl) (Qd : Sl → Prop) (R : Er → Prop) : Sl → Prop := fun s => match truD s with
  | some true => Qd s
  | some false => fb ρ Qd R
  | none => False
def andTK (fb : TD) (ρ : List Sl) (Qd : Sl → Prop) (R : Er → Prop) : Sl → Prop := fun s => match truD s with
  | some true => fb ρ Qd R
  | some false => Qd s
  | none => False
def dOrT (fa fb : TD) : TD := fun ρ Qd R => fa ρ (orTK fb ρ Qd R) R
def dAndT (fa fb : TD) : TD := fun ρ Qd R => fa ρ (andTK fb ρ Qd R) R
instance {ta tb : TE} {fa fb : TD} [ha : RefE K τ E ta fa] [hb : RefE K τ E tb fb] : RefE K τ E (tOrT K ta tb) (dOrT fa fb) := ⟨fun W A H σ ρ Qd R Q a h w => by
  refine ha.go W A H σ ρ _ R _ a h fun v H1 s f1 i1 r1 q1 => ?_
  unfold orTK at q1
  split at q1
  · rename_i e
    exact ⟨true, tru_go a.bs r1 e, iteT (w v H1 s f1 i1 r1 q1)⟩
  · rename_i e
    exact ⟨false, tru_go a.bs r1 e, iteF (hb.go W A H1 σ ρ Qd R Q (a.fr f1 i1) q1 (w.back f1))⟩
  · exact q1.elim⟩
instance {ta tb : TE} {fa fb : TD} [ha : RefE K τ E ta fa] [hb : RefE K τ E tb fb] : RefE K τ E (tAndT K ta tb) (dAndT fa fb) := ⟨fun W A H σ ρ Qd R Q a h w => by
  refine ha.go W A H σ ρ _ R _ a h fun v H1 s f1 i1 r1 q1 => ?_
  unfold andTK at q1
  split at q1
  · rename_i e
    exact ⟨true, tru_go a.bs r1 e, iteT (hb.go W A H1 σ ρ Qd R Q (a.fr f1 i1) q1 (w.back f1))⟩
  · rename_i e
    exact ⟨false, tru_go a.bs r1 e, iteF (w v H1 s f1 i1 r1 q1)⟩
  · exact q1.elim⟩
theorem pe_orTK {X : Cx} {a b : Expr} {ta tb : TE} {rest : List Expr} {pos : Pos} {K : PySem.W.Frag} (h : X.K = K) (ha : PE X a ta) (hb : PE X (.BoolOp .Or (b :: rest) pos) tb) : PE X (.BoolOp .Or (a :: b :: rest) pos) (tOrT K ta tb) := by
  subst h
  exact pe_orT ha hb
theorem pe_andTK {X : Cx} {a b : Expr} {ta tb : TE} {rest : List Expr} {pos : Pos} {K : PySem.W.Frag} (h : X.K = K) (ha : PE X a ta) (hb : PE X (.BoolOp .And (b :: rest) pos) tb) : PE X (.BoolOp .And (a :: b :: rest) pos) (tAndT K ta tb) := by
  subst h
  exact pe_andT ha hb
variable {ρ : List Sl} {R : Er → Prop} {Qd : Sl → Prop} {fa fb : TD}
theorem dOrT_c : dOrT fa fb ρ Qd R = fa ρ (orTK fb ρ Qd R) R := propext Iff.rfl
theorem dAndT_c : dAndT fa fb ρ Qd R = fa ρ (andTK fb ρ Qd R) R := propext Iff.rfl
theorem orTK_n : orTK fb ρ Qd R (.d .none) = fb ρ Qd R := propext Iff.rfl
theorem orTK_i {i : Int} (h1 : i ≠ 0 → Qd (.d (.int i))) (h2 : i = 0 → fb ρ Qd R) : orTK fb ρ Qd R (.d (.int i)) := by
  unfold orTK
  show (match some (i != 0) with
    | some true => Qd (.d (.int i))
    | some false => fb ρ Qd R
    | none => False)
  by_cases h : i = 0
  · subst h
    exact h2 rfl
  · rw [bne_iff_ne.mpr h]
    exact h1 h
end
end Dl

namespace Dl
open PySem PySem.Spec PyProof.Rows L2
/-! ### texts -/
abbrev TMr := V → List V → Hp → VK → Prop
abbrev FMr := Sl → List Sl → (Sl → Prop) → Prop
class RefM (K : PySem.W.Frag) (r : TMr) (f : outParam FMr) : Prop where
  go : ∀ {τ : List (Addr × Str)} (W : Wld τ) (A : Addr → Prop) (H0 H : Hp) (x : V) (xs : List V) (s : Sl) (ss : List Sl) (Qd : Sl → Prop) (Q : VK), Bs W A H0 → Fr W.B H0 H → W.I H → VlR K W A H0 H x s → VlsR K W A H0 H xs ss → f s ss Qd → Want K W A H Qd Q → r x xs H Q
def isStr : Sl → Prop
  | .d (.str _) => True
  | _ => False
theorem isStr_v {K : PySem.W.Frag} {W : Wld τ} {A : Addr → Prop} {H0 H : Hp} {v : V} {s : Sl} (h : isStr s) (r : VlR K W A H0 H v s) : ∃ a, v = .str a := by
  unfold isStr at h
  split at h
  · rename_i x
    exact ⟨x, r.flat (u := .str x) rfl⟩
  · exact h.elim
section
variable {K : PySem.W.Frag} {τ : List (Addr × Str)} {E : XK}
def dM0 (f : FMr) (fo : TD) : TD := fun ρ Qd R => fo ρ (fun s => isStr s ∧ f s [] Qd) R
def dM1 (f : FMr) (fo fe : TD) : TD := fun ρ Qd R => fo ρ (fun s => isStr s ∧ fe ρ (fun u => f s [u] Qd) R) R
instance {r : TMr} {f : FMr} {to : TE} {fo : TD} [ho : RefE K τ E to fo] [hr : RefM K r f] : RefE K τ E (tM0 r to) (dM0 f fo) := ⟨fun W A H σ ρ Qd R Q a h w => by
  refine ho.go W A H σ ρ _ R _ a h fun v H1 s f1 i1 r1 q1 => ?_
  exact ⟨isStr_v q1.1 r1, hr.go W A H H1 v [] s [] Qd Q a.bs f1 i1 r1 .nil q1.2 (w.back f1)⟩⟩
instance {r : TMr} {f : FMr} {to te : TE} {fo fe : TD} [ho : RefE K τ E to fo] [he : RefE K τ E te fe] [hr : RefM K r f] : RefE K τ E (tM1 r to te) (dM1 f fo fe) := ⟨fun W A H σ ρ Qd R Q a h w => by
  refine ho.go W A H σ ρ _ R _ a h fun v H1 s f1 i1 r1 q1 => ?_
  refine ⟨isStr_v q1.1 r1, ?_⟩
  refine he.go W A H1 σ ρ _ R _ (a.fr f1 i1) q1.2 fun u H2 s2 f2 i2 r2 q2 => ?_
  exact hr.go W A H H2 v [u] s [s2] Qd Q a.bs (f1.trans f2) i2 (r1.fr a.bs f2) (.cons (r2.early f1) .nil) q2 (w.back (f1.trans f2))⟩
/-- sep.join(list of texts) -/
def rJoin (K : PySem.W.Frag) : TMr := fun x xs H Q => ∃ a p, ∃ ys : List Str, x = .str a ∧ xs = [.ref p] ∧ (SqL K H p (ys.map V.str) ∨ SqT K H p (ys.map V.str)) ∧ (ys.map (·.length)).sum + ys.length * a.length ≤ 16777216 ∧ Q (.str (Txt.join a ys)) H
theorem pe_joinK {X : Cx} {K : PySem.W.Frag} {o e : Expr} {to te : TE} {apos pos : Pos} (h : X.K = K) (ho : PE X o to) (he : PE X e te) (hs : starEach [e] X.env = [(false, eval e X.env)] := by rfl) (hbase : attributeBase o "join" X.env (eval o X.env) = eval o X.env := by rfl) (hline : (apos.endLine == pos.line) = true := by rfl) : PE X (.Call (.Attribute o "join" apos) [e] [] pos) (tM1 (rJoin K) to te) := by
  subst h
  exact pe_join ho he hs hbase hline
def joinK (Qd : Sl → Prop) (a : Str) : Option (List Str) → Prop := fun o => match o with
  | some ys => (ys.map (·.length)).sum + ys.length * a.length ≤ 16777216 ∧ Qd (.d (.str (Txt.join a ys)))
  | none => False
def fJoin : FMr := fun s ss Qd => match s, ss with
  | .d (.str a), [u] => joinK Qd a (u.sq.bind (oAll dstr))
  | _, _ => False
instance : RefM K (rJoin K) fJoin := ⟨fun W A H0 H x xs s ss Qd Q b f i rx rs h w => by
  unfold fJoin at h
  split at h
  · rename_i a u
    obtain rfl := rx.flat (u := .str a) rfl
    obtain ⟨v, rfl, r⟩ := vlsr1 rs
    unfold joinK at h
    split at h
    · rename_i ys ey
      obtain ⟨ds, e1, e2⟩ := Option.bind_eq_some_iff.mp ey
      obtain ⟨p, vs, rfl, sq, r⟩ := r.sq b i e1
      rw [oAll_map dstr_eq e2] at r
      have z := r.strs
      subst z
      exact ⟨a, p, ys, rfl, rfl, sq, h.1, w.here i _ h.2⟩
    · exact h.elim
  · exact h.elim⟩
theorem fJoin_m {a : Str} {ys : List Str} {Qd : Sl → Prop} (hz : (ys.map (·.length)).sum + ys.length * a.length ≤ 16777216) (h : Qd (.d (.str (Txt.join a ys)))) : fJoin (.d (.str a)) [.ml (ys.map PyData.str)] Qd := by
  show joinK Qd a (oAll dstr (ys.map PyData.str))
  rw [strs_of]
  exact ⟨hz, h⟩
theorem fJoin_b {a : Str} {ys : List Str} {Qd : Sl → Prop} (hz : (ys.map (·.length)).sum + ys.length * a.length ≤ 16777216) (h : Qd (.d (.str (Txt.join a ys)))) : fJoin (.d (.str a)) [.bl (ys.map PyData.str)] Qd := by
  show joinK Qd a (oAll dstr (ys.map PyData.str))
  rw [strs_of]
  exact ⟨hz, h⟩
/-- x.split(sep) -/
def rSplit : TMr := fun x xs H Q => ∃ a b, x = .str a ∧ xs = [.str b] ∧ (b.length == 0) = false ∧ a.length + 2 ≤ sizeLine ∧ rNewStrs (Txt.split a b) H Q
theorem pe_splitK {X : Cx} {o e : Expr} {to te : TE} {apos pos : Pos} (ho : PE X o to) (he : PE X e te) (hs : starEach [e] X.env = [(false, eval e X.env)] := by rfl) (hbase : attributeBase o "split" X.env (eval o X.env) = eval o X.env := by rfl) (hline : (apos.endLine == pos.line) = true := by rfl) : PE X (.Call (.Attribute o "split" apos) [e] [] pos) (tM1 rSplit to te) := pe_split ho he hs hbase hline
def fSplit : FMr := fun s ss Qd => match s, ss with
  | .d (.str a), [.d (.str b)] => (b.length == 0) = false ∧ a.length + 2 ≤ sizeLine ∧ Qd (.ml ((Txt.split a b).map PyData.str))
  | _, _ => False
instance : RefM K rSplit fSplit := ⟨fun W A H0 H x xs s ss Qd Q b f i rx rs h w => by
  unfold fSplit at h
  split at h
  · rename_i a c
    obtain rfl := rx.flat (u := .str a) rfl
    obtain ⟨v, rfl, r⟩ := vlsr1 rs
    obtain rfl := r.flat (u := .str c) rfl
    exact ⟨a, c, rfl, rfl, h.1, h.2.1, fun p n => Want.lst (b.fr f i) w (.of_strs _) h.2.2 p n⟩
  · exact h.elim⟩
/-- questions -/
def rDigit : TMr := fun x xs H Q => ∃ a, x = .str a ∧ xs = [] ∧ True ∧ Q (.bl (Txt.isdigit a)) H
def rAscii : TMr := fun x xs H Q => ∃ a, x = .str a ∧ xs = [] ∧ True ∧ Q (.bl (Txt.isascii a)) H
def rStarts : TMr := fun x xs H Q => ∃ a b, x = .str a ∧ xs = [.str b] ∧ Q (.bl (Txt.startswith a b)) H
theorem pe_isdigit {X : Cx} {o : Expr} {to : TE} {apos pos : Pos} (ho : PE X o to) (hbase : attributeBase o "isdigit" X.env (eval o X.env) = eval o X.env := by rfl) (hline : (apos.endLine == pos.line) = true := by rfl) : PE X (.Call (.Attribute o "isdigit" apos) [] [] pos) (tM0 rDigit to) := pe_m0 F.slot_str_isdigit F.type_str_isdigit mt_isdigit ho hbase hline
theorem pe_isascii {X : Cx} {o : Expr} {to : TE} {apos pos : Pos} (ho : PE X o to) (hbase : attributeBase o "isascii" X.env (eval o X.env) = eval o X.env := by rfl) (hline : (apos.endLine == pos.line) = true := by rfl) : PE X (.Call (.Attribute o "isascii" apos) [] [] pos) (tM0 rAscii to) := pe_m0 F.slot_str_isascii F.type_str_isascii mt_isascii ho hbase hline
theorem pe_startswith {X : Cx} {o e : Expr} {to te : TE} {apos pos : Pos} (ho : PE X o to) (he : PE X e te) (hs : starEach [e] X.env = [(false, eval e X.env)] := by rfl) (hbase : attributeBase o "startswith" X.env (eval o X.env) = eval o X.env := by rfl) (hline : (apos.endLine == pos.line) = true := by rfl) : PE X (.Call (.Attribute o "startswith" apos) [e] [] pos) (tM1 rStarts to te) := pe_m1 F.slot_str_startswith F.type_str_startswith mt_startswith ho he hs hbase hline
def fQ0 (g : Str → Bool) : FMr := fun s ss Qd => match s, ss with
  | .d (.str a), [] => Qd (.d (.bool (g a)))
  | _, _ => False
def fQ1 (g : Str → Str → Bool) : FMr := fun s ss Qd => match s, ss with
  | .d (.str a), [.d (.str b)] => Qd (.d (.bool (g a b)))
  | _, _ => False
instance : RefM K rDigit (fQ0 Txt.isdigit) := ⟨fun W A H0 H x xs s ss Qd Q b f i rx rs h w => by
  unfold fQ0 at h
  split at h
  · rename_i a
    obtain rfl := rx.flat (u := .str a) rfl
    cases rs
    exact ⟨a, rfl, rfl, trivial, w.here i _ h⟩
  · exact h.elim⟩
instance : RefM K rAscii (fQ0 Txt.isascii) := ⟨fun W A H0 H x xs s ss Qd Q b f i rx rs h w => by
  unfold fQ0 at h
  split at h
  · rename_i a
    obtain rfl := rx.flat (u := .str a) rfl
    cases rs
    exact ⟨a, rfl, rfl, trivial, w.here i _ h⟩
  · exact h.elim⟩
instance : RefM K rStarts (fQ1 Txt.startswith) := ⟨fun W A H0 H x xs s ss Qd Q b f i rx rs h w => by
  unfold fQ1 at h
  split at h
  · rename_i a c
    obtain rfl := rx.flat (u := .str a) rfl
    obtain ⟨v, rfl, r⟩ := vlsr1 rs
    obtain rfl := r.flat (u := .str c) rfl
    exact ⟨a, c, rfl, rfl, w.here i _ h⟩
  · exact h.elim⟩
/-- int(text) -/
def fIntS : List Sl → (Sl → Prop) → Prop := fun ss Qd => match ss with
  | [.d (.str a)] => (match PySem.intText? a with
    | some n => a.length ≤ 640 ∧ Qd (.d (.int n))
    | none => False)
  | _ => False
instance : RefC K (fun xs H Q => ∃ a n, xs = [.str a] ∧ PySem.intText? a = some n ∧ a.length ≤ 640 ∧ Q (.int n) H) fIntS := ⟨fun W A H0 H xs ss Qd Q b f i rx h w => by
  unfold fIntS at h
  split at h
  · rename_i a
    obtain ⟨v, rfl, r⟩ := vlsr1 rx
    obtain rfl := r.flat (u := .str a) rfl
    split at h
    · rename_i n en
      exact ⟨a, n, rfl, en, h.1, w.here i _ h.2⟩
    · exact h.elim
  · exact h.elim⟩
variable {ρ : List Sl} {R : Er → Prop} {Qd : Sl → Prop} {fo fe : TD} {f : FMr} {a b : Str} {g : Str → Bool} {g2 : Str → Str → Bool} {n : Int}
theorem fIntS_i (e : PySem.intText? a = some n) (hl : a.length ≤ 640) (h : Qd (.d (.int n))) : fIntS [.d (.str a)] Qd := by
  show (match PySem.intText? a with
    | some n => a.length ≤ 640 ∧ Qd (.d (.int n))
    | none => False)
  rw [e]
  exact ⟨hl, h⟩
theorem dM0_c : dM0 f fo ρ Qd R = fo ρ (fun s => isStr s ∧ f s [] Qd) R := propext Iff.rfl
theorem dM1_c : dM1 f fo fe ρ Qd R = fo ρ (fun s => isStr s ∧ fe ρ (fun u => f s [u] Qd) R) R := propext Iff.rfl
theorem isStr_c : isStr (.d (.str a)) = True := propext Iff.rfl
theorem fQ0_c : fQ0 g (.d (.str a)) [] Qd = Qd (.d (.bool (g a))) := propext Iff.rfl
theorem fQ1_c : fQ1 g2 (.d (.str a)) [.d (.str b)] Qd = Qd (.d (.bool (g2 a b))) := propext Iff.rfl
theorem fSplit_c : fSplit (.d (.str a)) [.d (.str b)] Qd = ((b.length == 0) = false ∧ a.length + 2 ≤ sizeLine ∧ Qd (.ml ((Txt.split a b).map PyData.str))) := propext Iff.rfl
theorem fLenS_c : fLenS [.d (.str a)] Qd = (a.length ≤ sizeLine ∧ Qd (.d (.int a.length))) := propext Iff.rfl
/-- what cannot be come to -/
theorem ps_no {X : Cx} {st : Stmt} : PS X st (fun _ _ _ => False) := ⟨fun _ _ _ _ _ _ h => h.elim⟩

/-! ### numbers that words write -/
def figD (most : Int) (a : Str) : PyData := if decide (most < (a.length : Int)) || !(Txt.isascii a) || !(Txt.isdigit a) then .none else if Txt.startswith a "0" && !(a == ("0" : Str)) then .none else match PySem.intText? a with
  | some n => .int n
  | none => .none
theorem digit_ascii : ∀ c : Nat, c < 128 → Unicode.isDigit c = true → 48 ≤ c ∧ c ≤ 57 := by decide +kernel
theorem fig_int {a : Str} (h1 : Txt.isascii a = true) (h2 : Txt.isdigit a = true) (hl : a.length ≤ 4300) : ∃ n : Nat, PySem.intText? a = some (n : Int) := by
  unfold Txt.isascii at h1
  unfold Txt.isdigit at h2
  rw [Bool.and_eq_true] at h2
  refine ⟨_, PySem.intText_digits (x := a) (fun c hc => ?_) (fun e => ?_) hl⟩
  · have hm : c ∈ a.cps := by simpa using hc
    exact digit_ascii c (by simpa using Array.all_eq_true'.mp h1 c hm) (by simpa using Array.all_eq_true'.mp h2.2 c hm)
  · have hz : a.length = 0 := by
      show a.cps.size = 0
      rw [← Array.length_toList, e]
      rfl
    rw [hz] at h2
    simp at h2
end
end Dl

namespace Dl
open PySem PySem.Spec PyProof.Rows L2
/-! ### enumerate(list, start=k) -/
/-- the list at a as it stands, its items in new pairs with numbers from k on -/
def ItS (K : PySem.W.Frag) (a : Addr) (k : Int) : It :=
  ⟨fun i H => ∃ (xs : List V) (x : V), SqL K H a xs ∧ xs[i]? = some x,
    fun i H v G => ∃ T x, v = .ref T ∧ H T = none ∧ G = upd H T (.tup [.int (k + (i : Int)), x]) ∧ ∀ xs, SqL K H a xs → xs[i]? = some x,
    fun i H => ∃ xs : List V, SqL K H a xs ∧ xs.length ≤ i⟩
theorem turn_enumS {P : Program} {w : World} {K : PySem.W.Frag} {elts : List Expr} {kk : Nat} {tp : Pos} (k : Int) (a e it : Addr) (hae : e ≠ a) (hai : a ≠ it) :
    Turn P w K (.Tuple elts kk tp) (ItS K a k) [e, it] e (fun i h => (∃ old, IsEnum h e it (k + (i : Int)) old) ∧ h.IsListIter it a i ∧ e ≠ it) where
  mem := List.mem_cons_self
  obj := fun i h st b hb => by
    obtain ⟨⟨old, he⟩, ⟨o, ho, hc, hd⟩, _⟩ := st
    rcases List.mem_cons.mp hb with rfl | z
    · exact ⟨_, he, fun v q => nomatch q⟩
    · cases List.mem_singleton.mp z
      exact ⟨o, ho, fun v q => by rw [hd] at q; cases q⟩
  keep := fun i h h' st q => ⟨⟨_, q e List.mem_cons_self _ st.1.choose_spec⟩, st.2.1.at fun o z => q it (by simp) o z, st.2.2⟩
  item := by
    intro X hP hw hK hc i pins s σ H E I hf st hg
    subst hP hw hK
    obtain ⟨⟨old, he⟩, hit, ne⟩ := st
    obtain ⟨xs, x, sq, hx⟩ := hg
    obtain ⟨its, rv, ⟨o, n, ho, hcl, hno, hd⟩, _⟩ := I.list sq
    have hL : s.heap.IsList a its.toArray := ⟨o, ho, hcl, n, hd⟩
    obtain ⟨u, eu, ru⟩ := rv.get hx
    have small : ∀ b ∈ [e, it], b < s.heap.objs.size := fun b hb => by
      rcases List.mem_cons.mp hb with rfl | z
      · exact Heap.lt_size he
      · cases List.mem_singleton.mp z
        obtain ⟨_, q, _⟩ := hit
        exact Heap.lt_size q
    have hi : i < its.toArray.size := by
      rw [List.size_toArray]
      exact (List.getElem?_eq_some_iff.mp eu).1
    refine wpAny_pyNext_enum_itemC (Draws.list (A := X.A.in1) (show X.A.in1.handled = none from I.ok.hd hc) it a hai its.toArray) he ⟨hit, hL⟩ hi ne (fun z => by
      rcases List.mem_cons.mp z with q | q
      · exact ne q
      · exact hae (List.mem_singleton.mp q)) fun y h' tk yP yo yst yT _ keep' => ?_
    have eyu : y = u := by
      have z : its[i]? = some y := by simpa using yP
      exact Option.some.inj (z.symm.trans eu)
    subst eyu
    refine ⟨_, rfl, wpAny_letOwnedTupleGo_enum (s := { s with heap := h', toks := tk + 1 }) yo fun h2 he2 sb => ?_⟩
    have far : ∀ b ∈ [e, it], s.heap.objs.size ≠ b := fun b hb => Nat.ne_of_gt (small b hb)
    have tup : h2.get? s.heap.objs.size = some { cls := .type "tuple", data := .seq #[.int (k + (i : Int)) tk, y] } := (sb.2 _ (far e List.mem_cons_self)).trans yT
    refine ⟨.ref s.heap.objs.size, _, I.turnedNew (t' := tk + 1) (T := s.heap.objs.size) (ob := .tup [.int (k + (i : Int)), x]) (ch := [e, it]) (fun b ob nb q => ?_) hf (Nat.le_refl _) ⟨by show 2 ≤ sizeLine; decide, [.int (k + (i : Int)) tk, y], .cons ⟨_, rfl⟩ (.cons ru .nil), ⟨_, tup, rfl, _, rfl⟩⟩, rfl, ⟨_, x, rfl, I.hok.fresh (Nat.le_refl _), rfl, fun ys hy => by rw [I.list_inj hy sq]; exact hx⟩, ⟨⟨y, ?_⟩, yst.1.at fun o z => (sb.2 it (Ne.symm ne)).trans z, ne⟩, fun b hb => ?_⟩
    · have n1 : b ≠ e := fun z => nb (by simp [z])
      have n2 : b ≠ it := fun z => nb (by simp [z])
      exact (sb.2 b n1).trans (keep' b ob n1 n2 q)
    · rw [show k + ((i + 1 : Nat) : Int) = k + (i : Int) + 1 by omega]
      exact he2
    · rw [upd_ne (Ne.symm (far b hb))]
      exact (hf b hb).1
  done := by
    intro X hP hw hK hc i pins s σ H E I hf st hg
    subst hP hw hK
    obtain ⟨⟨old, he⟩, hit, ne⟩ := st
    obtain ⟨xs, sq, hx⟩ := hg
    obtain ⟨its, rv, ⟨o, n, ho, hcl, hno, hd⟩, _⟩ := I.list sq
    have hL : s.heap.IsList a its.toArray := ⟨o, ho, hcl, n, hd⟩
    obtain ⟨g0, g1, g2, g3, g4, g5⟩ := hf it (by simp)
    have e1 := rv.length
    have T : s.TypeIs (.ref e) "enumerate" := ⟨_, he, rfl⟩
    unfold pyNext
    refine wpAny_bind (wpAny_attempt (wpAny_callSpecial?_slot (name := Str.ofString "__next__") T F.slot_enumerate_next (wpAny_call_entry F.slot_enumerate_next T F.entry_enumerate_next ?_ (F.args_enumerate_next_1 _))))
    show wpAny _ _ (PySem.field (.ref e) 2 >>= _) _ _ _
    refine wpAny_bind (wpAny_field he rfl (x := .ref it) rfl ?_)
    refine wpAny_bind (wpAny_nextOf_list_end (I.ok.hd hc) hit hL (by simp; omega) fun h' x eb ⟨ob, hob, cob⟩ => ?_)
    exact wpAny_bind (wpAny_isInstance (T := "StopIteration") (b := true) ⟨ob, hob, cob⟩ isSubtype_stop (wpAny_pure ⟨rfl, I.turned (t' := s.toks) (fun b o hb q => eb b o hb q) g0 g1 g3 g4 g5⟩))
  self := fun A i s Q E st h => wpAny_pyIter_enum st.1.choose_spec h
def iEnS (K : PySem.W.Frag) (k : Int) (ta : TA) : TI := fun σ H R => ta σ H fun vs G => ∃ a xs, vs = [.ref a] ∧ SqL K G a xs ∧ R (ItS K a k) G
/-- a call of a class with keywords -/
theorem callWith_tkw {M : Model} {A : Around} {E : Value → Shared → Prop} {s : Shared} {env : Env} {pos : Pos} {T : String} {e : Expr} {kws : List Keyword} {Q : Value → Shared → Prop}
    (h : wpAny M A (spliced (backTo pos (starEach [e] env))) (fun vs s₁ => wpAny M A (evalAll ((backToKw pos (keywordEach kws env)).map (·.2))) (fun ks s₂ => wpAny M A (call (.type T) vs (((backToKw pos (keywordEach kws env)).filterMap (·.1)).zip ks)) Q E s₂) E s₁) E s)
    (he : backTo pos (starEach [e] env) = (false, eval e env) :: backTo pos (starEach [] env)) (ha : (backTo pos (starEach [e] env)).any (·.1) = false) (hall : (backToKw pos (keywordEach kws env)).all (·.1.isSome) = true) (hn : (backToKw pos (keywordEach kws env)).any (·.1.isNone) = false) :
    wpAny M A (callWith pos (.type T) [] (backTo pos (starEach [e] env)) (backToKw pos (keywordEach kws env))) Q E s := by
  have h2 : wpAny M A (evalArgs (.type T) true (backTo pos (starEach [e] env)) (backToKw pos (keywordEach kws env))) (fun a s₁ => wpAny M A (call (.type T) a.pos a.kw) Q E s₁) E s := by
    rw [he] at h ⊢
    exact evalArgs_kwB hall h
  unfold callWith
  refine wpAny_bind (wpAny_holding (wpAny_mono h2 (fun x t hx => wpAny_bind (wpAny_standAt ?_)) fun _ _ z => z))
  rw [ha, hn]
  exact wpAny_bind (wpAny_pure (wpAny_bind (wpAny_mono hx (fun r u hr => wpAny_bind (wpAny_holding (wpAny_point (wpAny_pure hr)))) fun _ _ z => z)))
theorem pi_enumS {X : Cx} {K : PySem.W.Frag} {e ek : Expr} {ta : TA} {p pos tp kp : Pos} {elts : List Expr} {kk : Nat} {k : Int} (hK : X.K = K) (h0 : -(2 ^ 63) ≤ k) (h1 : k < 2 ^ 63) (ge : Gl X "enumerate") (me : X.mg "enumerate" = none) (ha : PA X [e] ta) (hk : PE X ek (tC (.int k)))
    (he : backTo pos (starEach [e] X.env) = (false, eval e X.env) :: backTo pos (starEach [] X.env) := by rfl) (hp : (backTo pos (starEach [e] X.env)).any (·.1) = false := by rfl) :
    PI X (.Tuple elts kk tp) (.Call (.Name "enumerate" p) [e] [⟨some "start", ek, kp⟩] pos) (iEnS K k ta) := by
  subst hK
  refine ⟨fun pins s σ H R I h => ?_⟩
  refine wpAny_Call_Name_kw (ld_blt I ge me boot_enumerate (callWith_tkw (thn (ha.run pos pins s σ H _ I h) fun us t ⟨vs, G, J, rr, hx⟩ => ?_) he hp rfl rfl))
  obtain ⟨a, xs, ex, sq, q⟩ := hx
  subst ex
  refine kws_cons (thn (hk.run pins t σ G (fun x H' => x = .int k ∧ H' = G) J ⟨rfl, rfl⟩) fun v t2 ⟨x, G2, J2, rx, ex, eG⟩ => kws_nil ?_)
  subst ex eG
  obtain ⟨tk, rfl⟩ := rx
  cases rr with
  | cons r r2 =>
    cases r2
    cases r
    obtain ⟨its, rv, ⟨o, n, ho, hcl, hno, hd⟩, _⟩ := J2.list sq
    have hL : t2.heap.IsList a its.toArray := ⟨o, ho, hcl, n, hd⟩
    have lt : a < t2.heap.objs.size := Heap.lt_size ho
    refine enum_begins_start (begins_list a its.toArray) hL h0 h1 fun h' hE hI _ keep' => wpAny_pyIter_enum hE ?_
    refine ⟨t2.heap.objs.size + 1, [t2.heap.objs.size + 1, t2.heap.objs.size], _, _, G2, rfl, J2.kept (t' := t2.toks) keep', turn_enumS k a (t2.heap.objs.size + 1) t2.heap.objs.size (Nat.ne_of_gt (Nat.lt_succ_of_lt lt)) (Nat.ne_of_lt lt), ⟨⟨.none, ?_⟩, ⟨_, hI, rfl, rfl⟩, Nat.succ_ne_self _⟩, fun b hb => ?_, q⟩
    · rw [show k + ((0 : Nat) : Int) = k by omega]
      exact hE
    · have hle : t2.heap.objs.size ≤ b := by
        rcases List.mem_cons.mp hb with rfl | z
        · omega
        · rw [List.mem_singleton.mp z]
          exact Nat.le_refl _
      exact J2.fpOk hle (J2.hok.fresh hle)
/-- by data -/
def enumFrom (k : Int) (xs : List PyData) : List PyData := xs.zipIdx.map fun p => .tuple [.int (k + (p.2 : Int)), p.1]
section
variable {K : PySem.W.Frag} {τ : List (Addr × Str)} {E : XK}
def enSK (k : Int) (Ql : List PyData → Prop) : List Sl → Prop := fun ss => match ss with
  | [s] => (match s.dat with
    | some (.list xs) => Ql (enumFrom k xs)
    | _ => False)
  | _ => False
def iEnSD (k : Int) (fa : TDA) : TDI := fun ρ Qd R => fa ρ (enSK k Qd) R
theorem enumFrom_len (k : Int) (xs : List PyData) : (enumFrom k xs).length = xs.length := by unfold enumFrom; rw [List.length_map, List.length_zipIdx]
theorem enumFrom_get {k : Int} {xs : List PyData} {i : Nat} {d : PyData} (h : (enumFrom k xs)[i]? = some d) : ∃ x, xs[i]? = some x ∧ d = .tuple [.int (k + (i : Int)), x] := by
  unfold enumFrom at h
  rw [List.getElem?_map] at h
  obtain ⟨p, e, rfl⟩ := Option.map_eq_some_iff.mp h
  rw [List.getElem?_zipIdx] at e
  obtain ⟨x, ex, rfl⟩ := Option.map_eq_some_iff.mp e
  exact ⟨x, ex, by simp⟩
instance {k : Int} {t : TA} {f : TDA} [ht : RefA K τ E t f] : RefI K τ E (iEnS K k t) (iEnSD k f) := ⟨fun W A H σ ρ Qd R P a h kq => by
  refine ht.go W A H σ ρ _ R _ a h fun vs H1 ss f1 i1 r1 q => ?_
  unfold enSK at q
  split at q
  · obtain ⟨v, rfl, r⟩ := vlsr1 r1
    split at q
    · rename_i xs ex
      have rp := r.dat a.bs ex
      obtain ⟨p, us, rfl, sq, ra⟩ := rp.lst_
      refine ⟨p, us, rfl, sq, kq (ItS K p k) H1 [some (.ref p)] [.d (.list xs)] (enumFrom k xs) f1 i1 ⟨rfl, fun i s e => ?_⟩ ⟨fun W A H i b g hi => ?_, fun W A H i b g hi => ?_, fun W A H i x H' d b g ed y => ?_⟩ q⟩
      · cases i with
        | zero =>
          cases e
          exact ⟨_, _, rfl, rfl, rp⟩
        | succ i => simp at e
      all_goals
        obtain ⟨v, x0, e1, e2, g1⟩ := g.at_ 0 _ rfl
        cases e1
        cases e2
        obtain ⟨a1, us', e, s2, r2⟩ := g1.lst_
        cases e
      · rw [enumFrom_len] at hi
        obtain ⟨u, eu, _⟩ := r2.get (List.getElem?_eq_getElem hi)
        exact ⟨us', u, s2, eu⟩
      · rw [enumFrom_len] at hi
        exact ⟨us', s2, by rw [r2.length]; exact hi⟩
      · obtain ⟨T, u, rfl, nT, rfl, hx⟩ := y
        obtain ⟨x', ex', rfl⟩ := enumFrom_get ed
        obtain ⟨d1, e1, q1⟩ := r2.getV (hx us' s2)
        rw [ex'] at e1
        cases e1
        exact rp_pair b nT (Rp.int _) q1
    · exact q.elim
  · exact q.elim⟩
variable {ρ : List Sl} {R : Er → Prop} {Ql : List PyData → Prop} {fA : TDA} {k : Int} {xs : List PyData}
theorem iEnSD_c : iEnSD k fA ρ Ql R = fA ρ (enSK k Ql) R := propext Iff.rfl
theorem enSK_m : enSK k Ql [.ml xs] = Ql (enumFrom k xs) := propext Iff.rfl
theorem enSK_d : enSK k Ql [.d (.list xs)] = Ql (enumFrom k xs) := propext Iff.rfl
end
end Dl

namespace Dl
open PySem PySem.Spec PyProof.Rows L2
/-! ### d.setdefault(k, v) != v -/
theorem mt_setd {X : Cx} : MtR X "dict.setdefault" rSetd := by
  intro pins s σ H x xs v us Q I rx rv h
  obtain ⟨a, kvs, k, y, rfl, rfl, ea, hl, w1, w2⟩ := h
  cases rx
  cases rv with
  | cons ry rv =>
    cases rv with
    | cons rd rv =>
      cases rv
      obtain ⟨z, hd, vs0, rel, dd⟩ := dk_of I.hok ea
      refine call_meetsIn PySem.F.slot_dict_setdefault dd.typeIs PySem.F.entry_dict_setdefault (PySem.F.args_dict_setdefault_3 _ _ _) (kt_meets_setdefault (mixKind X.prog X.w) a (kV_is ry) hd _) ⟨vs0, dd, by rw [← rel.length]; exact z, fun u hu => ?_, fun hn h' dd' hs => ?_⟩
      · have rr := rel.val k
        rw [hu] at rr
        cases hv : valV kvs k with
        | none =>
          rw [hv] at rr
          exact rr.elim
        | some x =>
          rw [hv] at rr
          exact ⟨x, H, I.tok _, rr, w1 x hv⟩
      · have rr := rel.val k
        rw [hn] at rr
        cases hv : valV kvs k with
        | some x =>
          rw [hv] at rr
          exact rr.elim
        | none =>
          have fit : (putK kvs k y).length ≤ sizeLine := Nat.le_trans (length_putK kvs k y) hl
          have J := d_write (t' := s.toks + 1) I (by rw [ea]; exact True.intro) hs (Exists.imp (fun _ w => w.choose_spec.choose_spec.1) dd') (dk_new fit hd (rel.put k rd) dd')
          exact ⟨y, _, J, rd, w2 hv⟩
def setdK (i j : Nat) (g h : TDS) (dd : DEnds) (R : Er → Prop) (ρ : List Sl) : Sl → Prop := fun s => match keyOf s, ρ[i]?, ρ[j]? with
  | some k, some (.mo (.dk kvs)), some (.d x) => kvs.length < sizeLine ∧ SeqAt.shaped x = true ∧ (match valD kvs k with
    | some y => SeqAt.shaped y = true ∧ (if PyData.eqv y x = true then h dd R ρ else g dd R ρ)
    | none => PyData.eqv x x = true ∧ h dd R (ρ.set i (.mo (.dk (putD kvs k x)))))
  | _, _, _ => False
def setdB (i j : Nat) (fk : TD) (g h : TDS) (dd : DEnds) (R : Er → Prop) (ρ : List Sl) : Bool → Prop := fun b => match b with
  | true => i ≠ j ∧ (∃ kvs, ρ[i]? = some (.mo (.dk kvs))) ∧ fk ρ (setdK i j g h dd R ρ) R
  | false => h dd R ρ
def dSetdIf (i j : Nat) (fc : TDT) (fk : TD) (g h : TDS) : TDS := fun dd R ρ => fc ρ (setdB i j fk g h dd R ρ) R
section
variable {K : PySem.W.Frag} {τ : List (Addr × Str)} {E : XK}
theorem setdK_i {i j : Nat} {g h : TDS} {dd : DEnds} {R : Er → Prop} {ρ : List Sl} {s : Sl} {k : Key} {kvs : List (Key × PyData)} {x : PyData} (ek : keyOf s = some k) (ei : ρ[i]? = some (.mo (.dk kvs))) (ej : ρ[j]? = some (.d x)) (hl : kvs.length < sizeLine) (sx : SeqAt.shaped x = true)
    (h1 : ∀ y, valD kvs k = some y → SeqAt.shaped y = true ∧ (if PyData.eqv y x = true then h dd R ρ else g dd R ρ)) (h2 : valD kvs k = none → PyData.eqv x x = true ∧ h dd R (ρ.set i (.mo (.dk (putD kvs k x))))) : setdK i j g h dd R ρ s := by
  unfold setdK
  rw [ek, ei, ej]
  refine ⟨hl, sx, ?_⟩
  cases e : valD kvs k with
  | some y => exact h1 y e
  | none => exact h2 e
variable {dd : DEnds} {R : Er → Prop} {ρ : List Sl} {i j : Nat} {fc : TDT} {fk : TD} {g h : TDS}
theorem dSetdIf_c : dSetdIf i j fc fk g h dd R ρ = fc ρ (setdB i j fk g h dd R ρ) R := propext Iff.rfl
theorem setdB_f : setdB i j fk g h dd R ρ false = h dd R ρ := propext Iff.rfl
theorem setdB_t : setdB i j fk g h dd R ρ true = (i ≠ j ∧ (∃ kvs, ρ[i]? = some (.mo (.dk kvs))) ∧ fk ρ (setdK i j g h dd R ρ) R) := propext Iff.rfl
instance {i j : Nat} {c : TT} {tk : TE} {t u : TS} {fc : TDT} {fk : TD} {g h : TDS} [hc : RefT K τ E c fc] [hk : RefE K τ E tk fk] [ht : RefS K τ E t g] [hu : RefS K τ E u h] :
    RefS K τ E (tIfS (tAnd c (tTest (tOp (rNeD K) (tBM K "dict" rSetd (tVar i) (tCons tk (tCons (tVar j) tNil))) (tVar j)))) t u) (dSetdIf i j fc fk g h) := ⟨fun W A0 H0 D dd R H σ ρ gσ gρ b sr er ek q => by
  obtain ⟨W', A, co⟩ := sr
  refine hc.go W' A H σ ρ _ R _ (co.at_ ek) q fun bb H1 f1 i1 q1 => ?_
  have c1 := co.step f1 i1
  cases bb with
  | false => exact iteF (iteF (hu.go W A0 H0 D dd R H1 σ ρ gσ gρ b ⟨W', A, c1⟩ er ek q1))
  | true =>
    obtain ⟨nij, ⟨kvs, ei⟩, q1⟩ := q1
    refine iteT ?_
    obtain ⟨w0, ew, p, ho, rfl, ep, nB, aP, od⟩ := (c1.env.pre c1.lg).at_ _ _ ei
    cases ho with
    | dK ks =>
      refine ⟨.ref p, ew, .inr (.inr (.inl ⟨rfl, .inl ⟨ks, ep⟩⟩)), ?_⟩
      refine hk.go W' A H1 σ ρ _ R _ (c1.at_ ek) q1 fun v H2 s f2 i2 r2 q2 => ?_
      have c2 := c1.step f2 i2
      unfold setdK at q2
      split at q2
      · rename_i k kvs2 x ek2 ei2 ej
        rw [ei] at ei2
        cases ei2
        obtain ⟨hl, sx, q2⟩ := q2
        obtain rfl := key_flat r2 ek2
        obtain ⟨v2, ev2, u2, rfl, rx⟩ := (c2.env.pre c2.lg).at_ _ _ ej
        refine ⟨u2, ev2, ?_⟩
        have ep2 := f2.1 _ _ ep nt_dK nB
        have od2 : OdR K A H2 (.dK ks) (.dk kvs) := od.go (goes_fr c1.bs.ba f2)
        obtain ⟨z1, z2⟩ := od_val k od2.1 od2.2
        refine ⟨p, ks, k, u2, rfl, rfl, ep2, by rw [od_len od.1]; exact hl, fun y hy => ?_, fun hn => ?_⟩
        · cases ed : valD kvs k with
          | none =>
            rw [z1 ed] at hy
            cases hy
          | some d =>
            obtain ⟨y', ey', ry⟩ := z2 d ed
            rw [hy] at ey'
            cases ey'
            rw [ed] at q2
            refine ⟨u2, ev2, d, x, ry.dp (shaped_lay q2.1), rx.dp (shaped_lay sx), q2.1, sx, _, rfl, ?_⟩
            by_cases ee : PyData.eqv d x = true
            · rw [ee]
              have q3 := q2.2
              rw [if_pos ee] at q3
              exact iteF (hu.go W A0 H0 D dd R H2 σ ρ gσ gρ b ⟨W', A, c2⟩ er ek q3)
            · have q3 := q2.2
              rw [if_neg ee] at q3
              rw [show PyData.eqv d x = false from Bool.eq_false_iff.mpr ee]
              exact iteT (ht.go W A0 H0 D dd R H2 σ ρ gσ gρ b ⟨W', A, c2⟩ er ek q3)
        · cases ed : valD kvs k with
          | some d =>
            obtain ⟨y', ey', _⟩ := z2 d ed
            rw [hn] at ey'
            cases ey'
          | none =>
            rw [ed] at q2
            have c3 := c2.mutO (s1 := .mo (.dk (putD kvs k x))) (ho := .dK (putK ks k u2)) ei trivial ew (.dK _) fun g nB aP => ⟨p, _, rfl, upd_same, nB, aP, OdR.go g (show OdR K A H2 (.dK (putK ks k u2)) (.dk (putD kvs k x)) from od_put k rx od2.1 od2.2)⟩
            have ej3 : (ρ.set i (.mo (.dk (putD kvs k x))))[j]? = some (.d x) := by
              rw [List.getElem?_set_ne nij]
              exact ej
            obtain ⟨v3, ev3, u3, e3, rx3⟩ := (c3.env.pre c3.lg).at_ _ _ ej3
            subst e3
            rw [ev2] at ev3
            cases ev3
            refine ⟨u2, ev2, x, x, rx3.dp (shaped_lay sx), rx3.dp (shaped_lay sx), sx, sx, _, rfl, ?_⟩
            rw [q2.1]
            exact iteF (hu.go W A0 H0 D dd R _ σ _ gσ gρ b ⟨W', A, c3⟩ er ek q2.2)
      · exact q2.elim
    | _ => exact od.elim⟩
end
end Dl

namespace Dl
open PySem PySem.Spec PyProof.Rows L2
/-! ### a def that makes lambdas: its promise knows the tables -/
def spDT (K : PySem.W.Frag) (τ : List (Addr × Str)) (sp : SpD) : Sp := fun vs H Q E => ∃ (W : Wld τ) (A : Addr → Prop) (ss : List Sl) (Qd : Sl → Prop) (R : Er → Prop), Bs W A H ∧ VlsR K W A H H vs ss ∧ (∀ s ∈ ss, s.arg) ∧ sp ss Qd R ∧ Want K W A H Qd Q ∧ ErK K W A E H R
section
variable {K : PySem.W.Frag} {τ : List (Addr × Str)} {E : XK}
instance {sp : SpD} {t : TA} {fa : TDA} [ha : RefA K τ E t fa] : RefE K τ E (tCall (spDT K τ sp) [] E0 t) (dCall0 [] sp fa) := ⟨fun W A H σ ρ Qd R Q a h w => by
  refine ha.go W A H σ ρ _ R _ a h fun vs H1 ss f1 i1 r1 q => ?_
  obtain ⟨r2, ar⟩ := r1.cvs a.bs []
  rw [List.append_nil]
  exact ⟨W, A, _, Qd, _, a.bs.fr f1 i1, r2, ar, q, w.back f1, fun er x H' f i z r => r.elim⟩⟩
end
/-! ### () * n -/
theorem tuple_mul0 (l : Addr) (n : Nat) (dd : Option Addr) (sl : Array (Option Value)) (u : Tok) :
    Meets (Builtin.«tuple.__mul__» ⟨[.ref l, .int 2 u], []⟩) (fun _ R s => s.heap.get? l = some { cls := .type "tuple", dict := dd, data := .seq #[] n, slots := sl } ∧ R (.ok (.ret (Value.ref l))) s) :=
  .of_wp fun prog w A R s h => by
    obtain ⟨hp, g, d, tk, os⟩ := s
    obtain ⟨hl, h⟩ := h
    have f1 := AutoSeq1.idx_int
    wp_walk using wpAny_loadPart' hl
    repeat (first
      | (refine wpAny_ite_false (decide_eq_false (by decide)) ?_; wp_walk using wpAny_loadPart' hl)
      | (refine wpAny_ite_true (decide_eq_true (by simp)) ?_; wp_walk using wpAny_loadPart' hl))
    exact ⟨_, rfl, h⟩
def rRepT0 (K : PySem.W.Frag) : R2 := fun x y H Q => ∃ l, x = .ref l ∧ y = .int 2 ∧ SqT K H l [] ∧ Q (.ref l) H
theorem op_repT0 {X : Cx} : OpR X (binaryOp .Mult) (rRepT0 X.K) := by
  intro pins s σ H x y v u Q I rx ry h
  obtain ⟨l, rfl, rfl, hT, q⟩ := h
  cases rx
  obtain ⟨t, rfl⟩ := ry
  obtain ⟨its, r, ⟨⟨cls, dd, data, sl⟩, ho, hc, n, hd⟩, hs⟩ := I.tuple hT
  cases r
  simp only at hc hd
  subst hc hd
  refine wpAny_binaryOp_repeat_ref (T := "tuple") (U := "int") (by decide) ⟨_, ho, rfl⟩ (fun s' => typeIs_int s' 2 t) noFill_tuple_mul F.fills_int_mul F.slot_int_rmul repeat_tuple F.slot_int_index.lookup
    (call_meets F.slot_int_rmul (typeIs_int s 2 t) F.entry_int_rmul (F.args_int_rmul_2 _ _) (int_rmul_tuple 2 t l #[] n dd sl)
      ⟨ho, rfl, ⟨_, ho, rfl⟩, call_meets F.slot_tuple_mul ⟨_, ho, rfl⟩ F.entry_tuple_mul (F.args_tuple_mul_2 _ _) (tuple_mul0 l n dd sl t) ⟨ho, ?_⟩⟩)
  exact ⟨.ref l, H, I, rfl, q⟩
def rRepT2 (K : PySem.W.Frag) : R2 := fun x y H Q => rRepT0 K x y H Q ∨ rRepT K x y H Q
theorem op_repT2 {X : Cx} {K : PySem.W.Frag} (h : X.K = K) : OpR X (binaryOp .Mult) (rRepT2 K) := by
  subst h
  exact op_repT0.or op_repT
/-- a tuple twice -/
def fRepT2 : Sl → Sl → (Sl → Prop) → Prop := fun s u Qd => match s, u with
  | .d (.tuple xs), .d (.int k) => k = 2 ∧ xs.length ≤ 1000 ∧ Qd (.d (.tuple (xs ++ xs)))
  | _, _ => False
instance {K : PySem.W.Frag} : Ref2 K (rRepT2 K) fRepT2 := ⟨fun W A H0 H x y s u Qd Q b f i rx ry h w => by
  unfold fRepT2 at h
  split at h
  · rename_i xs k
    obtain ⟨rfl, h3, q⟩ := h
    have rx' : Rp K A H x (.tuple xs) := rx
    obtain ⟨p, vs, rfl, sq, r⟩ := Rp.tup_ rx'
    obtain rfl := ry.flat (u := .int 2) rfl
    cases xs with
    | nil =>
      cases r
      exact .inl ⟨p, rfl, rfl, sq, w _ H (.d _) (Fr.refl H) i rx' q⟩
    | cons x0 xr =>
      refine .inr ⟨p, 2, vs, rfl, rfl, sq, fun z => ?_, by decide, by decide, by rw [r.length]; exact h3, Want.tup (b.fr f i) w (r.rep _) ?_⟩
      · rw [z] at r
        cases r
      · rw [show (List.replicate (2 : Int).toNat (x0 :: xr)).flatten = (x0 :: xr) ++ (x0 :: xr) from by show (List.replicate 2 (x0 :: xr)).flatten = _; simp]
        exact q
  · exact h.elim⟩
theorem fRepT2_c {xs : List PyData} {k : Int} {Qd : Sl → Prop} : fRepT2 (.d (.tuple xs)) (.d (.int k)) Qd = (k = 2 ∧ xs.length ≤ 1000 ∧ Qd (.d (.tuple (xs ++ xs)))) := propext Iff.rfl
end Dl

namespace Dl
open PySem PySem.Spec PyProof.Rows L2
/-! ### signs of a text -/
def sigD (c : Nat) : PyData := .str ⟨#[c]⟩
def fIxS : Sl → Sl → (Sl → Prop) → Prop := fun s u Qd => match s, u with
  | .d (.str z), .d (.int i) => z.length ≤ sizeLine ∧ ∃ c, atI z.cps.toList i = some c ∧ Qd (.d (sigD c))
  | _, _ => False
def fSlS : Sl → Option Int → Option Int → (Sl → Prop) → Prop := fun s lo hi Qd => match s with
  | .d (.str z) => z.length ≤ sizeLine ∧ Qd (.d (.str (cutS z lo hi)))
  | _ => False
def rSign (neg : Bool) : R2 := fun x y H Q => ∃ (c : Nat) (z : Str), x = .str ⟨#[c]⟩ ∧ y = .str z ∧ Q (.bl (if neg then !decide (c ∈ z.cps.toList) else decide (c ∈ z.cps.toList))) H
theorem op_notSign {X : Cx} : OpR X (compareOp .NotIn) (rSign true) := op_notIn_sign
theorem op_inSign {X : Cx} : OpR X (compareOp .In) (rSign false) := op_in_sign
def fSign (neg : Bool) : Sl → Sl → (Sl → Prop) → Prop := fun s u Qd => match s, u with
  | .d (.str x), .d (.str z) => ∃ c, x = ⟨#[c]⟩ ∧ Qd (.d (.bool (if neg then !decide (c ∈ z.cps.toList) else decide (c ∈ z.cps.toList))))
  | _, _ => False
def strK (Ql : List PyData → Prop) : Sl → Prop := fun s => match s with
  | .d (.str x) => Ql (x.cps.toList.map sigD)
  | _ => False
def iStrD (f : TD) : TDI := fun ρ Ql R => f ρ (strK Ql) R
section
variable {K : PySem.W.Frag} {τ : List (Addr × Str)} {E : XK}
instance : Ref2 K rIxS fIxS := ⟨fun W A H0 H x y s u Qd Q b f i rx ry h w => by
  unfold fIxS at h
  split at h
  · rename_i z j
    obtain ⟨hz, c, e, q⟩ := h
    obtain rfl := rx.flat (u := .str z) rfl
    obtain rfl := ry.flat (u := .int j) rfl
    exact ⟨z, j, c, rfl, rfl, hz, e, w.here i (.str ⟨#[c]⟩) q⟩
  · exact h.elim⟩
instance : RefSl K rSlS fSlS := ⟨fun W A H0 H x s lo hi Qd Q b f i rx h w => by
  unfold fSlS at h
  split at h
  · rename_i z
    obtain ⟨hz, q⟩ := h
    obtain rfl := rx.flat (u := .str z) rfl
    exact ⟨z, rfl, hz, w.here i (.str (cutS z lo hi)) q⟩
  · exact h.elim⟩
instance {neg : Bool} : Ref2 K (rSign neg) (fSign neg) := ⟨fun W A H0 H x y s u Qd Q b f i rx ry h w => by
  unfold fSign at h
  split at h
  · rename_i z1 z2
    obtain ⟨c, rfl, q⟩ := h
    obtain rfl := rx.flat (u := .str ⟨#[c]⟩) rfl
    obtain rfl := ry.flat (u := .str z2) rfl
    exact ⟨c, z2, rfl, rfl, w.here i (.bl _) q⟩
  · exact h.elim⟩
instance {te : TE} {f : TD} [ht : RefE K τ E te f] : RefI K τ E (iStr te) (iStrD f) := ⟨fun W A H σ ρ Qd R P a h kq => by
  refine ht.go W A H σ ρ _ R _ a h fun v H1 s f1 i1 r1 q => ?_
  unfold strK at q
  split at q
  · rename_i x
    obtain rfl := r1.flat (u := .str x) rfl
    refine ⟨x, rfl, kq (Its x) H1 [] [] _ f1 i1 ⟨rfl, fun i s e => by simp at e⟩ ⟨fun W A H i b g hi => ?_, fun W A H i b g hi => ?_, fun W A H i y H' d b g ed z => ?_⟩ q⟩
    · rw [List.length_map, Array.length_toList] at hi
      exact hi
    · rw [List.length_map, Array.length_toList] at hi
      exact hi
    · obtain ⟨rfl, c, ec, rfl⟩ := z
      rw [List.getElem?_map, Array.getElem?_toList, ec] at ed
      cases ed
      exact ⟨fun _ _ e => e, Rp.str _⟩
  · exact q.elim⟩
end
section
variable {neg : Bool} {Qd : Sl → Prop} {Ql : List PyData → Prop} {R : Er → Prop} {ρ : List Sl} {f : TD} {x z : Str} {i : Int} {lo hi : Option Int} {c : Nat}
theorem fIxS_c : fIxS (.d (.str z)) (.d (.int i)) Qd = (z.length ≤ sizeLine ∧ ∃ c, atI z.cps.toList i = some c ∧ Qd (.d (sigD c))) := propext Iff.rfl
theorem fSlS_c : fSlS (.d (.str z)) lo hi Qd = (z.length ≤ sizeLine ∧ Qd (.d (.str (cutS z lo hi)))) := propext Iff.rfl
theorem iStrD_c : iStrD f ρ Ql R = f ρ (strK Ql) R := propext Iff.rfl
theorem strK_c : strK Ql (.d (.str x)) = Ql (x.cps.toList.map sigD) := propext Iff.rfl
end
/-! ### text * n -/
def repS (x : Str) (n : Nat) : Str := ⟨(List.replicate n x.cps).foldl (· ++ ·) #[]⟩
def rRepS : R2 := fun x y H Q => ∃ (a : Str) (n : Int), x = .str a ∧ y = .int n ∧ 2 ≤ n ∧ n ≤ 1000 ∧ 1 ≤ a.length ∧ a.length ≤ 1000 ∧ Q (.str (repS a n.toNat)) H
theorem fold_size (x : Array Nat) : ∀ (n : Nat) (acc : Array Nat), ((List.replicate n x).foldl (· ++ ·) acc).size = acc.size + n * x.size
  | 0, acc => by simp
  | n + 1, acc => by
    rw [List.replicate_succ, List.foldl_cons, fold_size x n, Array.size_append, Nat.succ_mul]
    omega
theorem repS_len (x : Str) (n : Nat) : (repS x n).length = n * x.length := by
  show ((List.replicate n x.cps).foldl (· ++ ·) #[]).size = _
  rw [fold_size]
  exact Nat.zero_add _
theorem op_repS {X : Cx} : OpR X (binaryOp .Mult) rRepS := by
  intro pins s σ H x y v u Q I rx ry h
  obtain ⟨a, n, rfl, rfl, h1, h2, h3, h4, q⟩ := h
  obtain ⟨t, rfl⟩ := rx
  obtain ⟨t2, rfl⟩ := ry
  have small : a.length * n.toNat ≤ 1000000 := Nat.le_trans (Nat.mul_le_mul h4 (show n.toNat ≤ 1000 by omega)) (by decide)
  have e0 : ¬ n < 1 := by omega
  have e1 : (n == 1 || a.length == 0) = false := by
    rw [Bool.or_eq_false_iff]
    exact ⟨beq_eq_false_iff_ne.mpr (by omega), beq_eq_false_iff_ne.mpr (by omega)⟩
  refine PySem.P.mul_str (by rw [Bool.or_eq_false_iff]; exact ⟨decide_eq_false (by omega), decide_eq_false (by omega)⟩) (fun _ _ => ?_) (fun _ _ => ?_) ?_
  · have : (1000 : Int) ≤ (2 ^ 63 - 1) / n := by
      rw [Int.le_ediv_iff_mul_le (by omega)]
      omega
    omega
  · have fit : a.length * n.toNat ≤ 16777216 := Nat.le_trans small (by decide)
    exact decide_eq_false (Nat.not_lt.mpr (by first | exact fit | omega))
  · rw [if_neg e0, if_neg (by rw [e1]; exact Bool.false_ne_true)]
    exact ⟨by have := repS_len a n.toNat; unfold repS at this; rw [this, Nat.mul_comm]; exact Nat.le_trans small (by decide), .str (repS a n.toNat), H, I.kept (t' := s.toks + 1) (fun _ _ e => e), ⟨_, rfl⟩, q⟩
def fRepS : Sl → Sl → (Sl → Prop) → Prop := fun s u Qd => match s, u with
  | .d (.str a), .d (.int n) => 2 ≤ n ∧ n ≤ 1000 ∧ 1 ≤ a.length ∧ a.length ≤ 1000 ∧ Qd (.d (.str (repS a n.toNat)))
  | _, _ => False
instance {K : PySem.W.Frag} : Ref2 K rRepS fRepS := ⟨fun W A H0 H x y s u Qd Q b f i rx ry h w => by
  unfold fRepS at h
  split at h
  · rename_i z n
    obtain ⟨h1, h2, h3, h4, q⟩ := h
    obtain rfl := rx.flat (u := .str z) rfl
    obtain rfl := ry.flat (u := .int n) rfl
    exact ⟨z, n, rfl, rfl, h1, h2, h3, h4, w.here i (.str (repS z n.toNat)) q⟩
  · exact h.elim⟩
theorem fRepS_c {a : Str} {n : Int} {Qd : Sl → Prop} : fRepS (.d (.str a)) (.d (.int n)) Qd = (2 ≤ n ∧ n ≤ 1000 ∧ 1 ≤ a.length ∧ a.length ≤ 1000 ∧ Qd (.d (.str (repS a n.toNat)))) := propext Iff.rfl
end Dl

namespace Dl
open PySem PySem.Spec PyProof.Rows L2
/-! ### a, b = (e, []): the first as data, the second a new list -/
def tParE (i j : Nat) (te : TE) : TS := tPar i j (tCons te (tCons (tLst tNil) tNil))
def parEK (i j : Nat) (dd : DEnds) (ρ : List Sl) : Sl → Prop := fun s => match s.dat with
  | some x => dd.nx ((ρ.set i (.d x)).set j (.ml []))
  | none => False
def dParE (i j : Nat) (fe : TD) : TDS := fun dd R ρ => fe ρ (parEK i j dd ρ) R
section
variable {K : PySem.W.Frag} {τ : List (Addr × Str)} {E : XK}
instance {i j : Nat} {te : TE} {fe : TD} [he : RefE K τ E te fe] : RefS K τ E (tParE i j te) (dParE i j fe) := ⟨fun W A0 H0 D dd R H σ ρ gσ gρ b sr er ek h => by
  obtain ⟨W', A, c⟩ := sr
  refine he.go W' A H σ ρ _ R _ (c.at_ ek) h fun v H1 s f1 i1 r1 q => ?_
  unfold parEK at q
  split at q
  · rename_i x ex
    have c1 := c.step f1 i1
    have c2 := c1.set (i := i) (s := .d x) trivial ⟨v, rfl, r1.dat c.bs ex⟩
    refine ⟨by show 0 ≤ sizeLine; exact Nat.zero_le _, fun p n => ?_⟩
    have f2 : Fr W'.B H1 (upd H1 p (.lst [])) := Fr.new n
    have i2 := W'.stay _ _ (same_new (o := .lst []) n) i1
    exact ⟨v, _, rfl, er.nx _ _ _ ⟨W', _, c2.own (i := j) (s := .ml []) f2 i2 (nob n) ⟨p, [], rfl, upd_same, c1.bs.nB (nob n), .inr rfl, .nil⟩ trivial⟩ q⟩
  · exact q.elim⟩
end
section
variable {i j : Nat} {fe : TD} {dd : DEnds} {R : Er → Prop} {ρ : List Sl} {xs : List PyData} {x : PyData}
theorem dParE_c : dParE i j fe dd R ρ = fe ρ (parEK i j dd ρ) R := propext Iff.rfl
theorem parEK_m : parEK i j dd ρ (.ml xs) = dd.nx ((ρ.set i (.d (.list xs))).set j (.ml [])) := propext Iff.rfl
theorem parEK_d : parEK i j dd ρ (.d x) = dd.nx ((ρ.set i (.d x)).set j (.ml [])) := propext Iff.rfl
end
end Dl

namespace Dl
open PySem PySem.Spec PyProof.Rows L2
section
variable {K : PySem.W.Frag} {τ : List (Addr × Str)} {E : XK}
/-! ### xs[k] += e -/
theorem get_listD {X : Cx} : PGet X (rIxL X.K) := by
  intro pins s σ H x y v u Q I rx ry h
  obtain ⟨p, xs, i, z, rfl, rfl, hq, he, q⟩ := h
  cases rx
  obtain ⟨t, rfl⟩ := ry
  obtain ⟨its, r, pl, hz⟩ := I.list hq
  obtain ⟨j, h1, h2, h3, h4, h5⟩ := atI_get he
  obtain ⟨w, ew, rw'⟩ := r.get h2
  have hl := r.length
  have hn := line63
  have fin : EP X pins σ Q w s := ⟨z, H, I, rw', q⟩
  by_cases h0 : 0 ≤ i
  · have hj : i.toNat = j := by
      rw [seqIndex_of h0 h5] at h1
      exact Option.some.inj h1
    exact wpAny_getItem_list pl.isList h0 (by omega) (by rw [hj]; simpa using ew) fin
  · have hj : (i + (its.toArray.size : Int)).toNat = j := by
      rw [seqIndex_neg (by omega) h4] at h1
      rw [List.size_toArray, ← hl]
      exact Option.some.inj h1
    exact wpAny_getItem_list_neg pl.isList (by omega) (by rw [List.size_toArray] <;> omega) (by omega) (by rw [hj]; simpa using ew) fin
def dAugI (i : Nat) (fk fe : TD) (g : Int → Int → Int) : TDS := fun dd R ρ => match (ρ[i]?).getD .un with
  | .ml xs => fk ρ (fun u => ∃ (k : Int) (j : Nat) (m : Int), u = .d (.int k) ∧ ixN xs.length k = some j ∧ xs[j]? = some (.int m) ∧ fe ρ (fun s => ∃ n : Int, s = .d (.int n) ∧ dd.nx (ρ.set i (.ml (xs.set j (.int (g m n)))))) R) R
  | _ => False
instance {i : Nat} {t tk : TE} {f fk : TD} {g : Int → Int → Int} [ht : RefE K τ E t f] [hk : RefE K τ E tk fk] : RefS K τ E (tAugS (tVar i) tk t (rIxL K) (ipI g) rSetL) (dAugI i fk f g) := ⟨fun W A0 H0 D dd R H σ ρ gσ gρ b sr er ek h => by
  obtain ⟨W', A, c⟩ := sr
  obtain ⟨xs, e, q⟩ := own_iff (P := fun xs => fk ρ (fun u => ∃ (k : Int) (j : Nat) (m : Int), u = .d (.int k) ∧ ixN xs.length k = some j ∧ xs[j]? = some (.int m) ∧ f ρ (fun s => ∃ n : Int, s = .d (.int n) ∧ dd.nx (ρ.set i (.ml (xs.set j (.int (g m n)))))) R) R) h
  obtain ⟨p, vs, ev, ep, nB, r0⟩ := c.own_at e
  refine ⟨.ref p, ev, ?_⟩
  refine hk.go W' A H σ ρ _ R _ (c.at_ ek) q fun u H1 s1 f1 i1 r1 q1 => ?_
  obtain ⟨k, j, m, rfl, ej, ex, q1⟩ := q1
  have c1 := c.step f1 i1
  have ep1 := f1.1 _ _ ep nt_lst nB
  have r01 := r0.go (goes_fr c.bs.ba f1)
  obtain ⟨v, ev2, rv⟩ := r01.get ex
  have hv : v = .int m := by cases rv; rfl
  subst hv
  refine ⟨p, vs, k, .int m, rfl, r1.flat (u := .int k) rfl, SqL.of ep1, by unfold atI; rw [r0.length, ej]; exact ev2, ?_⟩
  refine ht.go W' A H1 σ ρ _ R _ (c1.at_ ek) q1 fun y H2 s2 f2 i2 r2 q2 => ?_
  obtain ⟨n, rfl, q2⟩ := q2
  have c2 := c1.step f2 i2
  have ep2 := f2.1 _ _ ep1 nt_lst nB
  have r02 := r01.go (goes_fr c1.bs.ba f2)
  refine ⟨m, n, rfl, r2.flat (u := .int n) rfl, p, vs, k, j, rfl, r1.flat (u := .int k) rfl, ep2, by rw [r0.length]; exact ej, ?_⟩
  exact er.nx _ _ _ ⟨W', A, c2.mut e ev (r02.set (.int _) j)⟩ q2⟩
theorem dAugI_c {i : Nat} {fk fe : TD} {g : Int → Int → Int} {dd : DEnds} {R : Er → Prop} {ρ : List Sl} {xs : List PyData} (e : ρ[i]? = some (.ml xs)) (h : fk ρ (fun u => ∃ (k : Int) (j : Nat) (m : Int), u = .d (.int k) ∧ ixN xs.length k = some j ∧ xs[j]? = some (.int m) ∧ fe ρ (fun s => ∃ n : Int, s = .d (.int n) ∧ dd.nx (ρ.set i (.ml (xs.set j (.int (g m n)))))) R) R) : dAugI i fk fe g dd R ρ := by
  unfold dAugI
  rw [e]
  exact h
end
end Dl

namespace Dl
open PySem PySem.Spec PyProof.Rows L2 LamX
/-! ### draws from more than 2^30 -/
def spTakeW : Sp := fun vs H Q _ => ∃ (z : Addr) (m : Int), vs = [.ref z, .int m] ∧ StOk H z ∧ 0 < m ∧ m < 1152921504606846976 ∧
  ∀ H' n, Keep z H H' → StOk H' z → 0 ≤ n → n < m → Q (.int n) H'
def sdTakeW : SpD := fun ss Qd _ => ∃ m : Int, ss = [.st, .d (.int m)] ∧ 0 < m ∧ m < 1152921504606846976 ∧ ∀ n : Int, 0 ≤ n → n < m → Qd (.d (.int n))
theorem takeW_imp {K : PySem.W.Frag} {ms : List Bool} : ∀ vs H Q E, spD K ms sdTakeW vs H Q E → spTakeW vs H Q E := fun vs H Q E ⟨τ, W, A, ss, Qd, R, b, r, ar, q, w, ek⟩ => by
  obtain ⟨m, rfl, h1, h2, q⟩ := q
  obtain ⟨v, u, rfl, r1, r2⟩ := vlsr2 r
  obtain rfl := r2.flat (u := .int m) rfl
  obtain ⟨z, rfl, st⟩ := r1
  refine ⟨z, m, rfl, st.ok H b.inv, h1, h2, fun H' n kp st' n0 n1 => ?_⟩
  obtain ⟨x, y, e, hx, hy, hy2⟩ := st'
  refine w (.int n) H' (.d (.int n)) ⟨fun c o ec _ nc => kp c o ec fun z => nc (z ▸ st.b), fun c hc => ?_⟩ ?_ (Rp.int n) (q n n0 n1)
  · by_cases h : c = z
    · subst h
      exact ⟨_, e, nt_lst⟩
    · obtain ⟨o, e1, t1⟩ := hc
      exact ⟨o, kp c o e1 h, t1⟩
  · refine W.stay _ H' (fun c o ec => ?_) (st.set H x y b.inv hx hy hy2)
    by_cases h : c = z
    · subst h
      rw [upd_same] at ec
      cases ec
      exact e
    · rw [upd_ne h] at ec
      exact kp c o ec h
theorem div_wide {m : Int} {i : Int} (h : 0 < m) (h2 : m < 1152921504606846976) : CDivW i m := wide_div h (b := 60) (by
  rw [show (2 : Nat) ^ 60 = 1152921504606846976 from by decide]
  omega) (by decide) (by decide)
/-! ### a list of new lists -/
theorem for_enumD {K : PySem.W.Frag} {a : Addr} {xs : List V} {g : TG} {tb : TS} {D : Ends} {σ : L2.St} {H : Hp} (Pv : Nat → L2.St → Hp → Prop) (h0 : Pv 0 σ H) (hl : ∀ i σ H, i ≤ xs.length → Pv i σ H → SqT K H a xs)
    (hs : ∀ i x T σ H, xs[i]? = some x → H T = none → Pv i σ H → g (.ref T) σ (upd H T (.tup [.int (i : Nat), x])) fun σ2 H2 => tb { D with nx := Pv (i + 1), ct := Pv (i + 1), bk := D.nx } σ2 H2) (hd : ∀ σ H, Pv xs.length σ H → D.nx σ H) :
    ∃ W : Nat → Nat → L2.St → Hp → Prop, (∃ m, W 0 m σ H) ∧ ∀ i m σ H, W i m σ H →
      ((ItT K a).stop i H ∧ D.nx σ H) ∨ ((ItT K a).go i H ∧ ∃ N : L2.St → Hp → Prop, (∀ σ' H', N σ' H' → ∃ m', m' < m ∧ W (i + 1) m' σ' H') ∧ ∀ x H', (ItT K a).yld i H x H' → g x σ H' fun σ2 H2 => tb { D with nx := N, ct := N, bk := D.nx } σ2 H2) := by
  refine ⟨fun i m σ H => m = xs.length - i ∧ i ≤ xs.length ∧ Pv i σ H, ⟨xs.length, by simp, Nat.zero_le _, h0⟩, ?_⟩
  rintro i m σ H ⟨rfl, hi, p⟩
  have s := hl i σ H hi p
  by_cases hlt : i < xs.length
  · refine .inr ⟨⟨xs, xs[i], s, List.getElem?_eq_getElem hlt⟩, Pv (i + 1), fun σ' H' p' => ⟨xs.length - (i + 1), by omega, rfl, hlt, p'⟩, fun x H' y => ?_⟩
    obtain ⟨T, v, rfl, nT, rfl, hv⟩ := y
    exact hs i v T σ H (hv xs s) nT p
  · have e : i = xs.length := by omega
    subst e
    exact .inl ⟨⟨xs, s, Nat.le_refl _⟩, hd σ H p⟩
theorem ne_in {x y : Addr} {as : List Addr} (n : y ∉ as) (h : x ∈ as) : x ≠ y := fun z => n (z ▸ h)
/-- L a new list of new lists (since H), that hold the data of rows -/
structure LL (K : PySem.W.Frag) (A : Addr → Prop) (H G : Hp) (L : Addr) (as : List Addr) (rows : List (List PyData)) : Prop where
  same : Same H G
  nL : H L = none
  eL : G L = some (.lst (as.map V.ref))
  nd : as.Nodup
  nin : L ∉ as
  fresh : ∀ a ∈ as, H a = none
  rows_ : Paired (fun a row => ∃ vs, G a = some (.lst vs) ∧ RpAll K (fun x => A x ∨ x = L ∨ x ∈ as) G vs row) as rows
theorem LL.first {K : PySem.W.Frag} {A : Addr → Prop} {H : Hp} {L : Addr} (n : H L = none) : LL K A H (upd H L (.lst [])) L [] [] := ⟨same_new n, n, upd_same, List.nodup_nil, List.not_mem_nil, (fun _ h => nomatch h), Paired.nil⟩
theorem paired_imp {α β : Type} {R S : α → β → Prop} : ∀ {xs : List α} {ys : List β}, Paired R xs ys → (∀ x y, x ∈ xs → R x y → S x y) → Paired S xs ys
  | _, _, .nil, _ => .nil
  | _, _, .cons h r, f => .cons (f _ _ List.mem_cons_self h) (paired_imp r fun x y hx => f x y (List.mem_cons_of_mem _ hx))
theorem paired_snoc {α β : Type} {R : α → β → Prop} : ∀ {xs : List α} {ys : List β} {x : α} {y : β}, Paired R xs ys → R x y → Paired R (xs ++ [x]) (ys ++ [y])
  | _, _, _, _, .nil, h => .cons h .nil
  | _, _, _, _, .cons h r, k => .cons h (paired_snoc r k)
theorem paired_at {α β : Type} {R : α → β → Prop} : ∀ {xs : List α} {ys : List β} {i : Nat} {y : β}, Paired R xs ys → ys[i]? = some y → ∃ x, xs[i]? = some x ∧ R x y
  | _, _, i, _, .nil, e => by simp at e
  | _, _, 0, _, .cons h _, e => by
    simp at e
    subst e
    exact ⟨_, rfl, h⟩
  | _, _, i + 1, y, .cons _ r, e => by
    obtain ⟨x, h1, h2⟩ := paired_at (i := i) (y := y) r (by simpa using e)
    exact ⟨x, by simpa using h1, h2⟩
theorem paired_set {α β : Type} {R : α → β → Prop} {x : α} {y : β} : ∀ {xs : List α} {ys : List β} {i : Nat}, Paired R xs ys → xs[i]? = some x → R x y → Paired R xs (ys.set i y)
  | _, _, i, .nil, e, _ => by simp at e
  | _, _, 0, .cons h r, e, k => by
    simp at e
    subst e
    exact .cons k r
  | _, _, i + 1, .cons h r, e, k => .cons h (paired_set r (by simpa using e) k)
theorem LL.grow {K : PySem.W.Frag} {A : Addr → Prop} {H G G' : Hp} {L : Addr} {as : List Addr} {rows : List (List PyData)} (h : LL K A H G L as rows) (s : Same G G') : LL K A H G' L as rows :=
  ⟨h.same.trans s, h.nL, s _ _ h.eL, h.nd, h.nin, h.fresh, paired_imp h.rows_ fun a row _ ⟨vs, e, r⟩ => ⟨vs, s _ _ e, r.go fun b o eb _ nb => ⟨s b o eb, nb⟩⟩⟩
/-- one more list -/
theorem LL.more {K : PySem.W.Frag} {A : Addr → Prop} {H G : Hp} {L a : Addr} {as : List Addr} {rows : List (List PyData)} (h : LL K A H G L as rows) (n : G a = none) : LL K A H (upd (upd G a (.lst [])) L (.lst (as.map V.ref ++ [.ref a]))) L (as ++ [a]) (rows ++ [[]]) := by
  have ne : a ≠ L := fun z => by
    rw [z, h.eL] at n
    cases n
  have na : a ∉ as := fun z => by
    obtain ⟨i, hi⟩ := List.getElem?_of_mem z
    have : ∀ {xs : List Addr} {ys : List (List PyData)}, Paired (fun a row => ∃ vs, G a = some (.lst vs) ∧ RpAll K (fun x => A x ∨ x = L ∨ x ∈ as) G vs row) xs ys → a ∈ xs → False := by
      intro xs ys p
      induction p with
      | nil => intro z; cases z
      | cons q _ ih =>
        intro z
        rcases List.mem_cons.mp z with z | z
        · obtain ⟨vs, e, _⟩ := q
          rw [← z, n] at e
          cases e
        · exact ih z
    exact this h.rows_ z
  have hn : H a = none := by
    cases e : H a with
    | none => rfl
    | some o =>
      have := h.same _ _ e
      rw [n] at this
      cases this
  refine ⟨fun b o e => ?_, h.nL, by rw [upd_same, List.map_append]; rfl, ?_, ?_, ?_, ?_⟩
  · have b1 : b ≠ L := fun z => by
      rw [z, h.nL] at e
      cases e
    have b2 : b ≠ a := fun z => by
      rw [z, hn] at e
      cases e
    rw [upd_ne b1, upd_ne b2]
    exact h.same _ _ e
  · exact List.nodup_append.mpr ⟨h.nd, by simp, fun x hx y hy => by
      rw [List.mem_singleton.mp hy]
      exact fun z => na (z ▸ hx)⟩
  · intro z
    rcases List.mem_append.mp z with z | z
    · exact h.nin z
    · exact ne (List.mem_singleton.mp z).symm
  · intro x hx
    rcases List.mem_append.mp hx with z | z
    · exact h.fresh x z
    · rw [List.mem_singleton.mp z]
      exact hn
  · refine paired_snoc (paired_imp h.rows_ fun x row hx ⟨vs, e, r⟩ => ⟨vs, ?_, r.go fun b o eb nt nb => ?_⟩) ⟨[], ?_, .nil⟩
    · rw [upd_ne (ne_in h.nin hx), upd_ne (ne_in na hx)]
      exact e
    · have b1 : b ≠ L := fun z => nb (.inr (.inl z))
      have b2 : b ≠ a := fun z => by
        rw [z, n] at eb
        cases eb
      refine ⟨by rw [upd_ne b1, upd_ne b2]; exact eb, fun z => ?_⟩
      rcases z with z | z | z
      · exact nb (.inl z)
      · exact nb (.inr (.inl z))
      · rcases List.mem_append.mp z with z | z
        · exact nb (.inr (.inr z))
        · exact b2 (List.mem_singleton.mp z)
    · rw [upd_ne ne, upd_same]
/-- one of the lists is longer -/
theorem LL.add {K : PySem.W.Frag} {A : Addr → Prop} {H G : Hp} {L a : Addr} {as : List Addr} {rows : List (List PyData)} {i : Nat} {vs : List V} {v : V} {row : List PyData} {d : PyData} (h : LL K A H G L as rows) (ea : as[i]? = some a) (er : rows[i]? = some row) (ev : G a = some (.lst vs)) (rv : RpAll K (fun x => A x ∨ x = L ∨ x ∈ as) G vs row) (rd : Rp K (fun x => A x ∨ x = L ∨ x ∈ as) G v d) :
    LL K A H (upd G a (.lst (vs ++ [v]))) L as (rows.set i (row ++ [d])) := by
  have ma := List.mem_of_getElem? ea
  have go : ∀ b o, G b = some o → NT o → ¬ (A b ∨ b = L ∨ b ∈ as) → (upd G a (.lst (vs ++ [v]))) b = some o ∧ ¬ (A b ∨ b = L ∨ b ∈ as) := fun b o e _ n => ⟨by rw [upd_ne (show b ≠ a from fun z => n (.inr (.inr (z ▸ ma))))]; exact e, n⟩
  refine ⟨fun b o e => ?_, h.nL, ?_, h.nd, h.nin, h.fresh, ?_⟩
  · rw [upd_ne (show b ≠ a from fun z => by
      rw [z, h.fresh a ma] at e
      cases e)]
    exact h.same _ _ e
  · rw [upd_ne (show L ≠ a from fun z => h.nin (z ▸ ma))]
    exact h.eL
  · have key : ∀ {xs : List Addr} {ys : List (List PyData)} {j : Nat}, Paired (fun a row => ∃ vs, G a = some (.lst vs) ∧ RpAll K (fun x => A x ∨ x = L ∨ x ∈ as) G vs row) xs ys → xs.Nodup → xs[j]? = some a → Paired (fun x row => ∃ vs', (upd G a (.lst (vs ++ [v]))) x = some (.lst vs') ∧ RpAll K (fun x => A x ∨ x = L ∨ x ∈ as) (upd G a (.lst (vs ++ [v]))) vs' row) xs (ys.set j (row ++ [d])) := by
      intro xs ys j p
      induction p generalizing j with
      | nil => intro _ e; simp at e
      | @cons x y xs ys q r ih =>
        intro nd e
        obtain ⟨n1, n2⟩ := List.nodup_cons.mp nd
        cases j with
        | zero =>
          simp at e
          subst e
          refine .cons ⟨_, upd_same, (rv.go go).append (.one (Rp.go go rd))⟩ (paired_imp r fun z row hz ⟨us, e1, r1⟩ => ⟨us, ?_, r1.go go⟩)
          rw [upd_ne (show z ≠ _ from ne_in n1 hz)]
          exact e1
        | succ j =>
          simp at e
          obtain ⟨us, e1, r1⟩ := q
          refine .cons ⟨us, ?_, r1.go go⟩ (ih n2 e)
          rw [upd_ne (show x ≠ a from (ne_in n1 (List.mem_of_getElem? e)).symm)]
          exact e1
    exact key h.rows_ h.nd ea
/-- as data -/
theorem LL.data {K : PySem.W.Frag} {τ : List (Addr × Str)} {W : Wld τ} {A : Addr → Prop} {H G : Hp} {L : Addr} {as : List Addr} {rows : List (List PyData)} (h : LL K A H G L as rows) (b : Bs W A H) : VlR K W A H G (.ref L) (.ml (rows.map PyData.list)) := by
  refine ⟨L, as.map V.ref, rfl, nob h.nL, h.eL, ?_⟩
  have key : ∀ {xs : List Addr} {ys : List (List PyData)}, Paired (fun a row => ∃ vs, G a = some (.lst vs) ∧ RpAll K (fun x => A x ∨ x = L ∨ x ∈ as) G vs row) xs ys → (∀ x ∈ xs, x ∈ as) → RpAll K (fun a => A a ∨ a = L) G (xs.map V.ref) (ys.map PyData.list) := by
    intro xs ys p
    induction p with
    | nil => intro _; exact .nil
    | @cons x y xs ys q r ih =>
      intro hm
      obtain ⟨vs, e, rr⟩ := q
      have mx := hm x List.mem_cons_self
      refine .cons (.lst ⟨e, fun z => ?_⟩ (rr.go (goes_less fun a z => z.elim .inl fun z => .inr (.inl z)))) (ih fun z hz => hm z (List.mem_cons_of_mem _ hz))
      rcases z with z | z
      · exact b.nA (nob (h.fresh x mx)) z
      · exact h.nin (z ▸ mx)
  exact key h.rows_ fun _ z => z
end Dl

set_option maxHeartbeats 1000000
namespace Dl
open PySem PySem.Spec PyProof.Rows L2 LamX
/-! ### zip of a list and a tuple -/
def ItzM (K : PySem.W.Frag) (a b : Addr) : It where
  go := fun i H => ∃ (xs ys : List V) (x y : V), SqL K H a xs ∧ SqT K H b ys ∧ xs[i]? = some x ∧ ys[i]? = some y
  yld := fun i H v H' => ∃ T x y, v = .ref T ∧ H T = none ∧ H' = upd H T (.tup [x, y]) ∧ (∀ xs, SqL K H a xs → xs[i]? = some x) ∧ ∀ ys, SqT K H b ys → ys[i]? = some y
  stop := fun i H => ∃ xs ys : List V, SqL K H a xs ∧ SqT K H b ys ∧ (xs.length ≤ i ∨ ys.length ≤ i)
/-- an iterator that has come to its end -/
theorem ended_list {prog : Program} {w : World} {A : Around} (hh : A.handled = none) (it l : Addr) (hne : l ≠ it) (items : Array Value) (i : Nat) (hi : items.size ≤ i) : Draws prog w A it [it, l] i (fun _ _ => False) (fun j h => j = i ∧ h.IsListIter it l i ∧ h.IsList l items) where
  live := fun _ _ st => by
    obtain ⟨o, ho, _⟩ := st.2.1
    exact ⟨o, ho⟩
  frame := fun _ _ _ st hk => ⟨st.1, st.2.1.at fun o e => hk _ (by simp) o e, st.2.2.at fun o e => hk _ (by simp) o e⟩
  item := fun j s Q E hj st _ => by
    have := st.1
    omega
  done := fun s Q E st hE => wpAny_nextOf_list_end hh st.2.1 st.2.2 (by simp [hi]) hE
theorem ended_tuple {prog : Program} {w : World} {A : Around} (hh : A.handled = none) (it l : Addr) (hne : l ≠ it) (items : Array Value) (i : Nat) (hi : items.size ≤ i) : Draws prog w A it [it, l] i (fun _ _ => False) (fun j h => j = i ∧ h.IsTupleIter it l i ∧ h.IsTuple l items) where
  live := fun _ _ st => by
    obtain ⟨o, ho, _⟩ := st.2.1
    exact ⟨o, ho⟩
  frame := fun _ _ _ st hk => ⟨st.1, st.2.1.at fun o e => hk _ (by simp) o e, st.2.2.at fun o e => hk _ (by simp) o e⟩
  item := fun j s Q E hj st _ => by
    have := st.1
    omega
  done := fun s Q E st hE => wpAny_nextOf_tuple_end hh st.2.1 st.2.2 (by simp [hi]) hE
theorem sep_mix {z TI TO i1 i2 a b : Addr} (D : ZipApart z TI TO i1 i2 a b) : ZipSep2 z TI TO i1 i2 [i1, a] [i2, b] where
  TIz := D.TIz
  TOz := D.TOz
  TITO := D.TITO
  TIi1 := D.TIi1
  mem1 := by simp
  zf1 := by simp [D.i1z.symm, D.l1z.symm]
  Tf1 := by simp [D.TOi1, D.l1TO.symm]
  TIi2 := D.TIi2
  mem2 := by simp
  zf2 := by simp [D.i2z.symm, D.l2z.symm]
  Tf2 := by simp [D.TOi2, D.l2TO.symm]
  sep1_2 := by simp [D.i12, D.l2i1.symm]
  sep2_1 := by simp [D.i12.symm, D.l1i2.symm]
theorem turn_mix {P : Program} {w : World} {K : PySem.W.Frag} {elts : List Expr} {kk : Nat} {tpos : Pos} {a b z TI TO i1 i2 : Addr} (D : ZipApart z TI TO i1 i2 a b) :
    Turn P w K (.Tuple elts kk tpos) (ItzM K a b) [z, TI, TO, i1, i2] z (fun i h => IsZip h z TI TO .none ∧ IsTupOf2 h TI (.ref i1) (.ref i2) ∧ (∃ x y, IsTupOf2 h TO x y) ∧ h.IsListIter i1 a i ∧ h.IsTupleIter i2 b i) where
  mem := by simp
  obj := fun i h st c hc => by
    obtain ⟨hz, hTI, ⟨x, y, hTO⟩, ⟨o1, e1, _, d1⟩, ⟨o2, e2, _, d2⟩⟩ := st
    simp only [List.mem_cons, List.not_mem_nil, or_false] at hc
    rcases hc with rfl | rfl | rfl | rfl | rfl
    · exact ⟨_, hz, fun v q => by cases q⟩
    · exact ⟨_, hTI, fun v q => by cases q⟩
    · exact ⟨_, hTO, fun v q => by cases q⟩
    · exact ⟨o1, e1, fun v q => by rw [d1] at q; cases q⟩
    · exact ⟨o2, e2, fun v q => by rw [d2] at q; cases q⟩
  keep := fun i h h' st k => by
    obtain ⟨hz, hTI, ⟨x, y, hTO⟩, h1, h2⟩ := st
    exact ⟨k _ (by simp) _ hz, k _ (by simp) _ hTI, ⟨x, y, k _ (by simp) _ hTO⟩, h1.at fun o q => k _ (by simp) o q, h2.at fun o q => k _ (by simp) o q⟩
  item := by
    rintro X rfl rfl rfl hc i pins s σ H E I hf ⟨hz, hTI, ⟨x0, y0, hTO⟩, h1, h2⟩ ⟨xs, ys, x, y, hqx, hqy, hx, hy⟩
    obtain ⟨its, rv, p, _⟩ := I.list hqx
    obtain ⟨its2, rv2, p2, _⟩ := I.tuple hqy
    obtain ⟨u, hu, ru⟩ := rv.get hx
    obtain ⟨u2, hu2, ru2⟩ := rv2.get hy
    have hd : X.A.in1.handled = none := I.ok.hd hc
    have hzl : z < s.heap.objs.size := Heap.lt_size hz
    have b1 : i < its.toArray.size := by have := (List.getElem?_eq_some_iff.mp hu).1; simpa using this
    have b2 : i < its2.toArray.size := by have := (List.getElem?_eq_some_iff.mp hu2).1; simpa using this
    refine wpAny_pyNext_zipD2_item (sep_mix D) (Draws.list (prog := X.prog) (w := X.w) hd i1 a D.l1i1 its.toArray) (Draws.tuple (prog := X.prog) (w := X.w) hd i2 b D.l2i2 its2.toArray) hz hTI hTO ⟨h1, p.isList⟩ ⟨h2, p2⟩ b1 b2 fun w1 w2 h' tk e1 e2 z' TO' s1' s2' hT hsz hk => ?_
    obtain rfl : w1 = u := by
      have : its.toArray[i]? = some u := by simpa using hu
      rw [this] at e1
      exact (Option.some.inj e1).symm
    obtain rfl : w2 = u2 := by
      have : its2.toArray[i]? = some u2 := by simpa using hu2
      rw [this] at e2
      exact (Option.some.inj e2).symm
    refine ⟨_, rfl, wpAny_letOwnedTupleGo_zip (s := { s with heap := h', toks := tk }) z' fun h'' z'' sb => ?_⟩
    have hT2 : h''.get? s.heap.objs.size = some { cls := .type "tuple", data := .seq #[w1, w2] } := (sb.2 _ (Nat.ne_of_gt hzl)).trans hT
    have new : ObjOk X.prog X.w (upd H s.heap.objs.size (.tup [x, y])) h'' s.heap.objs.size (.tup [x, y]) := ⟨by show 2 ≤ sizeLine; decide, [w1, w2], Paired.cons ru (Paired.cons ru2 .nil), ⟨_, hT2, rfl, _, rfl⟩⟩
    have stays : ∀ c o, c ∉ [z, TI, TO, i1, i2] → s.heap.get? c = some o → h''.get? c = some o := fun c o hn q => by
      simp only [List.mem_cons, List.not_mem_nil, or_false, not_or] at hn
      obtain ⟨n1, n2, n3, n4, n5⟩ := hn
      exact (sb.2 c n1).trans (hk c o n1 n3 n4 n5 q)
    have I1 := I.turnedNew (t' := tk) (ch := [z, TI, TO, i1, i2]) stays hf (Nat.le_refl _) new
    refine ⟨.ref s.heap.objs.size, _, I1, rfl, ⟨_, x, y, rfl, I.hok.fresh (Nat.le_refl _), rfl, (fun l hl => by rw [I.list_inj hl hqx]; exact hx), (fun l hl => by rw [I.tuple_inj hl hqy]; exact hy)⟩, ⟨z'', ?_, ⟨w1, w2, ?_⟩, ?_, ?_⟩, fun c hcm => ?_⟩
    · exact (sb.2 _ D.TIz).trans (hk _ _ D.TIz D.TITO D.TIi1 D.TIi2 hTI)
    · exact (sb.2 _ D.TOz).trans TO'
    · exact s1'.1.at fun o q => (sb.2 _ D.i1z).trans q
    · exact s2'.1.at fun o q => (sb.2 _ D.i2z).trans q
    · have hlt : c < s.heap.objs.size := by
        simp only [List.mem_cons, List.not_mem_nil, or_false] at hcm
        rcases hcm with rfl | rfl | rfl | rfl | rfl
        · exact hzl
        · exact Heap.lt_size hTI
        · exact Heap.lt_size hTO
        · obtain ⟨_, e1, _⟩ := h1; exact Heap.lt_size e1
        · obtain ⟨_, e2, _⟩ := h2; exact Heap.lt_size e2
      rw [upd_ne (Nat.ne_of_lt hlt)]
      exact (hf c hcm).1
  done := by
    rintro X rfl rfl rfl hc i pins s σ H E I hf ⟨hz, hTI, ⟨x0, y0, hTO⟩, h1, h2⟩ ⟨xs, ys, hqx, hqy, hend⟩
    obtain ⟨its, rv, p, _⟩ := I.list hqx
    obtain ⟨its2, rv2, p2, _⟩ := I.tuple hqy
    have hd : X.A.in1.handled = none := I.ok.hd hc
    have l1 := rv.length
    have l2 := rv2.length
    have m1 : its.toArray.size = its.length := by simp
    have m2 : its2.toArray.size = its2.length := by simp
    have fin : ∀ (h' : Heap) (tk : Nat), (∀ c o, c ≠ z → c ≠ TO → c ≠ i1 → c ≠ i2 → s.heap.get? c = some o → h'.get? c = some o) → (none : Option Value) = none ∧ Inv X pins σ H { s with heap := h', toks := tk } := fun h' tk hk => ⟨rfl, I.turnedL (t' := tk) (ch := [z, TI, TO, i1, i2]) (fun c o hb q => by
      simp only [List.mem_cons, List.not_mem_nil, or_false, not_or] at hb
      exact hk c o hb.1 hb.2.2.1 hb.2.2.2.1 hb.2.2.2.2 q) hf⟩
    by_cases k1 : its.toArray.size ≤ i
    · have E1 := ended_list (prog := X.prog) (w := X.w) hd i1 a D.l1i1 its.toArray i k1
      by_cases k2 : its2.toArray.size ≤ i
      · exact wpAny_pyNext_zipD2_end (sep_mix D) E1 (ended_tuple (prog := X.prog) (w := X.w) hd i2 b D.l2i2 its2.toArray i k2) hz hTI hTO ⟨rfl, h1, p.isList⟩ ⟨rfl, h2, p2⟩ (Nat.le_refl _) (Nat.le_refl _) (.inl rfl) fin
      · exact wpAny_pyNext_zipD2_end (sep_mix D) E1 (Draws.tuple (prog := X.prog) (w := X.w) hd i2 b D.l2i2 its2.toArray) hz hTI hTO ⟨rfl, h1, p.isList⟩ ⟨h2, p2⟩ (Nat.le_refl _) (by omega) (.inl rfl) fin
    · have k2 : its2.toArray.size ≤ i := by omega
      exact wpAny_pyNext_zipD2_end (sep_mix D) (Draws.list (prog := X.prog) (w := X.w) hd i1 a D.l1i1 its.toArray) (ended_tuple (prog := X.prog) (w := X.w) hd i2 b D.l2i2 its2.toArray i k2) hz hTI hTO ⟨h1, p.isList⟩ ⟨rfl, h2, p2⟩ (by omega) (Nat.le_refl _) (.inr rfl) fin
  self := fun A i s Q E st h => wpAny_pyIter_zip st.1 h
def iZipM (K : PySem.W.Frag) (ta : TA) : TI := fun σ H R => ta σ H fun vs H1 => ∃ a b xs ys, vs = [.ref a, .ref b] ∧ SqL K H1 a xs ∧ SqT K H1 b ys ∧ R (ItzM K a b) H1
theorem pi_zipM {X : Cx} {K : PySem.W.Frag} {e e2 : Expr} {ta : TA} {p pos tpos : Pos} {elts : List Expr} {kk : Nat} (hK : X.K = K) (hg : Gl X "zip") (hm : X.mg "zip" = none) (ha : PA X [e, e2] ta)
    (hs : starEach [e, e2] X.env = (false, eval e X.env) :: starEach [e2] X.env := by rfl) (hpl : (backTo pos (starEach [e2] X.env)).any (·.1) = false := by rfl) :
    PI X (.Tuple elts kk tpos) (.Call (.Name "zip" p) [e, e2] [] pos) (iZipM K ta) := by
  subst hK
  refine ⟨fun pins s σ H R I h => ?_⟩
  refine Call_ (ld_blt I hg hm PyProof.Rows.boot_zip (PyProof.Rows.callWith_type1 (thn (ha.run pos pins s σ H _ I h) fun us s1 ⟨vs, H1, I1, r1, q1⟩ => ?_) hs hpl))
  obtain ⟨a, b, xs, ys, ex, hqx, hqy, q⟩ := q1
  subst ex
  cases r1 with
  | cons r rr =>
    cases rr with
    | cons r' rr =>
      cases rr
      cases r
      cases r'
      obtain ⟨its, rv, p1, _⟩ := I1.list hqx
      obtain ⟨its2, rv2, p2, _⟩ := I1.tuple hqy
      obtain ⟨o2, ho2, _⟩ := id p2
      refine zip_begins2 (begins_list a its.toArray) (begins_tuple b its2.toArray) p1.isList p2 fun h' hz hTI hTO g1 g2 hsz hk => wpAny_pyIter_zip hz ?_
      have I2 : Inv X pins σ H1 { s1 with heap := h' } := I1.kept (t' := s1.toks) hk
      refine ⟨s1.heap.objs.size + 4, [s1.heap.objs.size + 4, s1.heap.objs.size + 2, s1.heap.objs.size + 3, s1.heap.objs.size, s1.heap.objs.size + 1], _, _, H1, rfl, I2, turn_mix (PySem.W.ktu_apart s1.heap.objs.size a b p1.lt (Heap.lt_size ho2)), ⟨hz, hTI, ⟨_, _, hTO⟩, ⟨_, g1, rfl, rfl⟩, ⟨_, g2, rfl, rfl⟩⟩, fun c hcm => ?_, q⟩
      have hle : s1.heap.objs.size ≤ c := by
        simp only [List.mem_cons, List.not_mem_nil, or_false] at hcm
        rcases hcm with rfl | rfl | rfl | rfl | rfl
        · exact Nat.le_add_right _ _
        · exact Nat.le_add_right _ _
        · exact Nat.le_add_right _ _
        · exact Nat.le_refl _
        · exact Nat.le_add_right _ _
      exact I1.fpOk hle (I1.hok.fresh hle)
section
variable {K : PySem.W.Frag} {τ : List (Addr × Str)} {E : XK}
def zpM (Ql : List PyData → Prop) : List Sl → Prop := fun ss => match ss with
  | [s, u] => (match s.dat, u.dat with
    | some (.list xs), some (.tuple ys) => Ql (zipD xs ys)
    | _, _ => False)
  | _ => False
def iZpM (fa : TDA) : TDI := fun ρ Qd R => fa ρ (zpM Qd) R
instance {t : TA} {f : TDA} [ht : RefA K τ E t f] : RefI K τ E (iZipM K t) (iZpM f) := ⟨fun W A H σ ρ Qd R P a h k => by
  refine ht.go W A H σ ρ _ R _ a h fun vs H1 ss f1 i1 r1 q => ?_
  unfold zpM at q
  split at q
  · obtain ⟨v, w, rfl, r, r'⟩ := vlsr2 r1
    split at q
    · rename_i xs ys ex ey
      have rp := r.dat a.bs ex
      have rp' := r'.dat a.bs ey
      obtain ⟨p, us, rfl, sq, ra⟩ := rp.lst_
      obtain ⟨p', us', rfl, sq', ra'⟩ := rp'.tup_
      refine ⟨p, p', _, _, rfl, sq, sq', k (ItzM K p p') H1 [some (.ref p), some (.ref p')] [.d (.list xs), .d (.tuple ys)] (zipD xs ys) f1 i1 (gh2 rp rp') ⟨fun W A H i b g hi => ?_, fun W A H i b g hi => ?_, fun W A H i x H' d b g ed y => ?_⟩ q⟩
      all_goals
        obtain ⟨g1, g2⟩ := g.two
        obtain ⟨a1, us, e, s2, r2⟩ := g1.lst_
        cases e
        obtain ⟨a2, us', e, s3, r3⟩ := g2.tup_
        cases e
      · rw [zipD_len] at hi
        obtain ⟨u, eu, _⟩ := r2.get (List.getElem?_eq_getElem (show i < xs.length by omega))
        obtain ⟨u', eu', _⟩ := r3.get (List.getElem?_eq_getElem (show i < ys.length by omega))
        exact ⟨us, us', u, u', s2, s3, eu, eu'⟩
      · rw [zipD_len] at hi
        refine ⟨us, us', s2, s3, ?_⟩
        rw [r2.length, r3.length]
        omega
      · obtain ⟨T, u, u', rfl, nT, rfl, hx, hy⟩ := y
        obtain ⟨x', y', ex', ey', rfl⟩ := zipD_get ed
        obtain ⟨d1, e1, q1⟩ := r2.getV (hx us s2)
        obtain ⟨d2, e2, q2⟩ := r3.getV (hy us' s3)
        rw [ex'] at e1
        rw [ey'] at e2
        cases e1
        cases e2
        exact rp_pair b nT q1 q2
    · exact q.elim
  · exact q.elim⟩
theorem iZpM_c {fa : TDA} {ρ : List Sl} {Ql : List PyData → Prop} {R : Er → Prop} : iZpM fa ρ Ql R = fa ρ (zpM Ql) R := propext Iff.rfl
theorem zpM_lt {Ql : List PyData → Prop} {xs ys : List PyData} : zpM Ql [.d (.list xs), .d (.tuple ys)] = Ql (zipD xs ys) := propext Iff.rfl
end
end Dl

namespace Dl
open PySem PySem.Spec PyProof.Rows L2
/-! ### a, b, c = (x, y, z), all of them data -/
def dPar3 (i j l : Nat) (fa : TDA) : TDS := fun dd R ρ => fa ρ (fun ss => ∃ x y z, dats ss = some [x, y, z] ∧ dd.nx (((ρ.set i (.d x)).set j (.d y)).set l (.d z))) R
section
variable {K : PySem.W.Frag} {τ : List (Addr × Str)} {E : XK}
instance {i j l : Nat} {t : TA} {fa : TDA} [ha : RefA K τ E t fa] : RefS K τ E (tPar3 i j l t) (dPar3 i j l fa) := ⟨fun W A0 H0 D dd R H σ ρ gσ gρ b sr er ek h => by
  obtain ⟨W', A, c⟩ := sr
  refine ha.go W' A H σ ρ _ R _ (c.at_ ek) h fun vs H1 ss f1 i1 r1 q => ?_
  obtain ⟨x, y, z, ed, q⟩ := q
  have rp := r1.dats c.bs ed
  cases rp with
  | @cons u _ _ _ ru rp =>
    cases rp with
    | @cons v _ _ _ rv rp =>
      cases rp with
      | @cons w _ _ _ rw' rp =>
        cases rp
        have c1 := c.step f1 i1
        have c2 := c1.set (i := i) (s := .d x) trivial ⟨u, rfl, ru⟩
        have c3 := c2.set (i := j) (s := .d y) trivial ⟨v, rfl, rv⟩
        have c4 := c3.set (i := l) (s := .d z) trivial ⟨w, rfl, rw'⟩
        exact ⟨u, v, w, rfl, er.nx _ _ _ ⟨W', A, c4⟩ q⟩⟩
theorem dPar3_c {i j l : Nat} {fa : TDA} {dd : DEnds} {R : Er → Prop} {ρ : List Sl} : dPar3 i j l fa dd R ρ = fa ρ (fun ss => ∃ x y z, dats ss = some [x, y, z] ∧ dd.nx (((ρ.set i (.d x)).set j (.d y)).set l (.d z))) R := propext Iff.rfl
end
end Dl

namespace Dl
open PySem PySem.Spec PyProof.Rows L2
section
variable {K : PySem.W.Frag} {τ : List (Addr × Str)} {E : XK}
/-! ### .. = xs.pop() -/
theorem pe_popK {X : Cx} {o : Expr} {to : TE} {apos cpos : Pos} (h : X.K = K) (ho : PE X o to) (hbase : attributeBase o "pop" X.env (eval o X.env) = eval o X.env := by rfl) (hline : (apos.endLine == cpos.line) = true := by rfl) : PE X (.Call (.Attribute o "pop" apos) [] [] cpos) (tBM0 K "list" rPop to) := by
  subst h
  exact pe_bm0 PySem.F.plainAttrs_list PySem.F.slot_list_pop PySem.F.type_list_pop mt_pop ho hbase hline
def dPop (i : Nat) (fg : FG) : TDS := fun dd R ρ => ∃ ys y, ρ[i]? = some (.ml (ys ++ [y])) ∧ fg y (ρ.set i (.ml ys)) dd.nx
instance (priority := high) {i n : Nat} {g : TGs} {fs : FGs} {sl : List Nat} [hg : RefGs K g fs sl] : RefS K τ E (tAsg (tBM0 K "list" rPop (tVar i)) (gTup K n g)) (dPop i (gdTup n fs)) := ⟨fun W A0 H0 D dd R H σ ρ gσ gρ b sr er ek h => by
  obtain ⟨W', A, c⟩ := sr
  obtain ⟨ys, y, e, q⟩ := h
  obtain ⟨v', ev, p, vs, e1, ep, nB, aP, r0⟩ := (c.env.pre c.lg).at_ _ _ e
  subst e1
  have hl := r0.length
  rw [List.length_append, List.length_singleton] at hl
  obtain ⟨v, ev2, rv⟩ := r0.get (i := ys.length) (d := y) (by rw [List.getElem?_append_right (Nat.le_refl _), Nat.sub_self]; rfl)
  have rd : RpAll K A H vs.dropLast ys := by
    have := r0.take ys.length
    rw [List.take_left' rfl] at this
    rw [List.dropLast_eq_take, hl, Nat.add_sub_cancel]
    exact this
  refine ⟨.ref p, ev, .inl ⟨rfl, _, SqL.of ep⟩, p, vs, v, rfl, rfl, ep, by rw [hl]; exact ev2, ?_⟩
  have c1 := c.mut e ev rd
  have rv' : Rp K A (upd H p (.lst vs.dropLast)) v y := rv.go fun b' o eb nt nb => ⟨by
    rw [upd_ne (show b' ≠ p from fun z => nb (z ▸ aP))]
    exact eb, nb⟩
  have hG : RefG K (gTup K n g) (gdTup n fs) sl := inferInstance
  refine hG.go W' A _ σ (ρ.set i (.ml ys)) gσ gρ v y _ _ c1.env c1.lg rv' q fun σ' ρ' e' l' _ n' q' => ?_
  exact er.nx _ σ' ρ' ⟨W', A, c1.wl, c1.a0, c1.bs, c1.fr, e', l', fun j p t a o b => c1.new j p t (n' j p t a o b).1 o (n' j p t a o b).2⟩ q'⟩
/-! ### sorted(xs) of data -/
open PySem.W in
def rSortD (K : PySem.W.Frag) : List V → Hp → VK → Prop := fun xs H Q => ∃ (a : Addr) (vs : List V) (ds : List PyData), xs = [.ref a] ∧ SqL K H a vs ∧ DpAll K H vs ds ∧ AllAlike ds ∧ Sortable ds ∧ (∀ d ∈ ds, d.depth ≤ 60) ∧
  ∀ zs : List (V × PyData), zs.Perm (vs.zip ds) → zs.map (·.2) = ds.mergeSort (dataLe false id) → ∀ p, H p = none → Q (.ref p) (upd H p (.lst (zs.map (·.1))))
theorem each_zip {R : Value → V → Prop} {S : Value → PyData → Prop} : ∀ {us : List Value} {vs : List V} {ds : List PyData}, Paired (fun v u => R u v) vs us → PySem.W.EachIs S us ds → PySem.W.EachIs (fun u (b : V × PyData) => R u b.1) us (vs.zip ds) ∧ PySem.W.EachIs (fun u (b : V × PyData) => S u b.2) us (vs.zip ds)
  | _, _, _, .nil, .nil => ⟨.nil, .nil⟩
  | _, _, _, .cons h r, .cons k s => by
    obtain ⟨a, b⟩ := each_zip r s
    exact ⟨.cons h a, .cons k b⟩
theorem zip_snd : ∀ {vs : List V} {ds : List PyData}, vs.length = ds.length → (vs.zip ds).map (·.2) = ds
  | [], [], _ => rfl
  | v :: vs, d :: ds, h => by
    rw [List.zip_cons_cons, List.map_cons, zip_snd (by simpa using h)]
  | [], _ :: _, h => by simp at h
  | _ :: _, [], h => by simp at h
theorem vals_each : ∀ {us : List Value} {zs : List (V × PyData)}, PySem.W.EachIs (fun u (b : V × PyData) => RelV b.1 u) us zs → Vals (zs.map (·.1)) us
  | _, _, .nil => .nil
  | _, _, .cons h r => .cons h (vals_each r)
open PySem.W in
theorem cr_sortD {X : Cx} (hu : X.A.units + 64 < cLine) : CallR X (.builtin "sorted") (rSortD X.K) := by
  intro pins s σ H vs us Q I r h
  obtain ⟨a, ws, ds, rfl, hs, hp, al, so, dd, q⟩ := h
  rw [Vals.ref1 r]
  obtain ⟨its, rv, hl, hz⟩ := I.list hs
  obtain ⟨as, ra⟩ := Dp.readsAll I _ _ _ hp rv
  have hr : EachIs (fun v d => ∃ as, PySem.Reads s.heap v d as) its ds := readsAll_each id (bs := ds) (by rw [List.map_id]; exact ra)
  obtain ⟨e1, e2⟩ := each_zip (R := fun u v => RelV v u) (S := fun v d => ∃ as, PySem.Reads s.heap v d as) rv hr
  have l1 : ws.length = ds.length := by
    rw [rv.length]
    exact hr.length
  have ez := zip_snd l1
  have lz : (ws.zip ds).length = ws.length := by rw [List.length_zip, l1, Nat.min_self]
  refine sorted_data (R := fun u (b : V × PyData) => RelV b.1 u) (enc := fun b : V × PyData => b.2) (bs := ws.zip ds) hl.isList e1 e2 (by rw [ez]; exact al) (by rw [ez]; exact so) (by rw [lz]; exact hz) (fun b hb => ?_) fun out ho eo => ?_
  · have := dd b.2 (List.of_mem_zip hb).2
    omega
  · obtain ⟨c, hc⟩ := sortedAll_at s.heap its out.toArray
    have hd : s.heap.objs.size ≤ s.heap.objs.size + 1 := Nat.le_succ _
    have rz := vals_each eo
    refine ⟨.ref (s.heap.objs.size + 1), upd H (s.heap.objs.size + 1) (.lst (((ws.zip ds).mergeSort (dataLe false fun b : V × PyData => b.2)).map (·.1))), I.laid (t' := s.toks) (fun _ _ => sortedAll_old) hd ⟨?_, out, c, rz, hc⟩, rfl, q _ (List.mergeSort_perm _ _) ?_ _ (I.hok.fresh hd)⟩
    · rw [List.length_map, List.length_mergeSort, lz]
      exact hz
    · exact (List.map_mergeSort (l := ws.zip ds) (r := dataLe false fun b : V × PyData => b.2) (s := dataLe false id) (f := fun b : V × PyData => b.2) (fun a _ b _ => rfl)).trans (by rw [ez])
theorem cr_sortDK {X : Cx} (h : X.K = K) (hu : X.A.units + 64 < cLine) : CallR X (.builtin "sorted") (rSortD K) := by
  subst h
  exact cr_sortD hu
open PySem.W in
def sortOk (ds : List PyData) : Prop := PyData.canLayAll0 ds = true ∧ AllAlike ds ∧ Sortable ds ∧ ∀ d ∈ ds, d.depth ≤ 60
open PySem.W in
def sortK (Qd : Sl → Prop) : List PyData → Prop := fun xs => sortOk xs ∧ Qd (.ml (xs.mergeSort (dataLe false id)))
def fSortD : List Sl → (Sl → Prop) → Prop := fun ss Qd => match ss with
  | [s] => (match s.seq with
    | some xs => sortK Qd xs
    | none => False)
  | _ => False
theorem rp_perm {A : Addr → Prop} {H : Hp} {vs : List V} {ds : List PyData} (h : RpAll K A H vs ds) : ∀ x ∈ vs.zip ds, Rp K A H x.1 x.2 := by
  intro x hx
  obtain ⟨i, hi⟩ := List.getElem?_of_mem hx
  obtain ⟨e1, e2⟩ := List.getElem?_zip_eq_some.mp hi
  obtain ⟨v, e3, r⟩ := h.get e2
  rw [e1] at e3
  cases e3
  exact r
theorem rp_each {A : Addr → Prop} {H : Hp} : ∀ {zs : List (V × PyData)}, (∀ x ∈ zs, Rp K A H x.1 x.2) → RpAll K A H (zs.map (·.1)) (zs.map (·.2))
  | [], _ => .nil
  | z :: zs, h => .cons (h z List.mem_cons_self) (rp_each fun x hx => h x (List.mem_cons_of_mem _ hx))
instance : RefC K (rSortD K) fSortD := ⟨fun W A H0 H xs ss Qd Q b f i rx h w => by
  unfold fSortD at h
  split at h
  · obtain ⟨v, rfl, r⟩ := vlsr1 rx
    split at h
    · rename_i xs ex
      obtain ⟨p, vs, rfl, sq, r⟩ := r.seq b ex
      obtain ⟨ok, q⟩ := h
      refine ⟨p, vs, xs, rfl, sqLA_sq sq, r.dp ok.1, ok.2.1, ok.2.2.1, ok.2.2.2, fun zs hz ez p' np => ?_⟩
      have rr : RpAll K A H (zs.map (·.1)) (zs.map (·.2)) := rp_each fun x hx => rp_perm r x (hz.mem_iff.mp hx)
      rw [ez] at rr
      exact Want.lst (b.fr f i) w rr q p' np
    · exact h.elim
  · exact h.elim⟩
theorem fSortD_m {xs : List PyData} {Qd : Sl → Prop} : fSortD [.ml xs] Qd = sortK Qd xs := propext Iff.rfl
theorem fSortD_b {xs : List PyData} {Qd : Sl → Prop} : fSortD [.bl xs] Qd = sortK Qd xs := propext Iff.rfl
theorem fSortD_l {xs : List PyData} {Qd : Sl → Prop} : fSortD [.d (.list xs)] Qd = sortK Qd xs := propext Iff.rfl
end
end Dl

namespace Dl
open PySem PySem.Spec PyProof.Rows L2
/-! ### a, b, c = (e, [..], []): data, and two new lists -/
def tPar3L (i j l : Nat) (te : TE) (ta : TA) : TS := tPar3 i j l (tCons te (tCons (tLst ta) (tCons (tLst tNil) tNil)))
def dPar3L (i j l : Nat) (fe : TD) (fa : TDA) : TDS := fun dd R ρ => fe ρ (fun s => ∃ x, s.dat = some x ∧ fa ρ (fun ss => ss.length ≤ sizeLine ∧ ∃ ds, dats ss = some ds ∧ dd.nx (((ρ.set i (.d x)).set j (.ml ds)).set l (.ml []))) R) R
section
variable {K : PySem.W.Frag} {τ : List (Addr × Str)} {E : XK}
instance {i j l : Nat} {te : TE} {ta : TA} {fe : TD} {fa : TDA} [he : RefE K τ E te fe] [ha : RefA K τ E ta fa] : RefS K τ E (tPar3L i j l te ta) (dPar3L i j l fe fa) := ⟨fun W A0 H0 D dd R H σ ρ gσ gρ b sr er ek h => by
  obtain ⟨W', A, c⟩ := sr
  refine he.go W' A H σ ρ _ R _ (c.at_ ek) h fun v H1 s f1 i1 r1 q => ?_
  obtain ⟨x, ex, q⟩ := q
  have c1 := c.step f1 i1
  refine ha.go W' A H1 σ ρ _ R _ (c1.at_ ek) q fun vs H2 ss f2 i2 r2 q2 => ?_
  obtain ⟨hs, ds, ed, q2⟩ := q2
  have c2 := c1.step f2 i2
  have rp := r2.dats c1.bs ed
  have c3 := c2.set (i := i) (s := .d x) trivial ⟨v, rfl, (r1.fr c.bs f2).dat c.bs ex⟩
  refine ⟨by rw [r2.length]; exact hs, fun p n => ?_⟩
  have f3 : Fr W'.B H2 (upd H2 p (.lst vs)) := Fr.new n
  have i3 := W'.stay _ _ (same_new (o := .lst vs) n) i2
  have c4 := c3.own (i := j) (s := .ml ds) f3 i3 (nob n) ⟨p, vs, rfl, upd_same, c2.bs.nB (nob n), .inr rfl, rp.go fun b' o eb _ nb => ⟨same_new n _ _ eb, fun z => z.elim nb (ne_of_none eb n)⟩⟩ trivial
  refine ⟨Nat.zero_le _, fun p2 n2 => ?_⟩
  have f4 : Fr W'.B (upd H2 p (.lst vs)) (upd (upd H2 p (.lst vs)) p2 (.lst [])) := Fr.new n2
  have i4 := W'.stay _ _ (same_new (o := .lst []) n2) i3
  have c5 := c4.own (i := l) (s := .ml []) f4 i4 (nob n2) ⟨p2, [], rfl, upd_same, c4.bs.nB (nob n2), .inr rfl, .nil⟩ trivial
  exact ⟨v, _, _, rfl, er.nx _ _ _ ⟨W', _, c5⟩ q2⟩⟩
theorem dPar3L_c {i j l : Nat} {fe : TD} {fa : TDA} {dd : DEnds} {R : Er → Prop} {ρ : List Sl} : dPar3L i j l fe fa dd R ρ = fe ρ (fun s => ∃ x, s.dat = some x ∧ fa ρ (fun ss => ss.length ≤ sizeLine ∧ ∃ ds, dats ss = some ds ∧ dd.nx (((ρ.set i (.d x)).set j (.ml ds)).set l (.ml []))) R) R := propext Iff.rfl
theorem fSum_l {ns : List Int} {Qd : Sl → Prop} : fInts gSum [.d (.list (ns.map PyData.int))] Qd = Qd (.d (.int ns.sum)) := by
  show (match (oAll dint (ns.map PyData.int)) with | some ns => gSum ns Qd | none => False) = _
  rw [ints_of]
  rfl
end
end Dl

namespace Dl
open PySem PySem.Spec PyProof.Rows L2
section
variable {K : PySem.W.Frag} {τ : List (Addr × Str)} {E : XK}
/-! ### return xs, a list of one's own -/
def tRetO (i : Nat) : TS := tRet (tVar i)
def dRetO (i : Nat) : TDS := fun dd R ρ => ∃ xs, ρ[i]? = some (.ml xs) ∧ dd.rt (.ml xs)
instance {i : Nat} : RefS K τ E (tRetO i) (dRetO i) := ⟨fun W A0 H0 D dd R H σ ρ gσ gρ b sr er ek h => by
  obtain ⟨W', A, c⟩ := sr
  obtain ⟨xs, e, q⟩ := h
  obtain ⟨v', ev, p, vs, e1, ep, nB, aP, r0⟩ := (c.env.pre c.lg).at_ _ _ e
  subst e1
  refine ⟨.ref p, ev, er.rt (.ref p) H (.ml xs) c.fr (c.wl.inv _ c.bs.inv) ⟨p, vs, rfl, c.new i p _ e trivial ev, ep, r0.go (goes_less fun a z => z.elim (c.a0 a) fun z => z ▸ aP)⟩ q⟩⟩
theorem dRetO_c {i : Nat} {dd : DEnds} {R : Er → Prop} {ρ : List Sl} : dRetO i dd R ρ = ∃ xs, ρ[i]? = some (.ml xs) ∧ dd.rt (.ml xs) := propext Iff.rfl
/-! ### xs += a new list -/
theorem ip_ext {X : Cx} : PIp X .Add rExt2 := iop_ext
def dExt (i : Nat) (fe : TD) : TDS := fun dd R ρ => match (ρ[i]?).getD .un with
  | .ml xs => fe ρ (fun s => ∃ ys, s = .ml ys ∧ xs.length + ys.length ≤ sizeLine ∧ dd.nx (ρ.set i (.ml (xs ++ ys)))) R
  | _ => False
instance {i : Nat} {t : TE} {f : TD} [ht : RefE K τ E t f] : RefS K τ E (tAug i t rExt2) (dExt i f) := ⟨fun W A0 H0 D dd R H σ ρ gσ gρ b sr er ek h => by
  obtain ⟨W', A, c⟩ := sr
  obtain ⟨xs, e, q⟩ := own_iff (P := fun xs => f ρ (fun s => ∃ ys, s = .ml ys ∧ xs.length + ys.length ≤ sizeLine ∧ dd.nx (ρ.set i (.ml (xs ++ ys)))) R) h
  obtain ⟨p, vs, ev, ep, nB, r0⟩ := c.own_at e
  refine ⟨.ref p, ev, ?_⟩
  refine ht.go W' A H σ ρ _ R _ (c.at_ ek) q fun y H1 s f1 i1 r1 q1 => ?_
  obtain ⟨ys, rfl, hs, q1⟩ := q1
  obtain ⟨p2, ws, rfl, n2, e2, r2⟩ := r1
  have c1 := c.step f1 i1
  have r01 := r0.go (goes_fr c.bs.ba f1)
  have r2' : RpAll K A H1 ws ys := r2.go (goes_less fun a z => .inl z)
  refine ⟨p, p2, vs, ws, rfl, rfl, f1.1 _ _ ep nt_lst nB, e2, by rw [r0.length, r2'.length]; exact hs, ?_⟩
  have hi := (List.getElem?_eq_some_iff.mp ev)
  have es : σ.set i (some (.ref p)) = σ := by
    have := List.set_getElem_self (as := σ) (i := i) hi.1
    rw [hi.2] at this
    exact this
  show D.nx (σ.set i (some (.ref p))) _
  rw [es]
  exact er.nx _ _ _ ⟨W', A, c1.mut e ev (r01.append r2')⟩ q1⟩
theorem dExt_c {i : Nat} {fe : TD} {dd : DEnds} {R : Er → Prop} {ρ : List Sl} {xs : List PyData} (e : ρ[i]? = some (.ml xs)) (h : fe ρ (fun s => ∃ ys, s = .ml ys ∧ xs.length + ys.length ≤ sizeLine ∧ dd.nx (ρ.set i (.ml (xs ++ ys)))) R) : dExt i fe dd R ρ := by
  unfold dExt
  rw [e]
  exact h
end
end Dl

namespace Dl
open PySem PySem.Spec PyProof.Rows L2
section
variable {K : PySem.W.Frag} {τ : List (Addr × Str)} {E : XK}
/-! ### isinstance of a list of one's own -/
def rIsiB (K : PySem.W.Frag) : List V → Hp → VK → Prop := rIsi K
theorem call_isiB {X : Cx} (h : X.K = K) : CallR X (.builtin "isinstance") (rIsiB K) := h ▸ call_isi
def fIsiB : List Sl → (Sl → Prop) → Prop := fun ss Qd => ∃ xs T, ss = [.bl xs, .raw (.ty T)] ∧ okTy T ∧ Qd (.d (.bool (isiD "list" T)))
instance : RefC K (rIsiB K) fIsiB := ⟨fun W A H0 H xs ss Qd Q b f i rx h w => by
  obtain ⟨ys, T, rfl, ok, q⟩ := h
  obtain ⟨v, u, rfl, r, r'⟩ := vlsr2 rx
  obtain rfl := r'.flat (u := .ty T) rfl
  obtain ⟨p, vs, rfl, sq, _⟩ := r
  exact ⟨.ref p, _, _, _, _, rfl, .ty T, .base (.lst sq.1), isi_kit (.list []) ok, w.here i _ q⟩⟩
end
end Dl

namespace Dl
open PySem PySem.Spec PyProof.Rows L2
section
variable {K : PySem.W.Frag} {τ : List (Addr × Str)} {E : XK}
/-! ### x in xs, of data of any depth -/
def rInD (K : PySem.W.Frag) : R2 := fun x y H Q => ∃ d ds, Dp K H x d ∧ Dp K H y (.list ds) ∧ d.canLay0 = true ∧ PyData.canLayAll0 ds = true ∧ d.depth ≤ 60 ∧ Q (.bl (ds.any fun z => PyData.eqv z d)) H
theorem op_inD {X : Cx} (hu : X.A.units + 64 < cLine) : OpR X (compareOp .In) (rInD X.K) := by
  intro pins s σ H x y v u Q I rx ry h
  obtain ⟨d, ds, px, py, l1, l2, dd, q⟩ := h
  obtain ⟨as, ra⟩ := Dp.reads I _ _ _ px rx
  obtain ⟨bs, rb⟩ := Dp.reads I _ _ _ py ry
  refine PySem.SeqAt.in_list_reads rb ra l2 l1 (by have := Nat.min_le_right (PyData.depthAll ds) d.depth; omega) ⟨.bl (ds.any fun z => PyData.eqv z d), H, I, rfl, q⟩
theorem op_inDK {X : Cx} (h : X.K = K) (hu : X.A.units + 64 < cLine) : OpR X (compareOp .In) (rInD K) := by
  subst h
  exact op_inD hu
def fInD : Sl → Sl → (Sl → Prop) → Prop := fun s u Qd => ∃ d ds, s.dat = some d ∧ u.seq = some ds ∧ d.canLay0 = true ∧ PyData.canLayAll0 ds = true ∧ d.depth ≤ 60 ∧ Qd (.d (.bool (ds.any fun z => PyData.eqv z d)))
instance : Ref2 K (rInD K) fInD := ⟨fun W A H0 H x y s u Qd Q b f i rx ry h w => by
  obtain ⟨d, ds, e1, e2, l1, l2, dd, q⟩ := h
  obtain ⟨p, vs, rfl, sq, r⟩ := ry.seq b e2
  exact ⟨d, ds, (rx.dat b e1).dp l1, .lst (sqLA_sq sq) (r.dp l2), l1, l2, dd, w.here i _ q⟩⟩
/-! ### xs.index(x), of data of any depth, where it is there -/
def rIdxD (K : PySem.W.Frag) : V → List V → Hp → VK → Prop := fun x xs H Q => ∃ (a : Addr) (vs : List V) (y : V) (d : PyData) (ds : List PyData) (j : Nat), x = .ref a ∧ xs = [y] ∧ SqL K H a vs ∧ DpAll K H vs ds ∧ Dp K H y d ∧ d.canLay0 = true ∧ PyData.canLayAll0 ds = true ∧ d.depth ≤ 60 ∧
  (ds.map fun z => PyData.eqv z d).idxOf true = j ∧ j < ds.length ∧ Q (.int (j : Int)) H
theorem lay_mem : ∀ {ds : List PyData} {z : PyData}, PyData.canLayAll0 ds = true → z ∈ ds → z.canLay0 = true
  | x :: r, z, h, hz => by
    rw [PyData.canLayAll0, Bool.and_eq_true] at h
    rcases List.mem_cons.mp hz with rfl | hz
    · exact h.1
    · exact lay_mem h.2 hz
theorem mt_idxD {X : Cx} (hu : X.A.units + 64 < cLine) : MtR X "list.index" (rIdxD X.K) := by
  intro pins s σ H x xs v us Q I rx rxs h
  obtain ⟨a, vs, y, d, ds, j, rfl, rfl, hs, pa, py, l1, l2, dd, ej, hj, q⟩ := h
  cases rx
  cases rxs with
  | cons ry rt =>
    cases rt
    obtain ⟨its, rv, hl, hz⟩ := I.list hs
    obtain ⟨as, ra⟩ := Dp.readsAll I _ _ _ pa rv
    obtain ⟨bs, rb⟩ := Dp.reads I _ _ _ py ry
    have hr : PySem.W.EachIs (fun v d => ∃ as, PySem.Reads s.heap v d as) its ds := PySem.W.readsAll_each id (bs := ds) (by rw [List.map_id]; exact ra)
    have hlen : its.length = ds.length := hr.length
    have each : ∀ {us : List Value} {zs : List PyData}, PySem.W.EachIs (fun v d => ∃ as, PySem.Reads s.heap v d as) us zs → ∀ (k : Nat) (h1 : k < us.length) (h2 : k < zs.length), ∃ as, PySem.Reads s.heap us[k] zs[k] as := by
      intro us zs e
      induction e with
      | nil => intro k h1; exact absurd h1 (Nat.not_lt_zero _)
      | cons a _ ih =>
        intro k h1 h2
        cases k with
        | zero => exact a
        | succ k => exact ih k (by simpa using h1) (by simpa using h2)
    refine PySem.SeqAt.call_list_index (ks := ds.map fun z => PyData.eqv z d) (k := true) hl.isList ⟨by rw [hlen, List.length_map], fun k h1 h2 => ?_⟩ (by rw [List.length_map, ← hlen, ← rv.length]; exact hz) ?_ ⟨.int (j : Int), H, I.tok _, ⟨_, by rw [ej]⟩, q⟩
    · rw [List.length_map] at h2
      obtain ⟨cs, rc⟩ := each hr k h1 h2
      have e := PySem.SeqAt.eqAt_reads ds[k] d X.A.in1 s its[k] _ cs bs rc rb (lay_mem l2 (List.getElem_mem h2)) l1 (by have := Nat.min_le_right ds[k].depth d.depth; show X.A.units + 1 + _ < cLine; omega)
      rw [List.getElem_map]
      have : decide (PyData.eqv ds[k] d = true) = PyData.eqv ds[k] d := by cases PyData.eqv ds[k] d <;> rfl
      rw [this]
      exact e
    · rw [← List.idxOf_lt_length_iff, ej, List.length_map]
      exact hj
def dIdx (fo : TD) (fa : TDA) : TD := fun ρ Qd R => fo ρ (fun s => ∃ ds, s.seq = some ds ∧ fa ρ (fun ss => ∃ d j, dats ss = some [d] ∧ d.canLay0 = true ∧ PyData.canLayAll0 ds = true ∧ d.depth ≤ 60 ∧ (ds.map fun z => PyData.eqv z d).idxOf true = j ∧ j < ds.length ∧ Qd (.d (.int (j : Int)))) R) R
instance {to : TE} {ta : TA} {fo : TD} {fa : TDA} [ho : RefE K τ E to fo] [ha : RefA K τ E ta fa] : RefE K τ E (tBM K "list" (rIdxD K) to ta) (dIdx fo fa) := ⟨fun W A H σ ρ Qd R Q a h w => by
  refine ho.go W A H σ ρ _ R _ a h fun x H1 s f1 i1 r1 q1 => ?_
  obtain ⟨ds, es, q1⟩ := q1
  obtain ⟨p, vs, rfl, sq, r⟩ := r1.seq a.bs es
  refine ⟨.inl ⟨rfl, _, sqLA_sq sq⟩, ?_⟩
  refine ha.go W A H1 σ ρ _ R _ (a.fr f1 i1) q1 fun ys H2 ss f2 i2 r2 q2 => ?_
  obtain ⟨d, j, ed, l1, l2, dd, ej, hj, q⟩ := q2
  have b1 := a.bs.fr f1 i1
  have rp := r2.dats b1 ed
  cases rp with
  | cons ry rt =>
    cases rt
    exact ⟨p, vs, _, d, ds, j, rfl, rfl, sqLA_sq (sqB_fr f2 sq), (r.go (goes_fr b1.ba f2)).dp l2, ry.dp l1, l1, l2, dd, ej, hj, (w.back (f1.trans f2)).here i2 _ q⟩⟩
end
end Dl

namespace Dl
open PySem PySem.Spec PyProof.Rows L2
/-! ### a def that is called where nothing is being shown: repr may be called in it -/
structure FnG (P : Program) (w : World) (K : PySem.W.Frag) (mg : Str → Option Value) (base : Heap) (k : Nat) (f : Addr) (fd : FuncData) (ps : List Str) (sp : Sp) : Prop where
  len : ∀ vs H Q E, sp vs H Q E → vs.length = ps.length
  run : ∀ (A : Around) (outer : List Env) (s : Shared) (H : Hp) (args : Args) (us : List Value) (vs : List V) (Q : VK), Room k A → A.guards = some [] → Env0 P w K mg base A outer s H → BindsTo s fd args (ps.zip us) → Vals vs us → sp vs H Q E0 →
    codeAny (model P w) A (.call (.ref f) args) (CR CX0 outer P w H s Q E0) s
theorem fnG_of {P : Program} {w : World} {K : PySem.W.Frag} {mg : Str → Option Value} {base : Heap} {x : Str} {st : Stmt} {f : Addr} {fd : FuncData} {N ps : List Str} {k : Nat} {sp : Sp} (F : Fun K x x st f fd) (S : FnScope N ps (defScope st)) (len : ∀ vs H Q E, sp vs H Q E → vs.length = ps.length)
    (body : ∀ (cdv : Value) (A : Around) (outer : List Env) (s : Shared) (H : Hp) (vs : List V) (Q : VK), Room k (A.deeper (envOfC x (defScope st) s.heap.objs.size f cdv)) → (A.deeper (envOfC x (defScope st) s.heap.objs.size f cdv)).guards = some [] → sp vs H Q E0 →
      ∃ t, PSs (cxOf CX0 P w K mg base N x (defScope st) f cdv A outer s H E0).nox (defBody st) t ∧ t { nx := fun _ G => Q .non G, rt := Q } (L2.start N vs) H) : FnG P w K mg base (k + 1) f fd ps sp := by
  obtain ⟨oc, od, kV, doc, pm, an, cdv, ct, osl, rfl, lk, hcd⟩ := F.ex
  refine ⟨len, fun A outer s H args us vs Q hr hgd e0 bnd rv hsp => ?_⟩
  have inK : K.In s.heap := e0.mod.kin.keeps fun b o e => (e0.bs b o e).1
  refine codeAny_call_function hr.depth (inK _ _ lk) rfl S.co S.gen rfl (PySem.W.codeRec_of inK hcd) (bnd _ _ _ _ ?_)
  refine wpAny_newFunctionEnv_cells S.kind (fun y hy => ?_) fun env he s1 inC => ?_
  · rcases S.par y.1 (List.of_mem_zip (show (y.1, y.2) ∈ ps.zip us from hy)).1 with z | z
    · exact .inl z
    · exact .inr ⟨z, PySem.W.cellsFrom_some _ _ _ (.inl z)⟩
  · subst he
    refine ⟨(e0.mod.nolimit.keeps fun b o e => (e0.bs b o e).1).keeps inC.toInCall.keep, codeAny_func ?_⟩
    obtain ⟨t, ht, hq⟩ := body cdv A outer s H vs Q (hr.deeper _) hgd hsp
    have J : L2.Inv (cxOf CX0 P w K mg base N x (defScope st) f cdv A outer s H E0) [] (L2.start N vs) H s1 := inv_start S hr.hd e0 (len _ _ _ _ hsp) rv inC
    refine wpAny_mono (ht.nox.run [] s1 (L2.start N vs) H _ J hq) (fun fl s' hs => ?_) fun e s' hs => hs
    cases fl with
    | ret u =>
      obtain ⟨v, σ', H', J', rv', q⟩ := hs
      exact ⟨v, H', J'.os, J'.bare, J'.base, J'.hok, rv', q⟩
    | next =>
      obtain ⟨σ', H', J', q⟩ := hs
      exact ⟨.non, H', J'.os, J'.bare, J'.base, J'.hok, rfl, q⟩
    | brk =>
      obtain ⟨_, _, _, q⟩ := hs
      exact q.elim
    | cont =>
      obtain ⟨_, _, _, q⟩ := hs
      exact q.elim
theorem pe_callG {X : Cx} {k : Nat} {f : Addr} {fd : FuncData} {ps : List Str} {sp : Sp} {x : Str} {u1 u2 : Pos} {e : Expr} {es : List Expr} {t : TA} (F : FnG X.prog X.w X.K X.mg X.base k f fd ps sp) (hr : Room k X.A) (hgd : X.A.guards = some []) (hg : Gl X x) (hm : X.mg x = some (.ref f))
    (hk : PySem.W.keepIn X.K (.ref f) = true) (hb : L2.Binds X.K fd ps []) (ha : PA X (e :: es) t) (hdb : (x == ("__debug__" : Str)) = false := by decide) (he : starEach (e :: es) X.env = (false, eval e X.env) :: starEach es X.env := by rfl) (hpl : (backTo u2 (starEach es X.env)).any (·.1) = false := by rfl) :
    PE X (.Call (.Name x u1) (e :: es) [] u2) (tCall sp [] E0 t) := by
  refine ⟨fun pins s σ H Q I h => wpAny_Call_Name_kw (ld_glob I hg hm ?_ hdb)⟩
  refine PySem.W.callWith_K (h₀ := X.base) I.ok.mod.kin hk (thn (ha.run u2 pins s σ H _ I h) fun us t1 ⟨vs, G, J, rv, q⟩ => ⟨J.kIn, ?_⟩) he hpl
  have q : sp (vs ++ []) G Q E0 := q
  rw [List.append_nil] at q
  have hl : us.length = ps.length := by
    rw [← rv.length]
    exact F.len _ _ _ _ q
  have bnd := hb t1 us J.kIn (by rw [List.append_nil]; exact hl)
  rw [List.append_nil] at bnd
  refine wpAny_call (codeAny_mono (F.run X.A X.stack t1 G ⟨us, []⟩ us vs Q hr hgd J.env0 bnd rv q) fun r s' hq => ?_)
  cases r with
  | error e => exact (show False from hq).elim
  | ok fl =>
    cases fl with
    | ret u => exact J.after hq
    | next => exact (show False from hq).elim
    | brk => exact (show False from hq).elim
    | cont => exact (show False from hq).elim
/-- by data -/
theorem okG {P : Program} {w : World} {K : PySem.W.Frag} {mg : Str → Option Value} {base : Heap} {x : Str} {st : Stmt} {f : Addr} {fd : FuncData} {N ps : List Str} {k : Nat} {ms : List Bool} {sp : SpD} (F : Fun K x x st f fd) (S : FnScope N ps (defScope st)) (hl : ∀ ss Qd R, sp ss Qd R → ss.length = ps.length)
    (body : ∀ (cdv : Value) (A : Around) (outer : List Env) (s : Shared) (H : Hp), Room k (A.deeper (envOfC x (defScope st) s.heap.objs.size f cdv)) → (A.deeper (envOfC x (defScope st) s.heap.objs.size f cdv)).guards = some [] → ∃ t, PSs (cxOf CX0 P w K mg base N x (defScope st) f cdv A outer s H E0).nox (defBody st) t ∧ Reads K E0 t N sp) :
    FnG P w K mg base (k + 1) f fd ps (spD K ms sp) :=
  fnG_of F S (VlsR.len_sp hl) fun cdv A outer s H vs Q hr hgd h => by
    obtain ⟨t, h1, h2⟩ := body cdv A outer s H hr hgd
    exact ⟨t, h1, h2.run h⟩
end Dl

namespace Dl
open PySem PySem.Spec PyProof.Rows L2
/-! ### such a def that makes lambdas, too: its code object and the tables are known -/
def ReadsT (K : PySem.W.Frag) (E : XK) (τ : List (Addr × Str)) (t : TS) (N : List Str) (sp : SpD) : Prop := ∃ g, RefS K τ E t g ∧ ∀ ss Qd R, sp ss Qd R → g { nx := fun _ => Qd (.d .none), rt := Qd } R (startD N ss)
theorem ReadsT.run {K : PySem.W.Frag} {E : XK} {τ : List (Addr × Str)} {t : TS} {N : List Str} {sp : SpD} (h : ReadsT K E τ t N sp) {vs : List V} {H : Hp} {Q : VK} (hs : spDT K τ sp vs H Q E) : t { nx := fun _ H' => Q .non H', rt := Q } (L2.start N vs) H := by
  obtain ⟨g, hg, h⟩ := h
  obtain ⟨W, A, ss, Qd, R, b, r, ar, q, w, ek⟩ := hs
  have env := env_start (N := N) r ar
  refine hg.go W A H _ { nx := fun _ => Qd (.d .none), rt := Qd } R H _ _ [] [] b ⟨W, A, WLe.refl W H, fun _ z => z, b, Fr.refl H, by rw [List.append_nil, List.append_nil]; exact env, env.len, fun i p t e k _ => ?_⟩ ⟨fun H' σ ρ sr z => ?_, fun v H' s f i r z => w v H' s f i r z, fun H' σ ρ sr z => False.elim z, fun H' σ ρ sr z => False.elim z⟩ ek (h ss Qd R q)
  · have := List.mem_of_getElem? e
    rcases List.mem_append.mp this with z | z
    · have := ar _ z
      cases t <;> first | exact this.elim | exact k.elim
    · rw [(List.mem_replicate.mp z).2] at k
      exact k.elim
  · obtain ⟨W', A', c⟩ := sr
    exact w .non H' (.d .none) c.fr (c.wl.inv _ c.bs.inv) Rp.non z
/-- a def of the text whose code object is known -/
def DfC (K : PySem.W.Frag) (mg : Str → Option Value) (x : Str) (st : Stmt) (ps : List Str) (c : Addr) : Prop := ∃ (f : Addr) (oc : Value) (od : Option Addr) (kV doc pm : Value) (an : Option Addr) (ct : Value) (osl : Array (Option Value)),
  K.lookup f = some ⟨oc, od, .func (PySem.W.fnOf x x (defArgs st) (defBody st) (defScope st) .none kV doc pm an (.ref c) ct), osl⟩ ∧ PySem.W.codeIn K (.ref c) x = true ∧ PySem.W.keepIn K (.ref f) = true ∧ mg x = some (.ref f) ∧ Binds K (PySem.W.fnOf x x (defArgs st) (defBody st) (defScope st) .none kV doc pm an (.ref c) ct) ps []
/-- one that can be called by its name where nothing is being shown -/
structure CbG (P : Program) (w : World) (K : PySem.W.Frag) (mg : Str → Option Value) (base : Heap) (k : Nat) (x : Str) (ps : List Str) (sp : Sp) : Prop where
  ex : ∃ f fd, FnG P w K mg base k f fd ps sp ∧ mg x = some (.ref f) ∧ PySem.W.keepIn K (.ref f) = true ∧ Binds K fd ps []
theorem pe_cbG {X : Cx} {k : Nat} {ps : List Str} {sp : Sp} {x : Str} {p pos : Pos} {e : Expr} {es : List Expr} {t : TA} (h : CbG X.prog X.w X.K X.mg X.base k x ps sp) (hr : Room k X.A) (hgd : X.A.guards = some []) (hg : Gl X x) (ha : PA X (e :: es) t)
    (hdb : (x == ("__debug__" : Str)) = false := by decide) (he : starEach (e :: es) X.env = (false, eval e X.env) :: starEach es X.env := by rfl) (hpl : (backTo pos (starEach es X.env)).any (·.1) = false := by rfl) : PE X (.Call (.Name x p) (e :: es) [] pos) (tCall sp [] E0 t) := by
  obtain ⟨f, fd, F, hm, hk, hb⟩ := h.ex
  exact pe_callG F hr hgd hg hm hk hb ha hdb he hpl
theorem okGT {P : Program} {w : World} {K : PySem.W.Frag} {mg : Str → Option Value} {base : Heap} {x : Str} {st : Stmt} {c : Addr} {N ps : List Str} {k : Nat} {τ : List (Addr × Str)} {sp : SpD} (F : DfC K mg x st ps c) (S : FnScope N ps (defScope st)) (hl : ∀ ss Qd R, sp ss Qd R → ss.length = ps.length)
    (body : ∀ (f : Addr) (A : Around) (outer : List Env) (s : Shared) (H : Hp), Room k (A.deeper (envOfC x (defScope st) s.heap.objs.size f (.ref c))) → (A.deeper (envOfC x (defScope st) s.heap.objs.size f (.ref c))).guards = some [] → ∃ t, PSs (cxOf CX0 P w K mg base N x (defScope st) f (.ref c) A outer s H E0).nox (defBody st) t ∧ ReadsT K E0 τ t N sp) :
    CbG P w K mg base (k + 1) x ps (spDT K τ sp) := by
  obtain ⟨f, oc, od, kV, doc, pm, an, ct, osl, lk, hcd, kp, gm, bd⟩ := F
  have len : ∀ vs H Q E, spDT K τ sp vs H Q E → vs.length = ps.length := fun vs H Q E ⟨W, A, ss, Qd, R, b, r, ar, q, w, ek⟩ => by
    rw [r.length]
    exact hl ss Qd R q
  refine ⟨f, _, ⟨len, fun A outer s H args us vs Q hr hgd e0 bnd rv hsp => ?_⟩, gm, kp, bd⟩
  have inK : K.In s.heap := e0.mod.kin.keeps fun b o e => (e0.bs b o e).1
  refine codeAny_call_function hr.depth (inK _ _ lk) rfl S.co S.gen rfl (PySem.W.codeRec_of inK hcd) (bnd _ _ _ _ ?_)
  refine wpAny_newFunctionEnv_cells S.kind (fun y hy => ?_) fun env he s1 inC => ?_
  · rcases S.par y.1 (List.of_mem_zip (show (y.1, y.2) ∈ ps.zip us from hy)).1 with z | z
    · exact .inl z
    · exact .inr ⟨z, PySem.W.cellsFrom_some _ _ _ (.inl z)⟩
  · subst he
    refine ⟨(e0.mod.nolimit.keeps fun b o e => (e0.bs b o e).1).keeps inC.toInCall.keep, codeAny_func ?_⟩
    obtain ⟨t, ht, hq⟩ := body f A outer s H (hr.deeper _) hgd
    have J : L2.Inv (cxOf CX0 P w K mg base N x (defScope st) f (.ref c) A outer s H E0) [] (L2.start N vs) H s1 := inv_start S hr.hd e0 (len _ _ _ _ hsp) rv inC
    refine wpAny_mono (ht.nox.run [] s1 (L2.start N vs) H _ J (hq.run hsp)) (fun fl s' hs => ?_) fun e s' hs => hs
    cases fl with
    | ret u =>
      obtain ⟨v, σ', H', J', rv', q⟩ := hs
      exact ⟨v, H', J'.os, J'.bare, J'.base, J'.hok, rv', q⟩
    | next =>
      obtain ⟨σ', H', J', q⟩ := hs
      exact ⟨.non, H', J'.os, J'.bare, J'.base, J'.hok, rfl, q⟩
    | brk =>
      obtain ⟨_, _, _, q⟩ := hs
      exact q.elim
    | cont =>
      obtain ⟨_, _, _, q⟩ := hs
      exact q.elim
end Dl

namespace Dl
open PySem PySem.Spec PyProof.Rows L2
/-! ### a block: xs = [a new list for ..], then for ..: xs[k] += a new list -/
section
variable {K : PySem.W.Frag} {τ : List (Addr × Str)} {E : XK}
def AL (A : Addr → Prop) (L : Addr) (as : List Addr) : Addr → Prop := fun x => A x ∨ x = L ∨ x ∈ as
structure LF (K : PySem.W.Frag) (A : Addr → Prop) (Hb G : Hp) (L : Addr) (as : List Addr) (rows : List (List PyData)) : Prop where
  nL : ¬ Ob Hb L
  eL : G L = some (.lst (as.map V.ref))
  nd : as.Nodup
  nin : L ∉ as
  fresh : ∀ a ∈ as, ¬ Ob Hb a
  rows_ : Paired (fun a row => ∃ vs, G a = some (.lst vs) ∧ RpAll K (AL A L as) G vs row) as rows
theorem paired_mem {α β : Type} {R : α → β → Prop} : ∀ {xs : List α} {ys : List β} {x : α}, Paired R xs ys → x ∈ xs → ∃ y, R x y
  | _, _, _, .nil, h => nomatch h
  | _, _, x, .cons h r, hx => by
    rcases List.mem_cons.mp hx with e | hx
    · subst e
      exact ⟨_, h⟩
    · exact paired_mem r hx
theorem paired_len {α β : Type} {R : α → β → Prop} : ∀ {xs : List α} {ys : List β}, Paired R xs ys → xs.length = ys.length
  | _, _, .nil => rfl
  | _, _, .cons _ r => by rw [List.length_cons, List.length_cons, paired_len r]
variable {W : Wld τ} {A : Addr → Prop} {Hb G G' : Hp} {L : Addr} {as : List Addr} {rows : List (List PyData)}
theorem LF.step (h : LF K A Hb G L as rows) (b : Bs W A Hb) (f : Fr W.B G G') : LF K A Hb G' L as rows :=
  ⟨h.nL, f.1 _ _ h.eL nt_lst (b.nB h.nL), h.nd, h.nin, h.fresh, paired_imp h.rows_ fun a row ha ⟨vs, e, r⟩ => ⟨vs, f.1 _ _ e nt_lst (b.nB (h.fresh a ha)), r.go (goes_fr (fun a z => .inl (b.ba a z)) f)⟩⟩
theorem LF.ob (h : LF K A Hb G L as rows) {x : Addr} (hx : x = L ∨ x ∈ as) : Ob G x := by
  rcases hx with rfl | hx
  · exact ⟨_, h.eL, nt_lst⟩
  · obtain ⟨row, vs, e, _⟩ := paired_mem h.rows_ hx
    exact ⟨_, e, nt_lst⟩
theorem LF.nHb (h : LF K A Hb G L as rows) {x : Addr} (hx : x = L ∨ x ∈ as) : ¬ Ob Hb x := by
  rcases hx with rfl | hx
  · exact h.nL
  · exact h.fresh x hx
theorem LF.ntp (h : LF K A Hb G L as rows) {x : Addr} {xs : List V} (hx : x = L ∨ x ∈ as) : G x ≠ some (.tup xs) := fun z => by
  rcases hx with rfl | hx
  · rw [h.eL] at z
    cases z
  · obtain ⟨row, vs, e, _⟩ := paired_mem h.rows_ hx
    rw [e] at z
    cases z
theorem LF.bs (h : LF K A Hb G L as rows) (b : Bs W A Hb) (f : Fr W.B Hb G) (i : W.I G) : Bs W (AL A L as) G := ⟨fun a z => .inl (b.ba a z), fun a z => by
  rcases z with z | z
  · exact f.2 a (b.dom a z)
  · exact h.ob z, i, fun a xs z e => z.elim (fun z => (b.fr f i).nt a xs z e) fun z => h.ntp z e⟩
theorem LF.goes (h : LF K A Hb G L as rows) : Goes A (AL A L as) Hb Hb := fun c o ec t nc => ⟨ec, fun z => by
  rcases z with z | z
  · exact nc z
  · exact h.nHb z ⟨o, ec, t⟩⟩
theorem LF.env {σ : L2.St} {ρ : List Sl} (h : LF K A Hb G L as rows) (b : Bs W A Hb) (f : Fr W.B Hb G) (e : EnvR K W A Hb σ ρ) : EnvR K W (AL A L as) G σ ρ := (e.grow h.goes fun a z => .inl z).fr (fun a z => .inl (b.ba a z)) f
theorem LF.at_ {σ : L2.St} {ρ : List Sl} {R : Er → Prop} (h : LF K A Hb G L as rows) (a0 : At K W A E Hb σ ρ R) (f : Fr W.B Hb G) (i : W.I G) : At K W (AL A L as) E G σ ρ R :=
  ⟨h.bs a0.bs f i, h.env a0.bs f a0.env, fun er x H2 f2 i2 z r => a0.er er x H2 (f.trans f2) i2 (z.mono fun a q => .inl q) r⟩
theorem LF.first (n : Hb L = none) : LF K A Hb (upd Hb L (.lst [])) L [] [] := ⟨nob n, upd_same, List.nodup_nil, List.not_mem_nil, (fun _ h => nomatch h), Paired.nil⟩
/-- one more list -/
theorem LF.snoc {p : Addr} {us : List V} {row : List PyData} (h : LF K A Hb G L as rows) (b : Bs W A Hb) (f0 : Fr W.B Hb G) (f : Fr W.B G G') (np : ¬ Ob G p) (e1 : G' p = some (.lst us)) (r : RpAll K (fun a => AL A L as a ∨ a = p) G' us row) :
    LF K A Hb (upd G' L (.lst (as.map V.ref ++ [.ref p]))) L (as ++ [p]) (rows ++ [row]) := by
  have npL : p ≠ L := fun z => np (h.ob (.inl z))
  have npa : p ∉ as := fun z => np (h.ob (.inr z))
  have npb : ¬ Ob Hb p := fun z => np (f0.2 p z)
  refine ⟨h.nL, by rw [upd_same, List.map_append]; rfl, List.nodup_append.mpr ⟨h.nd, by simp, fun x hx y hy => by
      rw [List.mem_singleton.mp hy]
      exact fun z => npa (z ▸ hx)⟩, fun z => ?_, fun x hx => ?_, ?_⟩
  · rcases List.mem_append.mp z with z | z
    · exact h.nin z
    · exact npL (List.mem_singleton.mp z).symm
  · rcases List.mem_append.mp hx with z | z
    · exact h.fresh x z
    · rw [List.mem_singleton.mp z]
      exact npb
  · refine paired_snoc (paired_imp h.rows_ fun x row hx ⟨vs, e, r⟩ => ⟨vs, ?_, r.go fun c o ec t nc => ?_⟩) ⟨us, ?_, r.go fun c o ec t nc => ?_⟩
    · rw [upd_ne (ne_in h.nin hx)]
      exact f.1 _ _ e nt_lst (b.nB (h.fresh x hx))
    · have c1 : c ≠ L := fun z => nc (.inr (.inl z))
      refine ⟨by rw [upd_ne c1]; exact f.1 c o ec t fun z => nc (.inl (b.ba c z)), fun z => ?_⟩
      rcases z with z | z | z
      · exact nc (.inl z)
      · exact c1 z
      · rcases List.mem_append.mp z with z | z
        · exact nc (.inr (.inr z))
        · rw [List.mem_singleton.mp z] at ec
          exact np ⟨o, ec, t⟩
    · rw [upd_ne npL]
      exact e1
    · have c1 : c ≠ L := fun z => nc (.inl (.inr (.inl z)))
      refine ⟨by rw [upd_ne c1]; exact ec, fun z => ?_⟩
      rcases z with z | z | z
      · exact nc (.inl (.inl z))
      · exact c1 z
      · rcases List.mem_append.mp z with z | z
        · exact nc (.inl (.inr (.inr z)))
        · exact nc (.inr (List.mem_singleton.mp z))
/-- one of them grows -/
theorem LF.ext {a : Addr} {n : Nat} {vs us : List V} {row ys : List PyData} (h : LF K A Hb G L as rows) (ea : as[n]? = some a) (ev : G a = some (.lst vs)) (er : rows[n]? = some row) (r : RpAll K (AL A L as) G us ys) :
    LF K A Hb (upd G a (.lst (vs ++ us))) L as (rows.set n (row ++ ys)) := by
  have ma := List.mem_of_getElem? ea
  obtain ⟨a', ea', vs', ev', rv⟩ := paired_at h.rows_ er
  rw [ea] at ea'
  cases ea'
  rw [ev] at ev'
  cases ev'
  have go : Goes (AL A L as) (AL A L as) G (upd G a (.lst (vs ++ us))) := fun b o e _ n => ⟨by rw [upd_ne (show b ≠ a from fun z => n (.inr (.inr (z ▸ ma))))]; exact e, n⟩
  refine ⟨h.nL, ?_, h.nd, h.nin, h.fresh, ?_⟩
  · rw [upd_ne (show L ≠ a from fun z => h.nin (z ▸ ma))]
    exact h.eL
  · have key : ∀ {xs : List Addr} {zs : List (List PyData)} {j : Nat}, Paired (fun a row => ∃ vs, G a = some (.lst vs) ∧ RpAll K (AL A L as) G vs row) xs zs → xs.Nodup → xs[j]? = some a → Paired (fun x row => ∃ vs', (upd G a (.lst (vs ++ us))) x = some (.lst vs') ∧ RpAll K (AL A L as) (upd G a (.lst (vs ++ us))) vs' row) xs (zs.set j (row ++ ys)) := by
      intro xs zs j p
      induction p generalizing j with
      | nil => intro _ e; simp at e
      | @cons x y xs zs q r' ih =>
        intro nd e
        obtain ⟨n1, n2⟩ := List.nodup_cons.mp nd
        cases j with
        | zero =>
          simp at e
          subst e
          refine .cons ⟨_, upd_same, (rv.go go).append (r.go go)⟩ (paired_imp r' fun z row hz ⟨us, e1, r1⟩ => ⟨us, ?_, r1.go go⟩)
          rw [upd_ne (show z ≠ _ from ne_in n1 hz)]
          exact e1
        | succ j =>
          simp at e
          obtain ⟨us, e1, r1⟩ := q
          refine .cons ⟨us, ?_, r1.go go⟩ (ih n2 e)
          rw [upd_ne (show x ≠ a from (ne_in n1 (List.mem_of_getElem? e)).symm)]
          exact e1
    exact key h.rows_ h.nd ea
theorem LF.self (h : LF K A Hb G L as rows) : upd G L (.lst (as.map V.ref)) = G := by
  funext x
  by_cases e : x = L
  · subst e
    rw [upd_same, h.eL]
  · rw [upd_ne e]
/-- as data -/
theorem LF.all (h : LF K A Hb G L as rows) (b : Bs W A Hb) : RpAll K (fun a => A a ∨ a = L) G (as.map V.ref) (rows.map PyData.list) := by
  have key : ∀ {xs : List Addr} {ys : List (List PyData)}, Paired (fun a row => ∃ vs, G a = some (.lst vs) ∧ RpAll K (AL A L as) G vs row) xs ys → (∀ x ∈ xs, x ∈ as) → RpAll K (fun a => A a ∨ a = L) G (xs.map V.ref) (ys.map PyData.list) := by
    intro xs ys p
    induction p with
    | nil => intro _; exact .nil
    | @cons x y xs ys q r ih =>
      intro hm
      obtain ⟨vs, e, rr⟩ := q
      have mx := hm x List.mem_cons_self
      refine .cons (.lst ⟨e, fun z => ?_⟩ (rr.go (goes_less fun a z => z.elim .inl fun z => .inr (.inl z)))) (ih fun z hz => hm z (List.mem_cons_of_mem _ hz))
      rcases z with z | z
      · exact b.nA (h.fresh x mx) z
      · exact h.nin (z ▸ mx)
  exact key h.rows_ fun _ z => z
end
end Dl

namespace Dl
open PySem PySem.Spec PyProof.Rows L2
section
variable {K : PySem.W.Frag} {τ : List (Addr × Str)} {E : XK}
def lcO (fg : FG) (fe : TD) (ρ : List Sl) (R : Er → Prop) (Q : List (List PyData) → Prop) : List PyData → List (List PyData) → Prop
  | [], acc => Q acc
  | d :: r, acc => fg d ρ fun ρ' => fe ρ' (fun s => ∃ row, s = .ml row ∧ acc.length < sizeLine ∧ lcO fg fe ρ R Q r (acc ++ [row])) R
theorem lc_own {wi : TI} {g : TG} {te : TE} {vs sl : List Nat} {fi : TDI} {fg : FG} {fe : TD} (hi : RefJ K τ E wi fi) (hg : RefG K g fg sl) (he : RefE K τ E te fe) (inc : Inc sl vs) {W : Wld τ} {A : Addr → Prop} {H : Hp} {σ : L2.St} {ρ : List Sl} {R : Er → Prop} {Q : VK} {Qd : List (List PyData) → Prop}
    (a : At K W A E H σ ρ R) (h : fi ρ (fun ds => lcO fg fe (wipeD ρ vs) R Qd ds []) R)
    (w : ∀ (Hb G : Hp) (L : Addr) (as : List Addr) (rows : List (List PyData)), Fr W.B H Hb → W.I Hb → Fr W.B Hb G → W.I G → LF K A Hb G L as rows → Qd rows → Q (.ref L) G) : tLc wi g tYes te vs σ H Q := by
  refine hi.go W A H σ ρ _ R _ a h fun J H1 ds f1 i1 jt q => ?_
  intro D nD
  have a1 := a.fr f1 i1
  have nB : ¬ W.B D := a1.bs.nB (nob nD)
  refine ⟨fun i m H' => m = ds.length - i ∧ i ≤ ds.length ∧ Fr W.B H1 H' ∧ W.I H' ∧ ∃ as rows, LF K A H1 H' D as rows ∧ lcO fg fe (wipeD ρ vs) R Qd (ds.drop i) rows,
    ⟨ds.length, by omega, by omega, Fr.of (same_new nD), W.stay _ _ (same_new nD) i1, [], [], LF.first nD, q⟩, ?_⟩
  rintro i m H' ⟨rfl, hi', f', i', as, rows, hL, q'⟩
  have aH := hL.at_ a1 f' i'
  obtain ⟨j1, j2, j3⟩ := jt _ H' i aH.bs hL.goes f'
  by_cases hlt : i < ds.length
  · rw [List.drop_eq_getElem_cons hlt] at q'
    refine .inr ⟨j1 hlt, fun H2 => i + 1 ≤ ds.length ∧ Fr W.B H1 H2 ∧ W.I H2 ∧ ∃ as rows, LF K A H1 H2 D as rows ∧ lcO fg fe (wipeD ρ vs) R Qd (ds.drop (i + 1)) rows, fun H2 z => ⟨ds.length - (i + 1), by omega, rfl, z⟩, fun x H2 y => ?_⟩
    obtain ⟨sm, rx⟩ := j3 x H2 ds[i] (List.getElem?_eq_getElem hlt) y
    have f2 : Fr W.B H' H2 := Fr.of sm
    have i2 := W.stay _ _ sm i'
    have a2 := aH.fr f2 i2
    have ew : EnvR K W (AL A D as) H2 (wipe σ vs ++ []) (wipeD ρ vs ++ []) := by
      rw [List.append_nil, List.append_nil]
      exact a2.env.wipe vs
    refine hg.go W (AL A D as) H2 (wipe σ vs) (wipeD ρ vs) [] [] x ds[i] _ _ ew (a2.env.wipe vs).len rx q' fun σ3 ρ3 e3 l3 d3 _ q3 => ?_
    rw [List.append_nil, List.append_nil] at e3
    have ww : wipe σ3 vs = wipe σ vs := by
      have z := d3 vs inc.h
      rw [z]
      refine List.ext_getElem? fun j => ?_
      rw [wipe_get, wipe_get]
      by_cases hj : j ∈ vs
      · rw [if_pos hj, if_pos hj]
        cases σ[j]? <;> rfl
      · rw [if_neg hj, if_neg hj]
    refine ⟨ww, ?_⟩
    have a3 : At K W (AL A D as) E H2 σ3 ρ3 R := ⟨a2.bs, e3, a2.er⟩
    simp only [tYes, reduceIte]
    refine (he.go W (AL A D as) H2 σ3 ρ3 _ R _ a3 q3 fun y H4 s f4 i4 r4 q5 => ?_)
    obtain ⟨row, rfl, hs, q6⟩ := q5
    obtain ⟨p, us, rfl, np, e1, r⟩ := r4
    have hL2 := hL.step a1.bs f2
    have eD4 : H4 D = some (.lst (as.map V.ref)) := f4.1 _ _ hL2.eL nt_lst nB
    have hl := paired_len hL.rows_
    refine ⟨as.map V.ref, eD4, by rw [List.length_map, hl]; exact hs, hlt, ?_, W.own H4 D _ _ i4 eD4 (.lst _) (.lst _) nB, _, _, hL2.snoc a1.bs (f'.trans f2) f4 np e1 r, q6⟩
    refine ⟨fun c o ec t nc => ?_, fun c hc => ?_⟩
    · rw [upd_ne (ne_of_none ec nD)]
      exact ((f'.trans f2).trans f4).1 c o ec t nc
    · by_cases e : c = D
      · subst e
        exact ⟨_, upd_same, nt_lst⟩
      · obtain ⟨o, e1, t1⟩ := ((f'.trans f2).trans f4).2 c hc
        exact ⟨o, (upd_ne e).trans e1, t1⟩
  · have e : i = ds.length := by omega
    subst e
    rw [List.drop_length] at q'
    exact .inl ⟨j2 (Nat.le_refl _), w H1 H' D as rows f1 i1 f' i' hL q'⟩
def Sl.noB : Sl → Bool
  | .bl _ => false
  | .bo _ => false
  | _ => true
theorem noB_own {s : Sl} (h : s.noB = true) (k : s.foot) : s.isOwn := by cases s <;> first | trivial | cases h | exact k.elim
theorem env_mut {W : Wld τ} {A : Addr → Prop} {G : Hp} {σ : L2.St} {ρ : List Sl} {a : Addr} {o : HO} (e : EnvR K W A G σ ρ) (ha : A a) (inn : ∀ (j : Nat) (q : Addr) (s : Sl), ρ[j]? = some s → s.foot → σ[j]? = some (some (.ref q)) → q ≠ a) : EnvR K W A (upd G a o) σ ρ := by
  have g : Goes A A G (upd G a o) := fun b o eb _ nb => ⟨(upd_ne fun (z : b = a) => nb (by rw [z]; exact ha)).trans eb, nb⟩
  refine ⟨e.len, fun j s ej => ?_, e.dis⟩
  obtain ⟨w, ew, q⟩ := e.at_ j s ej
  refine ⟨w, ew, ?_⟩
  have far : s.foot → ∀ q' : Addr, w = some (.ref q') → q' ≠ a := fun hf q' e1 => inn j q' s ej hf (by rw [ew, e1])
  cases s with
  | un => exact q
  | d x =>
    obtain ⟨u, e1, r1⟩ := q
    exact ⟨u, e1, r1.go g⟩
  | ml zs =>
    obtain ⟨q', ws, f1, f2, f3, f4, f5⟩ := q
    exact ⟨q', ws, f1, (upd_ne (far trivial q' f1)).trans f2, f3, f4, f5.go g⟩
  | bl zs =>
    obtain ⟨q', ws, f1, f2, f3⟩ := q
    exact ⟨q', ws, f1, ⟨(upd_ne (far trivial q' f1)).trans f2.1, f2.2⟩, f3.go g⟩
  | st => exact q
  | scr ns => exact q
  | raw u => exact q
  | mo o =>
    obtain ⟨q', ws, f1, f2, f3, f4, f5⟩ := q
    exact ⟨q', ws, f1, (upd_ne (far trivial q' f1)).trans f2, f3, f4, f5.go g⟩
  | bo o =>
    obtain ⟨q', ws, f1, f2, f3, f4⟩ := q
    exact ⟨q', ws, f1, (upd_ne (far trivial q' f1)).trans f2, f3, f4.go g⟩
def forB (r : Nat) (fg : FG) (fk fe : TD) (dd : DEnds) (R : Er → Prop) : List PyData → List (List PyData) → List Sl → Prop
  | [], rows, ρ => dd.nx (ρ.set r (.ml (rows.map PyData.list)))
  | d :: ds, rows, ρ => fg d ρ fun ρ' => ρ'[r]? = ρ[r]? ∧ ρ'.all Sl.noB = true ∧ fk ρ' (fun s => ∃ (n : Nat) (row : List PyData), s = .d (.int (n : Int)) ∧ rows[n]? = some row ∧ fe ρ' (fun s2 => ∃ ys, s2 = .ml ys ∧ row.length + ys.length ≤ sizeLine ∧ forB r fg fk fe dd R ds (rows.set n (row ++ ys)) ρ') R) R
def tBlk (K : PySem.W.Frag) (r : Nat) (wi : TI) (g : TG) (te : TE) (vs : List Nat) (wi2 : TI) (g2 : TG) (tk te2 : TE) : TS := tSeq (tAsg (tLc wi g tYes te vs) (gName r)) (tFor wi2 g2 (tAugS (tVar r) tk te2 (rIxL K) rExt2 rSetL))
def dBlk (r : Nat) (fi : TDI) (fg : FG) (fe : TD) (vs : List Nat) (fi2 : TDI) (fg2 : FG) (fk fe2 : TD) : TDS := fun dd R ρ => fi ρ (fun ds => lcO fg fe (wipeD ρ vs) R (fun rows => r < ρ.length ∧ ∀ L : Addr, fi2 (ρ.set r (.raw (.ref L))) (fun ds2 => forB r fg2 fk fe2 dd R ds2 rows (ρ.set r (.raw (.ref L)))) R) ds []) R
set_option maxHeartbeats 2000000 in
instance {r : Nat} {wi wi2 : TI} {g g2 : TG} {te tk te2 : TE} {vs sl sl2 : List Nat} {fi fi2 : TDI} {fg fg2 : FG} {fe fk fe2 : TD} [hi : RefJ K τ E wi fi] [hg : RefG K g fg sl] [he : RefE K τ E te fe] [inc : Inc sl vs] [hi2 : RefI K τ E wi2 fi2] [hg2 : RefG K g2 fg2 sl2] [hk : RefE K τ E tk fk] [he2 : RefE K τ E te2 fe2] : RefS K τ E (tBlk K r wi g te vs wi2 g2 tk te2) (dBlk r fi fg fe vs fi2 fg2 fk fe2) := ⟨fun W0 A0 H0 D dd R H σ ρ gσ gρ b sr er ek h => by
  obtain ⟨W, A, c⟩ := sr
  unfold tBlk tSeq
  show tAsg (tLc wi g tYes te vs) (gName r) _ σ H
  unfold tAsg gName
  refine lc_own hi hg he inc (c.at_ ek) h fun Hb G0 L as rows0 fHb iHb f0 i0 hL0 q => ?_
  obtain ⟨hr, q⟩ := q
  have c1 := c.step fHb iHb
  have c2 := c1.set (i := r) (v := .ref L) (s := .raw (.ref L)) trivial rfl
  have a2 := c2.at_ ek
  have gl : gσ.length = gρ.length := by
    have := c2.env.len
    simp only [List.length_append] at this
    have := c2.lg
    omega
  have bb := c1.bs
  refine hi2.go W (AL A L as) G0 _ _ _ R _ (hL0.at_ a2 f0 i0) (q L) fun J H2 gs gr ds2 f2 i2 gh it q2 => ?_
  have hL2 := hL0.step bb f2
  have env2 := (hL2.env bb (f0.trans f2) c2.env).app gh
  rw [List.append_assoc, List.append_assoc] at env2
  have innG : ∀ (j : Nat) (q : Addr) (s : Sl), (gρ ++ gr)[j]? = some s → s.foot → (gσ ++ gs)[j]? = some (some (.ref q)) → Ob Hb q := fun j q s e1 k e2 => by
    by_cases hj : j < gρ.length
    · rw [List.getElem?_append_left hj] at e1
      rw [List.getElem?_append_left (by omega)] at e2
      obtain ⟨v, ev, hv⟩ := c2.env.at_ ((ρ.set r (.raw (.ref L))).length + j) s (by rw [List.getElem?_append_right (by omega)]; simpa using e1)
      rw [← c2.lg, List.getElem?_append_right (by omega), Nat.add_sub_cancel_left, e2] at ev
      cases ev
      exact foot_ob hv k
    · rw [List.getElem?_append_right (by omega)] at e1
      obtain ⟨_, x, _, rfl, _⟩ := gh.at_ _ _ e1
      exact k.elim
  have inn0 : ∀ (j : Nat) (q : Addr) (s : Sl), (ρ.set r (.raw (.ref L)))[j]? = some s → s.foot → (σ.set r (some (.ref L)))[j]? = some (some (.ref q)) → Ob Hb q := fun j q s e1 k e2 => by
    obtain ⟨v, ev, hv⟩ := a2.env.at_ j s e1
    rw [e2] at ev
    cases ev
    exact foot_ob hv k
  refine ⟨fun i m σ' G => m = ds2.length - i ∧ i ≤ ds2.length ∧ ∃ ρ' rows', EnvR K W (AL A L as) G (σ' ++ (gσ ++ gs)) (ρ' ++ (gρ ++ gr)) ∧ σ'.length = ρ'.length ∧ Fr W.B Hb G ∧ W.I G ∧ LF K A Hb G L as rows' ∧ (∀ (j : Nat) (q : Addr) (s : Sl), ρ'[j]? = some s → s.foot → σ'[j]? = some (some (.ref q)) → Ob Hb q) ∧ (∀ (j : Nat) (q : Addr) (s : Sl), ρ'[j]? = some s → s.isOwn → σ'[j]? = some (some (.ref q)) → ¬ Ob H0 q) ∧ ρ'[r]? = some (.raw (.ref L)) ∧ forB r fg2 fk fe2 dd R (ds2.drop i) rows' ρ',
    ⟨ds2.length, by omega, by omega, ρ.set r (.raw (.ref L)), rows0, env2, c2.lg, f0.trans f2, i2, hL2, inn0, fun j q s e1 k e2 => c2.new j q s e1 k e2, by rw [List.getElem?_set_self hr], q2⟩, ?_⟩
  rintro i m σ' G ⟨rfl, hi', ρ', rows', env, lg, fG, iG, hL, inn, new, hρ, q'⟩
  have bsG := hL.bs bb fG iG
  have env' := env
  rw [← List.append_assoc, ← List.append_assoc] at env'
  have gh' : GhR K W (AL A L as) G gs gr := env'.gh (by rw [List.length_append, List.length_append, lg, gl]) gh
  by_cases hlt : i < ds2.length
  · refine .inr ⟨it.go W _ G i bsG gh' hlt, fun σ' G => i + 1 ≤ ds2.length ∧ ∃ ρ' rows', EnvR K W (AL A L as) G (σ' ++ (gσ ++ gs)) (ρ' ++ (gρ ++ gr)) ∧ σ'.length = ρ'.length ∧ Fr W.B Hb G ∧ W.I G ∧ LF K A Hb G L as rows' ∧ (∀ (j : Nat) (q : Addr) (s : Sl), ρ'[j]? = some s → s.foot → σ'[j]? = some (some (.ref q)) → Ob Hb q) ∧ (∀ (j : Nat) (q : Addr) (s : Sl), ρ'[j]? = some s → s.isOwn → σ'[j]? = some (some (.ref q)) → ¬ Ob H0 q) ∧ ρ'[r]? = some (.raw (.ref L)) ∧ forB r fg2 fk fe2 dd R (ds2.drop (i + 1)) rows' ρ', fun σ2 H2 z => ⟨ds2.length - (i + 1), by omega, rfl, z⟩, fun x H3 y => ?_⟩
    obtain ⟨sm, rx⟩ := it.yld W _ G i x H3 ds2[i] bsG gh' (List.getElem?_eq_getElem hlt) y
    rw [List.drop_eq_getElem_cons hlt] at q'
    have f3 : Fr W.B G H3 := Fr.of sm
    have i3 := W.stay _ _ sm iG
    have hL3 := hL.step bb f3
    refine hg2.go W (AL A L as) H3 σ' ρ' (gσ ++ gs) (gρ ++ gr) x ds2[i] _ _ (env.fr (fun a z => .inl (bb.ba a z)) f3) lg rx q' fun σ4 ρ4 e4 l4 _ n4 q4 => ?_
    obtain ⟨hρ4, nb4, q4⟩ := q4
    rw [hρ] at hρ4
    have own4 : ∀ (j : Nat) (q : Addr) (s : Sl), ρ4[j]? = some s → s.foot → σ4[j]? = some (some (.ref q)) → s.isOwn ∧ ρ'[j]? = some s ∧ σ'[j]? = some (some (.ref q)) := fun j q s e1 k e2 => by
      have hb := List.all_eq_true.mp nb4 s (List.mem_of_getElem? e1)
      have ho := noB_own hb k
      exact ⟨ho, n4 j q s e1 ho e2⟩
    have inn4 : ∀ (j : Nat) (q : Addr) (s : Sl), ρ4[j]? = some s → s.foot → σ4[j]? = some (some (.ref q)) → Ob Hb q := fun j q s e1 k e2 => by
      obtain ⟨_, h1, h2⟩ := own4 j q s e1 k e2
      exact inn j q s h1 k h2
    have new4 : ∀ (j : Nat) (q : Addr) (s : Sl), ρ4[j]? = some s → s.isOwn → σ4[j]? = some (some (.ref q)) → ¬ Ob H0 q := fun j q s e1 k e2 => by
      obtain ⟨h1, h2⟩ := n4 j q s e1 k e2
      exact new j q s h1 k h2
    have innA : ∀ (j : Nat) (q : Addr) (s : Sl), (ρ4 ++ (gρ ++ gr))[j]? = some s → s.foot → (σ4 ++ (gσ ++ gs))[j]? = some (some (.ref q)) → Ob Hb q := fun j q s e1 k e2 => by
      by_cases hj : j < ρ4.length
      · rw [List.getElem?_append_left hj] at e1
        rw [List.getElem?_append_left (by omega)] at e2
        exact inn4 j q s e1 k e2
      · rw [List.getElem?_append_right (by omega)] at e1 e2
        rw [l4] at e2
        exact innG _ q s e1 k e2
    have a4 : At K W (AL A L as) E H3 σ4 ρ4 R := ⟨hL3.bs bb (fG.trans f3) i3, e4.pre l4, fun er x H2 g2 i2 z r => a2.er er x H2 ((fG.trans f3).trans g2) i2 (z.mono fun a q => .inl q) r⟩
    obtain ⟨v4, ev4, hv4⟩ := a4.env.at_ r _ hρ4
    have ev4 : σ4[r]? = some (some (.ref L)) := by
      rw [ev4, show v4 = some (.ref L) from hv4]
    refine ⟨.ref L, ev4, ?_⟩
    refine hk.go W (AL A L as) H3 σ4 ρ4 _ R _ a4 q4 fun u H5 s1 f5 i5 r5 q5 => ?_
    obtain ⟨n, row, rfl, er5, q5⟩ := q5
    have hL5 := hL3.step bb f5
    obtain ⟨a, ea, vs0, ev0, rv0⟩ := paired_at hL5.rows_ er5
    have eat : atI (as.map V.ref) (n : Int) = some (.ref a) := atI_nat (by rw [List.getElem?_map, ea]; rfl)
    have hu : u = .int (n : Int) := r5.flat (u := .int (n : Int)) rfl
    refine ⟨L, as.map V.ref, (n : Int), .ref a, rfl, hu, SqL.of hL5.eL, eat, ?_⟩
    refine he2.go W (AL A L as) H5 σ4 ρ4 _ R _ (a4.fr f5 i5) q5 fun yv H6 s2 f6 i6 r6 q6 => ?_
    obtain ⟨ys, rfl, hs, q6⟩ := q6
    obtain ⟨p2, us2, rfl, np2, e2, r2⟩ := r6
    have hL6 := hL5.step bb f6
    have ma := List.mem_of_getElem? ea
    have na : ¬ Ob Hb a := hL6.fresh a ma
    have ev6 : H6 a = some (.lst vs0) := f6.1 _ _ ev0 nt_lst (bb.nB na)
    have r2' : RpAll K (AL A L as) H6 us2 ys := r2.go (goes_less fun a z => .inl z)
    have lv := rv0.length
    have lu := r2'.length
    refine ⟨a, p2, vs0, us2, rfl, rfl, ev6, e2, by omega, ?_⟩
    have hE := hL6.ext ea ev6 er5 r2'
    have ha : n < as.length := (List.getElem?_eq_some_iff.mp ea).1
    refine ⟨L, as.map V.ref, (n : Int), n, rfl, hu, hE.eL, by rw [List.length_map]; unfold ixN; rw [if_pos (by omega), if_pos (by omega)]; simp, ?_⟩
    have es : (as.map V.ref).set n (.ref a) = as.map V.ref := by
      have hm : (as.map V.ref)[n]? = some (.ref a) := by rw [List.getElem?_map, ea]; rfl
      obtain ⟨h1, h2⟩ := List.getElem?_eq_some_iff.mp hm
      rw [← h2, List.set_getElem_self]
    rw [es, hE.self]
    have fA := ((fG.trans f3).trans f5).trans f6
    have aL : AL A L as a := .inr (.inr ma)
    refine ⟨hlt, ρ4, _, env_mut ((e4.fr (fun a z => .inl (bb.ba a z)) f5).fr (fun a z => .inl (bb.ba a z)) f6) aL (fun j q s e1 k e2 z => na (z ▸ innA j q s e1 k e2)), l4, ⟨fun c o ec t nc => ?_, fun c hc => ?_⟩, W.own H6 a _ _ i6 ev6 (.lst _) (.lst _) (bb.nB na), hE, inn4, new4, hρ4, q6⟩
    · rw [upd_ne (show c ≠ a from fun z => na ⟨o, z ▸ ec, t⟩)]
      exact fA.1 c o ec t nc
    · by_cases e : c = a
      · subst e
        exact ⟨_, upd_same, nt_lst⟩
      · obtain ⟨o, e1, t1⟩ := fA.2 c hc
        exact ⟨o, (upd_ne e).trans e1, t1⟩
  · have e : i = ds2.length := by omega
    subst e
    rw [List.drop_length] at q'
    refine .inl ⟨it.stop W _ G _ bsG gh' (Nat.le_refl _), ?_⟩
    refine er.nx G σ' _ ?_ q'
    have e0 := env'.pre (by rw [List.length_append, List.length_append, lg, gl])
    have innA : ∀ (j : Nat) (q : Addr) (s : Sl), (ρ' ++ gρ)[j]? = some s → s.foot → (σ' ++ gσ)[j]? = some (some (.ref q)) → Ob Hb q := fun j q s e1 k e2 => by
      by_cases hj : j < ρ'.length
      · rw [List.getElem?_append_left hj] at e1
        rw [List.getElem?_append_left (by omega)] at e2
        exact inn j q s e1 k e2
      · rw [List.getElem?_append_right (by omega)] at e1 e2
        rw [lg] at e2
        refine innG (j - ρ'.length) q s ?_ k ?_
        · have := (List.getElem?_eq_some_iff.mp e1).1
          rw [List.getElem?_append_left this]
          exact e1
        · have := (List.getElem?_eq_some_iff.mp e2).1
          rw [List.getElem?_append_left this]
          exact e2
    have hrl : r < ρ'.length := (List.getElem?_eq_some_iff.mp hρ).1
    have less : ∀ a, (A a ∨ a = L) → AL A L as a := fun a z => z.elim .inl fun z => .inr (.inl z)
    have low : ∀ {q : Addr}, AL A L as q → Ob Hb q → A q ∨ q = L := fun {q} z o => by
      rcases z with z | z | z
      · exact .inl z
      · exact .inr z
      · exact absurd o (hL.fresh q z)
    have f00 : Fr W0.B H0 Hb := c.wl.fr c.fr fHb
    refine ⟨W, fun a => A a ∨ a = L, c.wl, fun a z => .inl (c.a0 a z), ⟨fun a z => .inl (bb.ba a z), fun a z => bsG.dom a (less a z), iG, fun a xs z => bsG.nt a xs (less a z)⟩, c.wl.fr c1.fr fG, ?_, by rw [List.length_set, lg], fun j q s e1 k e2 => ?_⟩
    · rw [set_app hrl]
      have vr : (σ' ++ gσ)[r]? = some (some (.ref L)) := by
        obtain ⟨v, ev, hv⟩ := e0.at_ r _ (by rw [List.getElem?_append_left hrl]; exact hρ)
        rw [ev, show v = some (.ref L) from hv]
      refine ⟨by rw [List.length_set]; exact e0.len, fun j s ej => ?_, fun j k q t s ne g1 g0 g2 g3 g4 g5 => ?_⟩
      · rcases get_set ej with ⟨rfl, rfl, _⟩ | ⟨nj, ej⟩
        · exact ⟨_, vr, L, as.map V.ref, rfl, hL.eL, bb.nB hL.nL, .inr rfl, hL.all bb⟩
        · obtain ⟨w, ew, q⟩ := e0.at_ j s ej
          refine ⟨w, ew, ?_⟩
          cases s with
          | un => exact q
          | d x =>
            obtain ⟨u, e1, r1⟩ := q
            exact ⟨u, e1, r1.go (goes_less less)⟩
          | ml zs =>
            obtain ⟨q', ws, f1, f2, f3, f4, f5⟩ := q
            exact ⟨q', ws, f1, f2, f3, low f4 (innA j q' _ ej trivial (by rw [ew, f1])), f5.go (goes_less less)⟩
          | bl zs =>
            obtain ⟨q', ws, f1, f2, f3⟩ := q
            exact ⟨q', ws, f1, f2, f3.go (goes_less less)⟩
          | st => exact q
          | scr ns => exact q
          | raw u => exact q
          | mo o =>
            obtain ⟨q', ws, f1, f2, f3, f4, f5⟩ := q
            exact ⟨q', ws, f1, f2, f3, low f4 (innA j q' _ ej trivial (by rw [ew, f1])), f5.go (goes_less less)⟩
          | bo o =>
            obtain ⟨q', ws, f1, f2, f3, f4⟩ := q
            exact ⟨q', ws, f1, f2, f3, f4.go (goes_less less)⟩
      · rcases get_set g1 with ⟨rfl, z, _⟩ | ⟨n1, g1⟩
        · rcases get_set g2 with ⟨z2, _, _⟩ | ⟨n2, g2⟩
          · exact ne z2
          · rw [vr] at g4
            cases g4
            exact hL.nL (innA k _ s g2 g3 g5)
        · rcases get_set g2 with ⟨rfl, z, _⟩ | ⟨n2, g2⟩
          · rw [vr] at g5
            cases g5
            exact hL.nL (innA j _ t g1 (own_foot g0) g4)
          · exact e0.dis j k q t s ne g1 g0 g2 g3 g4 g5
    · rcases get_set e1 with ⟨rfl, z, _⟩ | ⟨nj, e1⟩
      · obtain ⟨v, ev, hv⟩ := (e0.pre lg).at_ r _ hρ
        rw [e2] at ev
        cases ev
        have : q = L := by
          have hv : some (V.ref q) = some (.ref L) := hv
          cases hv
          rfl
        subst this
        exact fun z => hL.nL (f00.2 _ z)
      · exact new j q s e1 k e2⟩
theorem pss_blk {X : Cx} {st1 st2 : Stmt} {rest : List Stmt} {u : TS} {r : Nat} {wi wi2 : TI} {g g2 : TG} {te tk te2 : TE} {vs : List Nat} (h1 : PS X st1 (tAsg (tLc wi g tYes te vs) (gName r))) (h2 : PS X st2 (tFor wi2 g2 (tAugS (tVar r) tk te2 (rIxL K) rExt2 rSetL))) (h3 : PSs X rest u) : PSs X (st1 :: st2 :: rest) (tSeq (tBlk K r wi g te vs wi2 g2 tk te2) u) := show PSs X (st1 :: st2 :: rest) (tSeq (tAsg (tLc wi g tYes te vs) (gName r)) (tSeq (tFor wi2 g2 (tAugS (tVar r) tk te2 (rIxL K) rExt2 rSetL)) u)) from pss_cons h1 (pss_cons h2 h3)
variable {fg : FG} {fk fe : TD} {dd : DEnds} {R : Er → Prop}
theorem lcO_map {α : Type} (f : α → PyData) (g : α → List PyData) {ρ : List Sl} {Q : List (List PyData) → Prop} : ∀ (l : List α) (acc : List (List PyData)), (∀ x ∈ l, ∀ N : Sl → Prop, N (.ml (g x)) → fg (f x) ρ fun ρ' => fe ρ' N R) → acc.length + l.length ≤ sizeLine → Q (acc ++ l.map g) → lcO fg fe ρ R Q (l.map f) acc
  | [], acc, _, _, q => by
    rw [List.map_nil, List.append_nil] at q
    exact q
  | x :: l, acc, h, hl, q => by
    rw [List.length_cons] at hl
    refine h x List.mem_cons_self _ ⟨g x, rfl, by omega, ?_⟩
    refine lcO_map f g l (acc ++ [g x]) (fun y hy => h y (List.mem_cons_of_mem _ hy)) (by rw [List.length_append, List.length_singleton]; omega) ?_
    rw [List.append_assoc]
    exact q
theorem forB_by {r : Nat} (I : Nat → List (List PyData) → List Sl → Prop) {ds : List PyData} {rows : List (List PyData)} {ρ : List Sl} (h0 : I 0 rows ρ)
    (hs : ∀ (i : Nat) (d : PyData) (rows : List (List PyData)) (ρ : List Sl) (N : List (List PyData) → List Sl → Prop), ds[i]? = some d → I i rows ρ → (∀ rows' ρ', I (i + 1) rows' ρ' → N rows' ρ') → fg d ρ fun ρ' => ρ'[r]? = ρ[r]? ∧ ρ'.all Sl.noB = true ∧ fk ρ' (fun s => ∃ (n : Nat) (row : List PyData), s = .d (.int (n : Int)) ∧ rows[n]? = some row ∧ fe ρ' (fun s2 => ∃ ys, s2 = .ml ys ∧ row.length + ys.length ≤ sizeLine ∧ N (rows.set n (row ++ ys)) ρ') R) R)
    (he : ∀ rows ρ, I ds.length rows ρ → dd.nx (ρ.set r (.ml (rows.map PyData.list)))) : forB r fg fk fe dd R ds rows ρ := by
  have key : ∀ (m i : Nat) (rows : List (List PyData)) (ρ : List Sl), m = ds.length - i → i ≤ ds.length → I i rows ρ → forB r fg fk fe dd R (ds.drop i) rows ρ := by
    intro m
    induction m with
    | zero =>
      intro i rows ρ hm hi h
      have e : i = ds.length := by omega
      subst e
      rw [List.drop_length]
      exact he rows ρ h
    | succ m ih =>
      intro i rows ρ hm hi h
      have hlt : i < ds.length := by omega
      rw [List.drop_eq_getElem_cons hlt]
      exact hs i ds[i] rows ρ (fun rows' ρ' => forB r fg fk fe dd R (ds.drop (i + 1)) rows' ρ') (List.getElem?_eq_getElem hlt) h fun rows' ρ' h' => ih (i + 1) rows' ρ' (by omega) hlt h'
  exact key ds.length 0 rows ρ (by omega) (Nat.zero_le _) h0
theorem dBlk_c {r : Nat} {fi fi2 : TDI} {fg2 : FG} {fe2 : TD} {vs : List Nat} {ρ : List Sl} : dBlk r fi fg fe vs fi2 fg2 fk fe2 dd R ρ = fi ρ (fun ds => lcO fg fe (wipeD ρ vs) R (fun rows => r < ρ.length ∧ ∀ L : Addr, fi2 (ρ.set r (.raw (.ref L))) (fun ds2 => forB r fg2 fk fe2 dd R ds2 rows (ρ.set r (.raw (.ref L)))) R) ds []) R := propext Iff.rfl
end
end Dl

namespace Dl
open PySem PySem.Spec PyProof.Rows L2
section
variable {K : PySem.W.Frag} {τ : List (Addr × Str)} {E : XK}
/-! ### a < b, of data that are alike -/
def ltOk (x y : PyData) : Prop := PySem.W.alike x y = true ∧ x ≠ .none ∧ x.canLay0 = true ∧ y.canLay0 = true ∧ x.depth ≤ 60
def rLtD (K : PySem.W.Frag) : R2 := fun x y H Q => ∃ d e, Dp K H x d ∧ Dp K H y e ∧ ltOk d e ∧ Q (.bl (PySem.W.dataLt d e)) H
theorem op_ltD {X : Cx} (hu : X.A.units + 64 < cLine) : OpR X (compareOp .Lt) (rLtD X.K) := by
  intro pins s σ H x y v u Q I rx ry h
  obtain ⟨d, e, px, py, ⟨al, nn, l1, l2, dd⟩, q⟩ := h
  obtain ⟨as, ra⟩ := Dp.reads I _ _ _ px rx
  obtain ⟨bs, rb⟩ := Dp.reads I _ _ _ py ry
  exact PySem.W.lt_data ra rb al nn (by have := Nat.min_le_left d.depth e.depth; omega) ⟨.bl (PySem.W.dataLt d e), H, I, rfl, q⟩
theorem op_ltDK {X : Cx} (h : X.K = K) (hu : X.A.units + 64 < cLine) : OpR X (compareOp .Lt) (rLtD K) := by
  subst h
  exact op_ltD hu
def fLtD : Sl → Sl → (Sl → Prop) → Prop := fun s u Qd => match s.dat, u.dat with
  | some d, some e => ltOk d e ∧ Qd (.d (.bool (PySem.W.dataLt d e)))
  | _, _ => False
instance : Ref2 K (rLtD K) fLtD := ⟨fun W A H0 H x y s u Qd Q b f i rx ry h w => by
  unfold fLtD at h
  split at h
  · rename_i d e e1 e2
    exact ⟨d, e, (rx.dat b e1).dp h.1.2.2.1, (ry.dat b e2).dp h.1.2.2.2.1, h.1, w.here i _ h.2⟩
  · exact h.elim⟩
theorem fLtD_c {d e : PyData} {Qd : Sl → Prop} : fLtD (.d d) (.d e) Qd = (ltOk d e ∧ Qd (.d (.bool (PySem.W.dataLt d e)))) := propext Iff.rfl
theorem ltOk_int (a b : Int) : ltOk (.int a) (.int b) := ⟨rfl, (fun z => nomatch z), rfl, rfl, Nat.zero_le _⟩
theorem ltOk_ii (a b c d : Int) : ltOk (.tuple [.int a, .int b]) (.tuple [.int c, .int d]) := ⟨by simp [PySem.W.alike, PySem.W.alikeAll], (fun z => nomatch z), rfl, rfl, by simp [PyData.depth, PyData.depthAll]⟩
end
end Dl

namespace Dl
open PySem PySem.Spec PyProof.Rows L2
section
variable {K : PySem.W.Frag} {τ : List (Addr × Str)} {E : XK}
/-! ### x in t, x not in t: t a tuple of data of any depth -/
def rInT (K : PySem.W.Frag) (neg : Bool) : R2 := fun x y H Q => ∃ d ds, Dp K H x d ∧ Dp K H y (.tuple ds) ∧ d.canLay0 = true ∧ PyData.canLayAll0 ds = true ∧ d.depth ≤ 60 ∧ Q (.bl (if neg then !(ds.any fun z => PyData.eqv z d) else ds.any fun z => PyData.eqv z d)) H
theorem op_inT {X : Cx} (hu : X.A.units + 64 < cLine) : OpR X (compareOp .In) (rInT X.K false) := by
  intro pins s σ H x y v u Q I rx ry h
  obtain ⟨d, ds, px, py, l1, l2, dd, q⟩ := h
  obtain ⟨as, ra⟩ := Dp.reads I _ _ _ px rx
  obtain ⟨bs, rb⟩ := Dp.reads I _ _ _ py ry
  exact PySem.SeqAt.in_tuple_reads rb ra l2 l1 (by have := Nat.min_le_right (PyData.depthAll ds) d.depth; omega) ⟨.bl (ds.any fun z => PyData.eqv z d), H, I, rfl, q⟩
theorem op_notInT {X : Cx} (hu : X.A.units + 64 < cLine) : OpR X (compareOp .NotIn) (rInT X.K true) := by
  intro pins s σ H x y v u Q I rx ry h
  obtain ⟨d, ds, px, py, l1, l2, dd, q⟩ := h
  obtain ⟨as, ra⟩ := Dp.reads I _ _ _ px rx
  obtain ⟨bs, rb⟩ := Dp.reads I _ _ _ py ry
  exact PySem.SeqAt.notIn_tuple_reads rb ra l2 l1 (by have := Nat.min_le_right (PyData.depthAll ds) d.depth; omega) ⟨.bl (!(ds.any fun z => PyData.eqv z d)), H, I, rfl, q⟩
theorem op_inTK {X : Cx} (h : X.K = K) (hu : X.A.units + 64 < cLine) : OpR X (compareOp .In) (rInT K false) := by
  subst h
  exact op_inT hu
theorem op_notInTK {X : Cx} (h : X.K = K) (hu : X.A.units + 64 < cLine) : OpR X (compareOp .NotIn) (rInT K true) := by
  subst h
  exact op_notInT hu
def fInT (neg : Bool) : Sl → Sl → (Sl → Prop) → Prop := fun s u Qd => ∃ d ds, s.dat = some d ∧ u = .d (.tuple ds) ∧ d.canLay0 = true ∧ PyData.canLayAll0 ds = true ∧ d.depth ≤ 60 ∧ Qd (.d (.bool (if neg then !(ds.any fun z => PyData.eqv z d) else ds.any fun z => PyData.eqv z d)))
instance {neg : Bool} : Ref2 K (rInT K neg) (fInT neg) := ⟨fun W A H0 H x y s u Qd Q b f i rx ry h w => by
  obtain ⟨d, ds, e1, rfl, l1, l2, dd, q⟩ := h
  have ry' : Rp K A H y (.tuple ds) := ry
  exact ⟨d, ds, (rx.dat b e1).dp l1, ry'.dp (by simpa [PyData.canLay0] using l2), l1, l2, dd, w.here i _ q⟩⟩
end
end Dl

namespace Dl
open PySem PySem.Spec PyProof.Rows L2
section
variable {K : PySem.W.Frag} {τ : List (Addr × Str)} {E : XK}
/-! ### xs[::-1] of a list -/
def tBackL (K : PySem.W.Frag) (te : TE) : TE := fun σ H Q => te σ H fun x G => ∃ a xs, x = .ref a ∧ SqL K G a xs ∧ ∀ p, G p = none → Q (.ref p) (upd G p (.lst xs.reverse))
theorem pe_backL {X : Cx} {e : Expr} {te : TE} {k : Nat} {u1 u2 u3 u4 : Pos} (he : PE X e te) : PE X (.Subscript e (.Slice none none (some (.UnaryOp .USub (.Constant (.int 1) k u1) u2)) u3) u4) (tBackL X.K te) := by
  refine ⟨fun pins s σ H Q I h => ?_⟩
  refine Subscript_ (thn (he.run pins s σ H _ I h) fun v t1 ⟨x, G1, J1, r1, g1⟩ => ?_)
  obtain ⟨a, xs, ex, hx, q⟩ := g1
  subst ex
  cases r1
  have step : PO X (some (.UnaryOp .USub (.Constant (.int 1) k u1) u2)) (tPart (tUn (rU fun i => .int (-i)) (tC (.int 1)))) := po_some (pe_un un_neg pe_int)
  refine wpAny_Slice (thn (po_none.run pins t1 σ G1 (fun o G => o = none ∧ G = G1) J1 ⟨rfl, rfl⟩) fun vl t2 ⟨l, G2, J2, pl, el, e2⟩ => ?_)
  subst el e2
  refine thn (po_none.run pins t2 σ G2 (fun o G => o = none ∧ G = G2) J2 ⟨rfl, rfl⟩) fun vu t3 ⟨u, G3, J3, pu, eu, e3⟩ => ?_
  subst eu e3
  refine thn (step.run pins t3 σ G3 (fun o G => o = some (-1) ∧ G = G3) J3 ⟨1, rfl, -1, rfl, rfl, rfl⟩) fun vs t4 ⟨o, G4, J4, ps, eo, e4⟩ => ?_
  subst eo e4
  have J5 : Inv X pins σ G4 { t4 with heap := t4.heap.push { cls := .type "slice", data := .fields #[vl, vu, vs] } } := J4.kept (t' := t4.toks) fun b ob z => Heap.get?_push_of_some _ z
  obtain ⟨its, r, hL, hz⟩ := J5.list hx
  have hlen := r.length
  show wpAny (model X.prog X.w) X.A (subscriptTail e (.Slice none none (some (.UnaryOp .USub (.Constant (.int 1) k u1) u2)) u3) (.ref a) (.ref t4.heap.objs.size)) (EP X pins σ Q) X.xe _
  refine tail_any (ops := [.ref a, .ref t4.heap.objs.size]) hL.isList.typeIs slot_list_getitem.lookup ?_ (by with_unfolding_all rfl)
  refine wpAny_getItem_list_slice hL.isList (Heap.IsSliceOf.new _ _ _ _) pl pu ps (by decide) ?_ (by rw [List.size_toArray]; omega)
  rw [PySem.W.krv_pick]
  refine ⟨.ref _, _, J5.laid (t' := t4.toks) (o := .lst xs.reverse) (fun b ob z => Heap.get?_push_of_some _ z) (Nat.le_refl _) ?_, rfl, q _ (J5.hok.fresh (Nat.le_refl _))⟩
  exact ⟨by rw [List.length_reverse]; exact hz, its.reverse, 0, r.reverse, Heap.get?_push_size _ rfl⟩
theorem pe_backLK {X : Cx} {e : Expr} {te : TE} {k : Nat} {u1 u2 u3 u4 : Pos} (h : X.K = K) (he : PE X e te) : PE X (.Subscript e (.Slice none none (some (.UnaryOp .USub (.Constant (.int 1) k u1) u2)) u3) u4) (tBackL K te) := h ▸ pe_backL he
def dBackL (f : TD) : TD := fun ρ Qd R => f ρ (fun s => ∃ xs, s.seq = some xs ∧ Qd (.ml xs.reverse)) R
instance {t : TE} {f : TD} [ht : RefE K τ E t f] : RefE K τ E (tBackL K t) (dBackL f) := ⟨fun W A H σ ρ Qd R Q a h w => by
  refine ht.go W A H σ ρ _ R _ a h fun v H1 s f1 i1 r1 q => ?_
  obtain ⟨xs, e, q⟩ := q
  obtain ⟨p, us, rfl, sq, ra⟩ := r1.seq a.bs e
  exact ⟨p, us, rfl, sqLA_sq sq, Want.lst (a.bs.fr f1 i1) (w.back f1) ra.reverse q⟩⟩
theorem dBackL_k {f : TD} {ρ : List Sl} {Qd : Sl → Prop} {R : Er → Prop} : dBackL f ρ Qd R = f ρ (fun s => ∃ xs, s.seq = some xs ∧ Qd (.ml xs.reverse)) R := propext Iff.rfl
end
end Dl

namespace Dl
open PySem PySem.Spec PyProof.Rows L2
/-! ### a list of one's own of lists of one's own: the inner lists are slots behind the slots -/
section
variable {K : PySem.W.Frag} {τ : List (Addr × Str)} {E : XK}
def hL (H0 : Hp) (L : Addr) (as : List Addr) : Hp := upd H0 L (.lst (as.map V.ref))
def aL (A0 : Addr → Prop) (L : Addr) : Addr → Prop := fun a => A0 a ∨ a = L
def gS (as : List Addr) : L2.St := as.map fun a => some (V.ref a)
def gD (rows : List (List PyData)) : List Sl := rows.map Sl.ml
/-- what stays -/
structure NB (W0 : Wld τ) (A0 : Addr → Prop) (H0 : Hp) (L : Addr) (as : List Addr) (gσ : L2.St) (gρ : List Sl) : Prop where
  b0 : Bs W0 A0 H0
  nL : ¬ Ob H0 L
  fresh : ∀ a ∈ as, ¬ Ob H0 a
  nin : L ∉ as
  bs : Bs W0 (aL A0 L) (hL H0 L as)
  gl : gσ.length = gρ.length
  hG : ∀ (j : Nat) (q : Addr) (s : Sl), gρ[j]? = some s → s.foot → gσ[j]? = some (some (.ref q)) → q ≠ L
variable {W0 W : Wld τ} {A0 A : Addr → Prop} {H0 H : Hp} {L : Addr} {as : List Addr} {rows : List (List PyData)} {σ gσ : L2.St} {ρ gρ : List Sl} {R : Er → Prop} {r : Nat}
theorem NB.eL (_ : NB W0 A0 H0 L as gσ gρ) : hL H0 L as L = some (.lst (as.map V.ref)) := upd_same
theorem NB.obL (n : NB W0 A0 H0 L as gσ gρ) : Ob (hL H0 L as) L := ⟨_, n.eL, nt_lst⟩
theorem NB.up (n : NB W0 A0 H0 L as gσ gρ) {a : Addr} (h : Ob H0 a) : Ob (hL H0 L as) a := by
  obtain ⟨o, e, t⟩ := h
  exact ⟨o, (upd_ne (show a ≠ L from fun z => n.nL (z ▸ ⟨o, e, t⟩))).trans e, t⟩
theorem NB.dn (n : NB W0 A0 H0 L as gσ gρ) {a : Addr} (h : Ob (hL H0 L as) a) : Ob H0 a ∨ a = L := by
  obtain ⟨o, e, t⟩ := h
  by_cases z : a = L
  · exact .inr z
  · exact .inl ⟨o, (upd_ne z).symm.trans e, t⟩
theorem NB.nBL (n : NB W0 A0 H0 L as gσ gρ) : ¬ W0.B L := n.b0.nB n.nL
theorem NB.fr (n : NB W0 A0 H0 L as gσ gρ) {G : Hp} (f : Fr W0.B (hL H0 L as) G) : Fr W0.B H0 G := ⟨fun c o e t nb => f.1 c o ((upd_ne (show c ≠ L from fun z => n.nL (z ▸ ⟨o, e, t⟩))).trans e) t nb, fun c h => f.2 c (n.up h)⟩
theorem NB.at_L (n : NB W0 A0 H0 L as gσ gρ) {G : Hp} (f : Fr W0.B (hL H0 L as) G) : G L = some (.lst (as.map V.ref)) := f.1 _ _ n.eL nt_lst n.nBL
theorem NB.ek (n : NB W0 A0 H0 L as gσ gρ) (ek : ErK K W0 A0 E H0 R) : ErK K W0 (aL A0 L) E (hL H0 L as) R := fun er x H' f i z q => ek er x H' (n.fr f) i (z.mono fun a h => .inl h) q
abbrev NC (K : PySem.W.Frag) (W0 : Wld τ) (A0 : Addr → Prop) (H0 : Hp) (L : Addr) (as : List Addr) (W : Wld τ) (A : Addr → Prop) (H : Hp) (σ : L2.St) (ρ : List Sl) (gσ : L2.St) (gρ : List Sl) (rows : List (List PyData)) : Prop := Cor K W0 (aL A0 L) (hL H0 L as) W A H σ ρ (gσ ++ gS as) (gρ ++ gD rows)
abbrev NR (K : PySem.W.Frag) (W0 : Wld τ) (A0 : Addr → Prop) (H0 : Hp) (L : Addr) (as : List Addr) (H : Hp) (σ : L2.St) (ρ : List Sl) (gσ : L2.St) (gρ : List Sl) (rows : List (List PyData)) : Prop := SR K W0 (aL A0 L) (hL H0 L as) H σ ρ (gσ ++ gS as) (gρ ++ gD rows)
/-- the ghost of the row k -/
theorem NC.ghost (gl : gσ.length = gρ.length) (c : NC K W0 A0 H0 L as W A H σ ρ gσ gρ rows) {k : Nat} {row : List PyData} (e : rows[k]? = some row) : ∃ a vs, as[k]? = some a ∧ (ρ ++ (gρ ++ gD rows))[ρ.length + gρ.length + k]? = some (.ml row) ∧ (σ ++ (gσ ++ gS as))[ρ.length + gρ.length + k]? = some (some (.ref a)) ∧ H a = some (.lst vs) ∧ ¬ W.B a ∧ A a ∧ RpAll K A H vs row := by
  have e1 : (ρ ++ (gρ ++ gD rows))[ρ.length + gρ.length + k]? = some (.ml row) := by
    rw [List.getElem?_append_right (by omega), List.getElem?_append_right (by omega), show ρ.length + gρ.length + k - ρ.length - gρ.length = k from by omega]
    show (rows.map Sl.ml)[k]? = _
    rw [List.getElem?_map, e]
    rfl
  obtain ⟨v, ev, p, vs, rfl, h1, h2, h3, h4⟩ := c.env.at_ _ _ e1
  have ev' := ev
  rw [← c.lg, List.getElem?_append_right (by omega), List.getElem?_append_right (by omega), show σ.length + gρ.length + k - σ.length - gσ.length = k from by omega] at ev'
  have ev' : (as.map fun a => some (V.ref a))[k]? = some (some (.ref p)) := ev'
  rw [List.getElem?_map] at ev'
  obtain ⟨a, ea, z⟩ := Option.map_eq_some_iff.mp ev'
  cases z
  exact ⟨p, vs, ea, e1, ev, h1, h2, h3, h4⟩
theorem NC.lens (gl : gσ.length = gρ.length) (c : NC K W0 A0 H0 L as W A H σ ρ gσ gρ rows) : as.length = rows.length := by
  have := c.env.len
  simp only [gS, gD, List.length_append, List.length_map] at this
  have := c.lg
  omega
/-- no slot is one of the inner lists -/
theorem NC.far (gl : gσ.length = gρ.length) (c : NC K W0 A0 H0 L as W A H σ ρ gσ gρ rows) {j : Nat} {q : Addr} {s : Sl} (e1 : (ρ ++ gρ)[j]? = some s) (k : s.foot) (e2 : (σ ++ gσ)[j]? = some (some (.ref q))) : q ∉ as := fun hq => by
  obtain ⟨k', hk⟩ := List.getElem?_of_mem hq
  have hl := (List.getElem?_eq_some_iff.mp hk).1
  rw [NC.lens gl c] at hl
  obtain ⟨a, vs, ea, g1, g2, _⟩ := NC.ghost gl c (List.getElem?_eq_getElem hl)
  rw [hk] at ea
  cases ea
  have hj := (List.getElem?_eq_some_iff.mp e1).1
  have hj2 := (List.getElem?_eq_some_iff.mp e2).1
  rw [List.length_append] at hj hj2
  refine c.env.dis _ j q _ _ (by omega) g1 trivial ?_ k g2 ?_
  · rw [← List.append_assoc, List.getElem?_append_left (by rw [List.length_append]; omega)]
    exact e1
  · rw [← List.append_assoc, List.getElem?_append_left (by rw [List.length_append]; omega)]
    exact e2
theorem NC.out (gl : gσ.length = gρ.length) (n : NB W0 A0 H0 L as gσ gρ) (c : NC K W0 A0 H0 L as W A H σ ρ gσ gρ rows) : (∀ a ∈ as, A a ∧ ¬ W.B a) ∧ ¬ W.B L ∧ A L := by
  refine ⟨fun a ha => ?_, fun z => ?_, c.a0 _ (.inr rfl)⟩
  · obtain ⟨k, hk⟩ := List.getElem?_of_mem ha
    have hl := (List.getElem?_eq_some_iff.mp hk).1
    rw [NC.lens gl c] at hl
    obtain ⟨a', vs, ea, _, _, _, h1, h2, _⟩ := NC.ghost gl c (List.getElem?_eq_getElem hl)
    rw [hk] at ea
    cases ea
    exact ⟨h2, h1⟩
  · rcases c.wl.dn _ z with z | z
    · exact n.nBL z
    · exact z n.obL
/-- own and read slots are not L -/
theorem NC.notL (n : NB W0 A0 H0 L as gσ gρ) (c : NC K W0 A0 H0 L as W A H σ ρ gσ gρ rows) {j : Nat} {q : Addr} {s : Sl} (e1 : ρ[j]? = some s) (k : s.isOwn) (e2 : σ[j]? = some (some (.ref q))) : q ≠ L := fun z => c.new j q s e1 k e2 (z ▸ n.obL)
theorem NC.rows_ (gl : gσ.length = gρ.length) (c : NC K W0 A0 H0 L as W A H σ ρ gσ gρ rows) {A' : Addr → Prop} (m : ∀ a, A' a → A a) (no : ∀ a ∈ as, ¬ A' a) : RpAll K A' H (as.map V.ref) (rows.map PyData.list) := by
  have key : ∀ (k : Nat), k ≤ rows.length → RpAll K A' H ((as.drop k).map V.ref) ((rows.drop k).map PyData.list) := by
    intro k
    generalize hm : rows.length - k = m'
    induction m' generalizing k with
    | zero =>
      intro hk
      rw [List.drop_eq_nil_of_le (by rw [NC.lens gl c]; omega), List.drop_eq_nil_of_le (by omega)]
      exact .nil
    | succ m' ih =>
      intro hk
      have hl : k < rows.length := by omega
      obtain ⟨a, vs, ea, _, _, h1, h2, h3, h4⟩ := NC.ghost gl c (List.getElem?_eq_getElem hl)
      obtain ⟨hla, ea'⟩ := List.getElem?_eq_some_iff.mp ea
      rw [List.drop_eq_getElem_cons hla, List.drop_eq_getElem_cons hl, ea']
      exact .cons (.lst ⟨h1, no a (List.mem_of_getElem? ea)⟩ (h4.go (goes_less m))) (ih (k + 1) (by omega) (by omega))
  exact key 0 (Nat.zero_le _)
/-- the slots with the list of lists read, or one's own again -/
theorem NC.envR (n : NB W0 A0 H0 L as gσ gρ) (c : NC K W0 A0 H0 L as W A H σ ρ gσ gρ rows) (hr : ρ[r]? = some (.raw (.ref L))) {A' : Addr → Prop} (m : ∀ a, A' a → A a) (low : ∀ a, A a → a ∉ as → a ≠ L → A' a) {s0 : Sl} (h0 : SlR K W A' H (some (.ref L)) s0) (k0 : s0.foot)
    (hg : s0.isOwn → ρ.all Sl.noB = true) : EnvR K W A' H (σ ++ gσ) (ρ.set r s0 ++ gρ) := by
  have gl := n.gl
  have lg := c.lg
  have hrl := (List.getElem?_eq_some_iff.mp hr).1
  have e0 : EnvR K W A H (σ ++ gσ) (ρ ++ gρ) := by
    have := c.env
    rw [← List.append_assoc, ← List.append_assoc] at this
    exact this.pre (by rw [List.length_append, List.length_append, c.lg, gl])
  have own_ : ∀ (j : Nat) (q : Addr) (s : Sl), (ρ ++ gρ)[j]? = some s → s.isOwn → (σ ++ gσ)[j]? = some (some (.ref q)) → q ≠ L := fun j q s e1 k e2 => by
    by_cases hj : j < ρ.length
    · rw [List.getElem?_append_left hj] at e1
      rw [List.getElem?_append_left (by rw [c.lg]; exact hj)] at e2
      exact NC.notL n c e1 k e2
    · rw [List.getElem?_append_right (by omega)] at e1 e2
      rw [c.lg] at e2
      exact n.hG _ q s e1 (own_foot k) e2
  have all_ : s0.isOwn → ∀ (j : Nat) (q : Addr) (s : Sl), (ρ ++ gρ)[j]? = some s → s.foot → (σ ++ gσ)[j]? = some (some (.ref q)) → q ≠ L := fun ko j q s e1 k e2 => by
    by_cases hj : j < ρ.length
    · have e1' := e1
      rw [List.getElem?_append_left hj] at e1
      have hb := List.all_eq_true.mp (hg ko) s (List.mem_of_getElem? e1)
      exact own_ j q s e1' (noB_own hb k) e2
    · rw [List.getElem?_append_right (by omega)] at e1 e2
      rw [c.lg] at e2
      exact n.hG _ q s e1 k e2
  rw [set_app hrl]
  have vr : (σ ++ gσ)[r]? = some (some (.ref L)) := by
    obtain ⟨v, ev, hv⟩ := e0.at_ r _ (by rw [List.getElem?_append_left hrl]; exact hr)
    rw [ev, show v = some (.ref L) from hv]
  refine ⟨by rw [List.length_set]; exact e0.len, fun j s ej => ?_, fun j k q t s ne g1 g0 g2 g3 g4 g5 => ?_⟩
  · rcases get_set ej with ⟨rfl, rfl, _⟩ | ⟨nj, ej⟩
    · exact ⟨_, vr, h0⟩
    · obtain ⟨w, ew, q⟩ := e0.at_ j s ej
      refine ⟨w, ew, ?_⟩
      cases s with
      | un => exact q
      | d x =>
        obtain ⟨u, e1, r1⟩ := q
        exact ⟨u, e1, r1.go (goes_less m)⟩
      | ml zs =>
        obtain ⟨q', ws, f1, f2, f3, f4, f5⟩ := q
        exact ⟨q', ws, f1, f2, f3, low _ f4 (NC.far gl c ej trivial (by rw [ew, f1])) (own_ j q' _ ej trivial (by rw [ew, f1])), f5.go (goes_less m)⟩
      | bl zs =>
        obtain ⟨q', ws, f1, f2, f3⟩ := q
        exact ⟨q', ws, f1, f2, f3.go (goes_less m)⟩
      | st => exact q
      | scr ns => exact q
      | raw u => exact q
      | mo o =>
        obtain ⟨q', ws, f1, f2, f3, f4, f5⟩ := q
        exact ⟨q', ws, f1, f2, f3, low _ f4 (NC.far gl c ej trivial (by rw [ew, f1])) (own_ j q' _ ej trivial (by rw [ew, f1])), f5.go (goes_less m)⟩
      | bo o =>
        obtain ⟨q', ws, f1, f2, f3, f4⟩ := q
        exact ⟨q', ws, f1, f2, f3, f4.go (goes_less m)⟩
  · rcases get_set g1 with ⟨rfl, z, _⟩ | ⟨n1, g1⟩
    · rcases get_set g2 with ⟨z2, _, _⟩ | ⟨n2, g2⟩
      · exact ne z2
      · rw [vr] at g4
        cases g4
        rw [z] at g0
        exact all_ g0 k L s g2 g3 g5 rfl
    · rcases get_set g2 with ⟨rfl, z, _⟩ | ⟨n2, g2⟩
      · rw [vr] at g5
        cases g5
        exact own_ j L t g1 g0 g4 rfl
      · exact e0.dis j k q t s ne g1 g0 g2 g3 g4 g5
/-- a test may read it -/
theorem NC.view (n : NB W0 A0 H0 L as gσ gρ) (c : NC K W0 A0 H0 L as W A H σ ρ gσ gρ rows) (hr : ρ[r]? = some (.raw (.ref L))) (ek : ErK K W0 A0 E H0 R) : At K W (fun a => A a ∧ a ∉ as ∧ a ≠ L) E H σ (ρ.set r (.bl (rows.map PyData.list))) R := by
  have gl := n.gl
  obtain ⟨o1, o2, o3⟩ := NC.out gl n c
  have h0 : SlR K W (fun a => A a ∧ a ∉ as ∧ a ≠ L) H (some (.ref L)) (.bl (rows.map PyData.list)) := ⟨L, as.map V.ref, rfl, ⟨n.at_L c.fr, o2⟩, NC.rows_ gl c (fun a z => z.1) fun a ha z => z.2.1 ha⟩
  refine ⟨⟨fun a z => ⟨c.bs.ba a z, fun h => (o1 a h).2 z, fun e => o2 (e ▸ z)⟩, fun a z => c.bs.dom a z.1, c.bs.inv, fun a xs z => c.bs.nt a xs z.1⟩, ?_, fun er x H' f i z q => ?_⟩
  · have := NC.envR (A' := fun a => A a ∧ a ∉ as ∧ a ≠ L) n c hr (fun a z => z.1) (fun a h1 h2 h3 => ⟨h1, h2, h3⟩) h0 trivial fun z => z.elim
    exact this.pre (by rw [List.length_set, c.lg])
  · refine ek er x H' (n.fr (c.wl.fr c.fr f)) (c.wl.inv _ i) (z.mono fun a h => ⟨c.a0 _ (.inl h), fun q => n.fresh a q (n.b0.dom a h), fun e => n.nL (e ▸ n.b0.dom a h)⟩) q
/-- behind it all it is a list of one's own, of data -/
theorem NC.done (n : NB W0 A0 H0 L as gσ gρ) (c : NC K W0 A0 H0 L as W A H σ ρ gσ gρ rows) (hr : ρ[r]? = some (.raw (.ref L))) (hb : ρ.all Sl.noB = true) : SR K W0 A0 H0 H σ (ρ.set r (.ml (rows.map PyData.list))) gσ gρ := by
  have gl := n.gl
  have hrl := (List.getElem?_eq_some_iff.mp hr).1
  obtain ⟨o1, o2, o3⟩ := NC.out gl n c
  have h0 : SlR K W (fun a => A a ∧ a ∉ as) H (some (.ref L)) (.ml (rows.map PyData.list)) := ⟨L, as.map V.ref, rfl, n.at_L c.fr, o2, ⟨o3, n.nin⟩, NC.rows_ gl c (fun a z => z.1) fun a ha z => z.2 ha⟩
  have e1 := NC.envR (A' := fun a => A a ∧ a ∉ as) n c hr (fun a z => z.1) (fun a h1 h2 _ => ⟨h1, h2⟩) h0 trivial fun _ => hb
  refine ⟨W, fun a => A a ∧ a ∉ as, ⟨c.wl.up, fun a z => ?_, c.wl.inv⟩, fun a z => ⟨c.a0 a (.inl z), fun h => n.fresh a h (n.b0.dom a z)⟩, ⟨fun a z => ⟨c.bs.ba a z, fun h => (o1 a h).2 z⟩, fun a z => c.bs.dom a z.1, c.bs.inv, fun a xs z => c.bs.nt a xs z.1⟩, n.fr c.fr, e1, by rw [List.length_set, c.lg], fun j q s g1 k g2 => ?_⟩
  · rcases c.wl.dn a z with z | z
    · exact .inl z
    · exact .inr fun h => z (n.up h)
  · rcases get_set g1 with ⟨rfl, z, _⟩ | ⟨nj, g1⟩
    · have e0 := c.env.pre c.lg
      obtain ⟨v, ev, hv⟩ := e0.at_ _ _ hr
      rw [g2] at ev
      cases ev
      have hv : some (V.ref q) = some (.ref L) := hv
      cases hv
      exact n.nL
    · exact fun z => c.new j q s g1 k g2 (n.up z)
/-! ### statements -/
abbrev TDN := (List (List PyData) → List Sl → Prop) → (Er → Prop) → List (List PyData) → List Sl → Prop
class RefN (K : PySem.W.Frag) (τ : List (Addr × Str)) (E : XK) (r : Nat) (t : TS) (g : outParam TDN) : Prop where
  go : ∀ (W0 : Wld τ) (A0 : Addr → Prop) (H0 : Hp) (L : Addr) (as : List Addr) (D : Ends) (N : List (List PyData) → List Sl → Prop) (R : Er → Prop) (H : Hp) (σ : L2.St) (ρ : List Sl) (gσ : L2.St) (gρ : List Sl) (rows : List (List PyData)), NB W0 A0 H0 L as gσ gρ → NR K W0 A0 H0 L as H σ ρ gσ gρ rows → ρ[r]? = some (.raw (.ref L)) →
    (∀ H σ ρ rows, NR K W0 A0 H0 L as H σ ρ gσ gρ rows → ρ[r]? = some (.raw (.ref L)) → N rows ρ → D.nx σ H) → ErK K W0 A0 E H0 R → g N R rows ρ → t D σ H
/-- a statement that says nothing of it -/
def nOf (r : Nat) (g : TDS) : TDN := fun N R rows ρ => g { nx := fun ρ' => ρ'[r]? = ρ[r]? ∧ N rows ρ', rt := fun _ => False } R ρ
instance (priority := low) {t : TS} {g : TDS} [ht : RefS K τ E t g] : RefN K τ E r t (nOf r g) := ⟨fun W0 A0 H0 L as D N R H σ ρ gσ gρ rows n c hr w ek h =>
  ht.go W0 (aL A0 L) (hL H0 L as) D { nx := fun ρ' => ρ'[r]? = ρ[r]? ∧ N rows ρ', rt := fun _ => False } R H σ ρ (gσ ++ gS as) (gρ ++ gD rows) n.bs c ⟨fun H1 σ1 ρ1 s1 q => w H1 σ1 ρ1 rows s1 (q.1.trans hr) q.2, fun _ _ _ _ _ _ q => q.elim, fun _ _ _ _ q => q.elim, fun _ _ _ _ q => q.elim⟩ (n.ek ek) h⟩
def nSeq (g h : TDN) : TDN := fun N R rows ρ => g (fun rows' ρ' => h N R rows' ρ') R rows ρ
instance {t u : TS} {g h : TDN} [ht : RefN K τ E r t g] [hu : RefN K τ E r u h] : RefN K τ E r (tSeq t u) (nSeq g h) := ⟨fun W0 A0 H0 L as D N R H σ ρ gσ gρ rows n c hr w ek q =>
  ht.go W0 A0 H0 L as { D with nx := u D } _ R H σ ρ gσ gρ rows n c hr (fun H1 σ1 ρ1 rows1 c1 hr1 q1 => hu.go W0 A0 H0 L as D N R H1 σ1 ρ1 gσ gρ rows1 n c1 hr1 w ek q1) ek q⟩
def nNext : TDN := fun N _ rows ρ => N rows ρ
instance : RefN K τ E r tNext nNext := ⟨fun W0 A0 H0 L as D N R H σ ρ gσ gρ rows n c hr w ek q => w H σ ρ rows c hr q⟩
def nIf (r : Nat) (fc : TDT) (g h : TDN) : TDN := fun N R rows ρ => fc (ρ.set r (.bl (rows.map PyData.list))) (fun b => match b with
  | true => g N R rows ρ
  | false => h N R rows ρ) R
instance {c : TT} {t u : TS} {fc : TDT} {g h : TDN} [hc : RefT K τ E c fc] [ht : RefN K τ E r t g] [hu : RefN K τ E r u h] : RefN K τ E r (tIfS c t u) (nIf r fc g h) := ⟨fun W0 A0 H0 L as D N R H σ ρ gσ gρ rows n c hr w ek q => by
  obtain ⟨W, A, c⟩ := c
  refine hc.go W _ H σ _ _ R _ (NC.view n c hr ek) q fun b H1 f1 i1 q1 => ?_
  have c1 : NR K W0 A0 H0 L as H1 σ ρ gσ gρ rows := ⟨W, A, c.step f1 i1⟩
  cases b with
  | true => exact iteT (ht.go W0 A0 H0 L as D N R H1 σ ρ gσ gρ rows n c1 hr w ek q1)
  | false => exact iteF (hu.go W0 A0 H0 L as D N R H1 σ ρ gσ gρ rows n c1 hr w ek q1)⟩
def nWhile (r : Nat) (fc : TDT) (g : TDN) : TDN := fun N R rows ρ => ∃ I : Nat → List (List PyData) → List Sl → Prop, (∃ m, I m rows ρ) ∧ ∀ m rows ρ, I m rows ρ → fc (ρ.set r (.bl (rows.map PyData.list))) (fun b => match b with
  | true => g (fun rows' ρ' => ∃ m', m' < m ∧ I m' rows' ρ') R rows ρ
  | false => N rows ρ) R
instance {c : TT} {t : TS} {fc : TDT} {g : TDN} [hc : RefT K τ E c fc] [ht : RefN K τ E r t g] : RefN K τ E r (tWhile c t) (nWhile r fc g) := ⟨fun W0 A0 H0 L as D N R H σ ρ gσ gρ rows n c hr w ek h => by
  obtain ⟨I, ⟨m, im⟩, h⟩ := h
  refine ⟨fun m σ H => ∃ ρ rows, NR K W0 A0 H0 L as H σ ρ gσ gρ rows ∧ ρ[r]? = some (.raw (.ref L)) ∧ I m rows ρ, ⟨m, ρ, rows, c, hr, im⟩, fun m σ H ⟨ρ, rows, c, hr, im⟩ => ?_⟩
  obtain ⟨W, A, c⟩ := c
  refine hc.go W _ H σ _ _ R _ (NC.view n c hr ek) (h m rows ρ im) fun k H1 f1 i1 q => ?_
  have c1 : NR K W0 A0 H0 L as H1 σ ρ gσ gρ rows := ⟨W, A, c.step f1 i1⟩
  cases k with
  | true =>
    refine iteT ⟨fun σ' H' => ∃ ρ' rows', NR K W0 A0 H0 L as H' σ' ρ' gσ gρ rows' ∧ ρ'[r]? = some (.raw (.ref L)) ∧ ∃ m', m' < m ∧ I m' rows' ρ', fun σ' H' ⟨ρ', rows', c', hr', m', l, z⟩ => ⟨m', l, ρ', rows', c', hr', z⟩, ?_⟩
    exact ht.go W0 A0 H0 L as _ (fun rows' ρ' => ∃ m', m' < m ∧ I m' rows' ρ') R H1 σ ρ gσ gρ rows n c1 hr (fun H2 σ2 ρ2 rows2 c2 hr2 z => ⟨ρ2, rows2, c2, hr2, z⟩) ek q
  | false => exact iteF (w H1 σ ρ rows c1 hr q)⟩
end
end Dl

namespace Dl
open PySem PySem.Spec PyProof.Rows L2
section
variable {K : PySem.W.Frag} {τ : List (Addr × Str)} {E : XK}
variable {W0 W : Wld τ} {A0 A : Addr → Prop} {H0 H : Hp} {L : Addr} {as : List Addr} {rows : List (List PyData)} {σ gσ : L2.St} {ρ gρ : List Sl} {R : Er → Prop} {r : Nat}
/-- a slot behind the slots grows -/
theorem Cor.mutG (c : Cor K W0 A0 H0 W A H σ ρ gσ gρ) {i : Nat} {p : Addr} {xs ys : List PyData} {us : List V} (hi : ρ.length ≤ i) (eA : (ρ ++ gρ)[i]? = some (.ml xs)) (eS : (σ ++ gσ)[i]? = some (some (.ref p))) (n0 : ¬ Ob H0 p) (r : RpAll K A H us ys) :
    Cor K W0 A0 H0 W A (upd H p (.lst us)) σ ρ gσ (gρ.set (i - ρ.length) (.ml ys)) := by
  obtain ⟨v, ev', p', vs, e1, e2, nB, aP, _⟩ := c.env.at_ _ _ eA
  rw [eS] at ev'
  cases ev'
  cases e1
  have g : Goes A A H (upd H p (.lst us)) := fun b o eb _ nb => ⟨(upd_ne fun (z : b = p) => nb (by rw [z]; exact aP)).trans eb, nb⟩
  have es : ρ ++ gρ.set (i - ρ.length) (.ml ys) = (ρ ++ gρ).set i (.ml ys) := by
    rw [List.set_append_right _ _ hi]
  refine ⟨c.wl, c.a0, ⟨c.bs.ba, fun a z => ?_, W.own H p _ _ c.bs.inv e2 (.lst _) (.lst _) nB, fun a xs z e => by
    by_cases h : a = p
    · rw [h, upd_same] at e
      cases e
    · rw [upd_ne h] at e
      exact c.bs.nt a xs z e⟩, ⟨fun b o eb t nb => ?_, fun b hb => ?_⟩, ?_, c.lg, c.new⟩
  · by_cases h : a = p
    · subst h
      exact ⟨_, upd_same, nt_lst⟩
    · obtain ⟨o, e1, t1⟩ := c.bs.dom a z
      exact ⟨o, (upd_ne h).trans e1, t1⟩
  · rw [upd_ne (ne_nob eb t n0)]
    exact c.fr.1 b o eb t nb
  · by_cases h : b = p
    · subst h
      exact ⟨_, upd_same, nt_lst⟩
    · obtain ⟨o, e1, t1⟩ := c.fr.2 b hb
      exact ⟨o, (upd_ne h).trans e1, t1⟩
  · rw [es]
    refine ⟨by rw [List.length_set]; exact c.env.len, fun j s ej => ?_, fun j k q t s ne f1 f0 f2 f3 f4 f5 => ?_⟩
    · rcases get_set ej with ⟨rfl, rfl, _⟩ | ⟨nj, ej⟩
      · exact ⟨_, eS, p, us, rfl, upd_same, nB, aP, r.go g⟩
      · obtain ⟨w, ew, q⟩ := c.env.at_ j s ej
        refine ⟨w, ew, ?_⟩
        have far : s.foot → ∀ q' : Addr, w = some (.ref q') → q' ≠ p := fun hf q' e1 z => by
          subst z
          subst e1
          exact c.env.dis i j q' _ _ nj eA trivial ej hf eS ew
        cases s with
        | un => exact q
        | d x =>
          obtain ⟨u, e1, r1⟩ := q
          exact ⟨u, e1, r1.go g⟩
        | ml zs =>
          obtain ⟨q', ws, f1, f2, f3, f4, f5⟩ := q
          exact ⟨q', ws, f1, (upd_ne (far trivial q' f1)).trans f2, f3, f4, f5.go g⟩
        | bl zs =>
          obtain ⟨q', ws, f1, f2, f3⟩ := q
          exact ⟨q', ws, f1, ⟨(upd_ne (far trivial q' f1)).trans f2.1, f2.2⟩, f3.go g⟩
        | st => exact q
        | scr ns => exact q
        | raw u => exact q
        | mo o =>
          obtain ⟨q', ws, f1, f2, f3, f4, f5⟩ := q
          exact ⟨q', ws, f1, (upd_ne (far trivial q' f1)).trans f2, f3, f4, f5.go g⟩
        | bo o =>
          obtain ⟨q', ws, f1, f2, f3, f4⟩ := q
          exact ⟨q', ws, f1, (upd_ne (far trivial q' f1)).trans f2, f3, f4.go g⟩
    · rcases get_set f1 with ⟨rfl, z, _⟩ | ⟨n1, f1⟩
      · rcases get_set f2 with ⟨z2, _, _⟩ | ⟨n2, f2⟩
        · exact ne z2
        · exact c.env.dis i k q _ s ne eA trivial f2 f3 f4 f5
      · rcases get_set f2 with ⟨rfl, z, _⟩ | ⟨n2, f2⟩
        · exact c.env.dis j i q t _ ne f1 f0 eA trivial f4 f5
        · exact c.env.dis j k q t s ne f1 f0 f2 f3 f4 f5
/-- xs[k].append(e) -/
def nApp (fk fe : TD) : TDN := fun N R rows ρ => fk ρ (fun s => ∃ (n : Nat) (row : List PyData), s = .d (.int (n : Int)) ∧ rows[n]? = some row ∧ fe ρ (fun s2 => row.length < sizeLine ∧ ∃ y, s2.dat = some y ∧ N (rows.set n (row ++ [y])) ρ) R) R
instance {tk te : TE} {fk fe : TD} [hk : RefE K τ E tk fk] [he : RefE K τ E te fe] : RefN K τ E r (tDrop (tBM K "list" rAppend (tOp (rIx K) (tVar r) tk) (tCons te tNil))) (nApp fk fe) := ⟨fun W0 A0 H0 L as D N R H σ ρ gσ gρ rows n c hr w ek h => by
  obtain ⟨W, A, c⟩ := c
  have ek' := n.ek ek
  obtain ⟨v, ev, hv⟩ := (c.env.pre c.lg).at_ _ _ hr
  have ev : σ[r]? = some (some (.ref L)) := by
    rw [ev, show v = some (.ref L) from hv]
  refine ⟨.ref L, ev, ?_⟩
  refine hk.go W A H σ ρ _ R _ (c.at_ ek') h fun u H1 s f1 i1 r1 q1 => ?_
  obtain ⟨m, row, rfl, er, q1⟩ := q1
  have c1 := c.step f1 i1
  have eL := n.at_L c1.fr
  obtain ⟨a, vs, ea, g1, g2, e1, _, _, rv⟩ := NC.ghost n.gl c1 er
  have eat : atI (as.map V.ref) (m : Int) = some (.ref a) := atI_nat (by rw [List.getElem?_map, ea]; rfl)
  have hu : u = .int (m : Int) := r1.flat (u := .int (m : Int)) rfl
  refine .inl ⟨L, as.map V.ref, (m : Int), .ref a, rfl, hu, SqL.of eL, eat, .inl ⟨rfl, _, SqL.of e1⟩, ?_⟩
  refine he.go W A H1 σ ρ _ R _ (c1.at_ ek') q1 fun x H2 s2 f2 i2 r2 q2 => ?_
  obtain ⟨hs, y, ey, q2⟩ := q2
  have c2 := c1.step f2 i2
  have rv2 := rv.go (goes_fr c1.bs.ba f2)
  have e2 := (NC.ghost n.gl c2 er)
  obtain ⟨a', vs', ea', g1', g2', e2, _, _, rv'⟩ := e2
  rw [ea] at ea'
  cases ea'
  have na : ¬ Ob (hL H0 L as) a := fun z => by
    rcases n.dn z with z | z
    · exact n.fresh a (List.mem_of_getElem? ea) z
    · exact n.nin (z ▸ List.mem_of_getElem? ea)
  refine ⟨a, vs', x, rfl, rfl, e2, by rw [rv'.length]; exact hs, ?_⟩
  refine w _ σ ρ (rows.set m (row ++ [y])) ⟨W, A, ?_⟩ hr q2
  have := c2.mutG (by omega) g1' g2' na (rv'.append (.one (r2.dat c1.bs ey)))
  rw [show ρ.length + gρ.length + m - ρ.length = gρ.length + m from by omega, List.set_append_right _ _ (by omega), show gρ.length + m - gρ.length = m from by omega, show (gD rows).set m (.ml (row ++ [y])) = gD (rows.set m (row ++ [y])) from (List.map_set).symm] at this
  exact this⟩
/-! ### the block: xs, ys = [a new list for ..], [..], then a statement -/
theorem NC.first {Hb G : Hp} (b : Bs W0 A0 H0) (gl : gσ.length = gρ.length) (c : Cor K W0 A0 H0 W A Hb σ ρ gσ gρ) (f : Fr W.B Hb G) (i : W.I G) (h : LF K A Hb G L as rows) : NB W0 A0 H0 L as gσ gρ ∧ NC K W0 A0 H0 L as W (AL A L as) G σ ρ gσ gρ rows := by
  have up : ∀ a, Ob H0 a → Ob Hb a := c.fr.2
  have nL : ¬ Ob H0 L := fun z => h.nL (up L z)
  have fG : Fr W0.B H0 G := c.wl.fr c.fr f
  have neL : ∀ a, A a → a ≠ L := fun a z e => c.bs.nA h.nL (e ▸ z)
  have tb : LamX.Tabs τ (hL H0 L as) := fun p hp => by
    obtain ⟨ps, h1, h2, h3⟩ := W0.tab _ b.inv p hp
    obtain ⟨ps', h1', _, _⟩ := W.tab _ i p hp
    have np : p.1 ≠ L := fun z => by
      rw [z, h.eL] at h1'
      cases h1'
    refine ⟨ps, (upd_ne np).trans h1, h2, fun pos cv hc => ?_⟩
    obtain ⟨cc, e1, e2⟩ := h3 pos cv hc
    exact ⟨cc, e1, (upd_ne (show cc ≠ L from fun z => nL (z ▸ ⟨_, e2, fun _ q => nomatch q⟩))).trans e2⟩
  have inL : W0.I (hL H0 L as) := W0.tbI _ _ b.inv (fun c o e t => (upd_ne (show c ≠ L from fun z => nL (z ▸ ⟨o, e, t⟩))).trans e) tb
  have hG : ∀ (j : Nat) (q : Addr) (s : Sl), gρ[j]? = some s → s.foot → gσ[j]? = some (some (.ref q)) → Ob Hb q := fun j q s e1 k e2 => by
    obtain ⟨v, ev, hv⟩ := c.env.at_ (ρ.length + j) s (by rw [List.getElem?_append_right (by omega), Nat.add_sub_cancel_left]; exact e1)
    rw [← c.lg, List.getElem?_append_right (by omega), Nat.add_sub_cancel_left, e2] at ev
    cases ev
    exact foot_ob hv k
  have n : NB W0 A0 H0 L as gσ gρ := ⟨b, nL, fun a ha z => h.fresh a ha (up a z), h.nin, ⟨fun a z => .inl (b.ba a z), fun a z => by
    rcases z with z | z
    · obtain ⟨o, e, t⟩ := b.dom a z
      exact ⟨o, (upd_ne (show a ≠ L from fun z => nL (z ▸ ⟨o, e, t⟩))).trans e, t⟩
    · subst z
      exact ⟨_, upd_same, nt_lst⟩, inL, fun a xs z e => by
    unfold hL at e
    by_cases q : a = L
    · rw [q, upd_same] at e
      cases e
    · rw [upd_ne q] at e
      exact b.nt a xs (z.resolve_right q) e⟩, gl, fun j q s e1 k e2 z => h.nL (z ▸ hG j q s e1 k e2)⟩
  have obs : ∀ (j : Nat) (q : Addr) (s : Sl), (ρ ++ gρ)[j]? = some s → s.foot → (σ ++ gσ)[j]? = some (some (.ref q)) → Ob Hb q := fun j q s e1 k e2 => by
    obtain ⟨v, ev, hv⟩ := c.env.at_ j s e1
    rw [e2] at ev
    cases ev
    exact foot_ob hv k
  have hl := paired_len h.rows_
  have env1 := h.env c.bs f c.env
  have lN : (σ ++ gσ).length = (ρ ++ gρ).length := c.env.len
  refine ⟨n, ⟨fun a z => c.wl.up a z, fun a z => ?_, c.wl.inv⟩, fun a z => z.elim (fun z => .inl (c.a0 a z)) fun z => .inr (.inl z), h.bs c.bs f i, ⟨fun x o e t nb => ?_, fun x hx => ?_⟩, ?_, c.lg, fun j q s e1 k e2 z => ?_⟩
  · rcases c.wl.dn a z with z' | z'
    · exact .inl z'
    · refine .inr fun q => ?_
      rcases n.dn q with q | q
      · exact z' q
      · exact neL a (c.bs.ba a z) q
  · by_cases z : x = L
    · subst z
      rw [n.eL] at e
      cases e
      exact h.eL
    · exact fG.1 x o ((upd_ne z).symm.trans e) t nb
  · rcases n.dn hx with q | q
    · exact fG.2 x q
    · subst q
      exact ⟨_, h.eL, nt_lst⟩
  · rw [← List.append_assoc, ← List.append_assoc]
    have key : ∀ (k : Nat) (s : Sl), (gD rows)[k]? = some s → ∃ a vs row, as[k]? = some a ∧ s = .ml row ∧ (gS as)[k]? = some (some (.ref a)) ∧ G a = some (.lst vs) ∧ RpAll K (AL A L as) G vs row := fun k s e => by
      have e : (rows.map Sl.ml)[k]? = some s := e
      rw [List.getElem?_map] at e
      obtain ⟨row, er, rfl⟩ := Option.map_eq_some_iff.mp e
      obtain ⟨a, ea, vs, ev, rv⟩ := paired_at h.rows_ er
      exact ⟨a, vs, row, ea, rfl, by show (as.map _)[k]? = _; rw [List.getElem?_map, ea]; rfl, ev, rv⟩
    refine ⟨by simp only [List.length_append, gS, gD, List.length_map] at lN ⊢; omega, fun j s ej => ?_, fun j k q t s ne g1 g0 g2 g3 g4 g5 => ?_⟩
    · by_cases hj : j < (ρ ++ gρ).length
      · rw [List.getElem?_append_left hj] at ej
        rw [List.getElem?_append_left (by omega)]
        exact env1.at_ j s ej
      · rw [List.getElem?_append_right (by omega)] at ej
        rw [List.getElem?_append_right (by omega), lN]
        obtain ⟨a, vs, row, ea, rfl, e2, e3, rv⟩ := key _ _ ej
        have ma := List.mem_of_getElem? ea
        exact ⟨_, e2, a, vs, rfl, e3, c.bs.nB (h.fresh a ma), .inr (.inr ma), rv⟩
    · by_cases hj : j < (ρ ++ gρ).length
      · rw [List.getElem?_append_left hj] at g1
        rw [List.getElem?_append_left (by omega)] at g4
        by_cases hk : k < (ρ ++ gρ).length
        · rw [List.getElem?_append_left hk] at g2
          rw [List.getElem?_append_left (by omega)] at g5
          exact env1.dis j k q t s ne g1 g0 g2 g3 g4 g5
        · rw [List.getElem?_append_right (by omega)] at g2 g5
          rw [lN] at g5
          obtain ⟨a, vs, row, ea, rfl, e2, e3, rv⟩ := key _ _ g2
          rw [e2] at g5
          cases g5
          exact h.fresh _ (List.mem_of_getElem? ea) (obs j _ t g1 (own_foot g0) g4)
      · rw [List.getElem?_append_right (by omega)] at g1 g4
        rw [lN] at g4
        obtain ⟨a, vs, row, ea, rfl, e2, e3, rv⟩ := key _ _ g1
        rw [e2] at g4
        cases g4
        by_cases hk : k < (ρ ++ gρ).length
        · rw [List.getElem?_append_left hk] at g2
          rw [List.getElem?_append_left (by omega)] at g5
          exact h.fresh _ (List.mem_of_getElem? ea) (obs k _ s g2 g3 g5)
        · rw [List.getElem?_append_right (by omega)] at g2 g5
          rw [lN] at g5
          obtain ⟨a', vs', row', ea', rfl, e2', e3', rv'⟩ := key _ _ g2
          rw [e2'] at g5
          cases g5
          have hja := (List.getElem?_eq_some_iff.mp ea).1
          have := (List.getElem?_inj hja h.nd).mp (ea.trans ea'.symm)
          omega
  · rcases n.dn z with z' | z'
    · exact c.new j q s e1 k e2 z'
    · exact h.nL (z' ▸ obs j q s (by rw [List.getElem?_append_left (List.getElem?_eq_some_iff.mp e1).1]; exact e1) (own_foot k) (by rw [List.getElem?_append_left (List.getElem?_eq_some_iff.mp e2).1]; exact e2))
def tNst (r j : Nat) (wi : TI) (g : TG) (te : TE) (vs : List Nat) (t2 : TE) (w : TS) : TS := tSeq (tPar r j (tCons (tLc wi g tYes te vs) (tCons t2 tNil))) w
def dNst (r j : Nat) (fi : TDI) (fg : FG) (fe : TD) (vs : List Nat) (f2 : TD) (gw : TDN) : TDS := fun dd R ρ => fi ρ (fun ds => lcO fg fe (wipeD ρ vs) R (fun rows => f2 ρ (fun s => ∃ ys, s = .ml ys ∧ r < ρ.length ∧ r ≠ j ∧ ∀ L : Addr, gw (fun rows' ρ' => ρ'.all Sl.noB = true ∧ dd.nx (ρ'.set r (.ml (rows'.map PyData.list)))) R rows ((ρ.set r (.raw (.ref L))).set j (.ml ys))) R) ds []) R
instance {r j : Nat} {wi : TI} {g : TG} {te t2 : TE} {vs sl : List Nat} {w : TS} {fi : TDI} {fg : FG} {fe f2 : TD} {gw : TDN} [hi : RefJ K τ E wi fi] [hg : RefG K g fg sl] [he : RefE K τ E te fe] [inc : Inc sl vs] [h2 : RefE K τ E t2 f2] [hw : RefN K τ E r w gw] : RefS K τ E (tNst r j wi g te vs t2 w) (dNst r j fi fg fe vs f2 gw) := ⟨fun W0 A0 H0 D dd R H σ ρ gσ gρ b sr er ek h => by
  obtain ⟨W, A, c⟩ := sr
  have gl : gσ.length = gρ.length := by
    have := c.env.len
    simp only [List.length_append] at this
    have := c.lg
    omega
  unfold tNst tSeq
  show tPar r j _ _ σ H
  unfold tPar tCons tNil
  refine lc_own hi hg he inc (c.at_ ek) h fun Hb G L as rows fHb iHb f0 i0 hL0 q => ?_
  have c1 := c.step fHb iHb
  obtain ⟨n, cG⟩ := NC.first b gl c1 f0 i0 hL0
  refine h2.go W (AL A L as) G σ ρ _ R _ (cG.at_ (n.ek ek)) q fun v H2 s f2 i2 r2 q2 => ?_
  obtain ⟨ys, rfl, hr, hrj, q2⟩ := q2
  obtain ⟨p, us, rfl, np, e1, rr⟩ := r2
  refine ⟨.ref L, .ref p, rfl, ?_⟩
  have c2 := cG.set (i := r) (v := .ref L) (s := .raw (.ref L)) trivial rfl
  have c3 := c2.own (i := j) (s := .ml ys) f2 i2 np ⟨p, us, rfl, e1, cG.bs.nB np, .inr rfl, rr⟩ trivial
  refine hw.go W0 A0 H0 L as _ _ R H2 _ _ gσ gρ rows n ⟨W, _, c3⟩ (by rw [List.getElem?_set_ne (Ne.symm hrj), List.getElem?_set_self hr]) (fun H3 σ3 ρ3 rows3 s3 hr3 q3 => ?_) ek (q2 L)
  obtain ⟨W3, A3, s3⟩ := s3
  exact er.nx H3 σ3 _ (NC.done n s3 hr3 q3.1) q3.2⟩
theorem dNst_c {r j : Nat} {fi : TDI} {fg : FG} {fe f2 : TD} {vs : List Nat} {gw : TDN} {dd : DEnds} {ρ : List Sl} : dNst r j fi fg fe vs f2 gw dd R ρ = fi ρ (fun ds => lcO fg fe (wipeD ρ vs) R (fun rows => f2 ρ (fun s => ∃ ys, s = .ml ys ∧ r < ρ.length ∧ r ≠ j ∧ ∀ L : Addr, gw (fun rows' ρ' => ρ'.all Sl.noB = true ∧ dd.nx (ρ'.set r (.ml (rows'.map PyData.list)))) R rows ((ρ.set r (.raw (.ref L))).set j (.ml ys))) R) ds []) R := propext Iff.rfl
theorem pss_nst {X : Cx} {st1 st2 : Stmt} {rest : List Stmt} {u : TS} {r j : Nat} {wi : TI} {g : TG} {te t2 : TE} {vs : List Nat} {w : TS} (h1 : PS X st1 (tPar r j (tCons (tLc wi g tYes te vs) (tCons t2 tNil)))) (h2 : PS X st2 w) (h3 : PSs X rest u) : PSs X (st1 :: st2 :: rest) (tSeq (tNst r j wi g te vs t2 w) u) := show PSs X (st1 :: st2 :: rest) (tSeq (tSeq (tPar r j (tCons (tLc wi g tYes te vs) (tCons t2 tNil))) w) u) from ⟨fun pins s σ H D I h => (pss_cons h1 (pss_cons h2 h3)).run pins s σ H D I h⟩
end
end Dl

namespace Dl
open PySem PySem.Spec PyProof.Rows L2
section
variable {K : PySem.W.Frag} {τ : List (Addr × Str)} {E : XK}
/-! ### xs.remove(x), of data, where it is there -/
def rRemD (K : PySem.W.Frag) : V → List V → Hp → VK → Prop := fun x xs H Q => ∃ (l : Addr) (vs : List V) (y : V) (d : PyData) (ds : List PyData) (j : Nat), x = .ref l ∧ xs = [y] ∧ H l = some (.lst vs) ∧ DpAll K H vs ds ∧ Dp K H y d ∧ d.canLay0 = true ∧ PyData.canLayAll0 ds = true ∧ d.depth ≤ 60 ∧
  ds.findIdx? (fun z => PyData.eqv z d) = some j ∧ Q .non (upd H l (.lst (vs.eraseIdx j)))
theorem plain_all : ∀ {ds : List PyData}, PyData.canLayAll0 ds = true → PyData.plainAll ds = true
  | [], _ => by rw [PyData.plainAll]
  | d :: ds, h => by
    rw [PyData.canLayAll0, Bool.and_eq_true] at h
    rw [PyData.plainAll, PyData.plain_of_canLay0 d h.1, plain_all h.2]
    rfl
theorem mt_remD {X : Cx} (hu : X.A.units + 64 < cLine) : MtM X "list.remove" (rRemD X.K) := by
  intro pins s σ H x xs v us Q I rx rxs h
  obtain ⟨l, vs, y, d, ds, j, rfl, rfl, hH, pa, py, l1, l2, dd, ej, q⟩ := h
  cases rx
  obtain ⟨u, rfl, ru⟩ := rxs.one
  obtain ⟨z, its, n, r, hl, e⟩ := I.lstM hH
  obtain ⟨as, ra⟩ := Dp.readsAll I _ _ _ pa r
  obtain ⟨bs, rb⟩ := Dp.reads I _ _ _ py ru
  refine PySem.SeqAt.remove_list_data (j := j) (vs := its.toArray) (xs := ds) ⟨_, e, rfl, n, rfl⟩ (by simpa using ra) rb (plain_all l2) (PyData.plain_of_canLay0 d l1) (by have := Nat.min_le_right (PyData.depthAll ds) d.depth; omega) ej (by rw [List.size_toArray]; omega) ?_
  have rr := r.eraseIdx j
  refine ⟨.non, _, I.lset (its' := its.eraseIdx j) (t' := s.toks) hH e ?_ rr ?_, rfl, q⟩
  · show its.toArray.eraseIdxIfInBounds j = (its.eraseIdx j).toArray
    rw [List.eraseIdxIfInBounds_toArray]
  · have := List.length_eraseIdx_le vs j
    omega
theorem mt_remDK {X : Cx} (h : X.K = K) (hu : X.A.units + 64 < cLine) : MtM X "list.remove" (rRemD K) := by
  subst h
  exact mt_remD hu
theorem rpAll_erase {A : Addr → Prop} {H : Hp} : ∀ {vs : List V} {ds : List PyData} (j : Nat), RpAll K A H vs ds → RpAll K A H (vs.eraseIdx j) (ds.eraseIdx j)
  | _, _, _, .nil => .nil
  | _, _, 0, .cons _ r => r
  | _, _, j + 1, .cons h r => .cons h (rpAll_erase j r)
def dRem (i : Nat) (fe : TD) : TDS := fun dd R ρ => match (ρ[i]?).getD .un with
  | .ml xs => fe ρ (fun s => ∃ d, s.dat = some d ∧ d.canLay0 = true ∧ PyData.canLayAll0 xs = true ∧ d.depth ≤ 60 ∧ (xs.any fun z => PyData.eqv z d) = true ∧ dd.nx (ρ.set i (.ml (xs.eraseP fun z => PyData.eqv z d)))) R
  | _ => False
instance {i : Nat} {t : TE} {f : TD} [ht : RefE K τ E t f] : RefS K τ E (tDrop (tBM K "list" (rRemD K) (tVar i) (tCons t tNil))) (dRem i f) := ⟨fun W A0 H0 D dd R H σ ρ gσ gρ b sr er ek h => by
  obtain ⟨W', A, c⟩ := sr
  obtain ⟨xs, e, q⟩ := own_iff (P := fun xs => f ρ (fun s => ∃ d, s.dat = some d ∧ d.canLay0 = true ∧ PyData.canLayAll0 xs = true ∧ d.depth ≤ 60 ∧ (xs.any fun z => PyData.eqv z d) = true ∧ dd.nx (ρ.set i (.ml (xs.eraseP fun z => PyData.eqv z d)))) R) h
  obtain ⟨p, vs, ev, ep, nB, r0⟩ := c.own_at e
  refine ⟨.ref p, ev, .inl ⟨rfl, _, SqL.of ep⟩, ?_⟩
  refine ht.go W' A H σ ρ _ R _ (c.at_ ek) q fun v H1 s f1 i1 r1 q1 => ?_
  obtain ⟨d, ed, l1, l2, dd', hany, q2⟩ := q1
  have c1 := c.step f1 i1
  have r1' := r0.go (goes_fr c.bs.ba f1)
  rw [List.eraseP_eq_eraseIdx] at q2
  cases ef : xs.findIdx? (fun z => PyData.eqv z d) with
  | none =>
    obtain ⟨z, hz, hzd⟩ := List.any_eq_true.mp hany
    have := List.findIdx?_eq_none_iff.mp ef z hz
    rw [hzd] at this
    cases this
  | some j =>
    rw [ef] at q2
    refine ⟨p, vs, v, d, xs, j, rfl, rfl, f1.1 _ _ ep nt_lst nB, r1'.dp l2, (r1.dat c.bs ed).dp l1, l1, l2, dd', ef, ?_⟩
    exact er.nx _ _ _ ⟨W', A, c1.mut e ev (rpAll_erase j r1')⟩ q2⟩
theorem dRem_c {i : Nat} {fe : TD} {dd : DEnds} {R : Er → Prop} {ρ : List Sl} : dRem i fe dd R ρ = (match (ρ[i]?).getD .un with
  | .ml xs => fe ρ (fun s => ∃ d, s.dat = some d ∧ d.canLay0 = true ∧ PyData.canLayAll0 xs = true ∧ d.depth ≤ 60 ∧ (xs.any fun z => PyData.eqv z d) = true ∧ dd.nx (ρ.set i (.ml (xs.eraseP fun z => PyData.eqv z d)))) R
  | _ => False) := propext Iff.rfl
variable {r : Nat} {fc : TDT} {g h : TDN} {N : List (List PyData) → List Sl → Prop} {R : Er → Prop} {rows : List (List PyData)} {ρ : List Sl}
theorem nSeq_c : nSeq g h N R rows ρ = g (fun rows' ρ' => h N R rows' ρ') R rows ρ := propext Iff.rfl
def iteN (g h : TDN) (N : List (List PyData) → List Sl → Prop) (R : Er → Prop) (rows : List (List PyData)) (ρ : List Sl) : Bool → Prop := fun b => match b with
  | true => g N R rows ρ
  | false => h N R rows ρ
theorem nIf_c : nIf r fc g h N R rows ρ = fc (ρ.set r (.bl (rows.map PyData.list))) (iteN g h N R rows ρ) R := propext Iff.rfl
theorem iteN_t : iteN g h N R rows ρ true = g N R rows ρ := propext Iff.rfl
theorem iteN_f : iteN g h N R rows ρ false = h N R rows ρ := propext Iff.rfl
def whN (g : TDN) (N : List (List PyData) → List Sl → Prop) (I : Nat → List (List PyData) → List Sl → Prop) (m : Nat) (R : Er → Prop) (rows : List (List PyData)) (ρ : List Sl) : Bool → Prop := fun b => match b with
  | true => g (fun rows' ρ' => ∃ m', m' < m ∧ I m' rows' ρ') R rows ρ
  | false => N rows ρ
theorem nWhile_c : nWhile r fc g N R rows ρ = ∃ I : Nat → List (List PyData) → List Sl → Prop, (∃ m, I m rows ρ) ∧ ∀ m rows ρ, I m rows ρ → fc (ρ.set r (.bl (rows.map PyData.list))) (whN g N I m R rows ρ) R := propext Iff.rfl
theorem whN_t {I : Nat → List (List PyData) → List Sl → Prop} {m : Nat} : whN g N I m R rows ρ true = g (fun rows' ρ' => ∃ m', m' < m ∧ I m' rows' ρ') R rows ρ := propext Iff.rfl
theorem whN_f {I : Nat → List (List PyData) → List Sl → Prop} {m : Nat} : whN g N I m R rows ρ false = N rows ρ := propext Iff.rfl
theorem nApp_c {fk fe : TD} : nApp fk fe N R rows ρ = fk ρ (fun s => ∃ (n : Nat) (row : List PyData), s = .d (.int (n : Int)) ∧ rows[n]? = some row ∧ fe ρ (fun s2 => row.length < sizeLine ∧ ∃ y, s2.dat = some y ∧ N (rows.set n (row ++ [y])) ρ) R) R := propext Iff.rfl
theorem nOf_c {g : TDS} : nOf r g N R rows ρ = g { nx := fun ρ' => ρ'[r]? = ρ[r]? ∧ N rows ρ', rt := fun _ => False } R ρ := propext Iff.rfl
theorem nNext_c : nNext N R rows ρ = N rows ρ := propext Iff.rfl
end
end Dl

namespace Dl
open PySem PySem.Spec PyProof.Rows L2
/-! ### the values of a dict with tuple keys, while it is locked -/
section
variable {X : Cx} {pins : List (Addr × Obj)} {σ : L2.St} {H : Hp} {s : Shared} {d : Addr} {o : Obj}
theorem frzTv {kvs : List (List Key × V)} (I : Inv X pins σ H s) (h : H d = some (.frz o (.dT kvs))) :
    (d == sysModules) = false ∧ ∃ (es : Array DictEntry) (ep : Nat), s.heap.DictRaw d es ep ∧ o.data = .dict es ep ∧ es.size = kvs.length ∧ ∀ (i : Nat) (k : List Key) (v : V), kvs[i]? = some (k, v) → ∃ en : DictEntry, es[i]? = some en ∧ RelV v en.val := by
  obtain ⟨hd, z, hs, xs, pr, o', es, ep, ho, hx, hdt, he, _⟩ := I.hok d _ h
  rw [hd] at ho
  cases ho
  refine ⟨hs, es, ep, ⟨o, hd, hx, hdt⟩, hdt, ?_, fun i k v e => ?_⟩
  · have l1 : es.size = xs.length := size_of_entries he
    have l2 : kvs.length = xs.length := Paired.length pr
    omega
  · obtain ⟨b, hb, _, _, rv⟩ := paired_get pr e
    have q := entry_at he i
    rw [hb] at q
    exact ⟨_, q, rv⟩
end
def Itvt (d : Addr) (o : Obj) (kvs : List (List Key × V)) : It :=
  ⟨fun i H => H d = some (.frz o (.dT kvs)) ∧ i < kvs.length, fun i H x H' => H' = H ∧ ∃ k, kvs[i]? = some (k, x), fun i H => H d = some (.frz o (.dT kvs)) ∧ kvs.length ≤ i⟩
theorem turn_valsT {P : Program} {w : World} {K : PySem.W.Frag} {tg : Expr} {d : Addr} {o : Obj} {es : Array DictEntry} {ep : Nat} {kvs : List (List Key × V)} (it : Addr) (hod : o.data = .dict es ep) : Turn P w K tg (Itvt d o kvs) [it] it (fun i h => h.IsValIter it d i kvs.length ep) where
  mem := by simp
  obj := fun i h st b hb => by
    have e : b = it := by simpa using hb
    subst e
    obtain ⟨oi, e, c, dd⟩ := st
    exact ⟨oi, e, fun v z => by rw [dd] at z; cases z⟩
  keep := fun i h h' st k => st.at fun oi e => k it (by simp) oi e
  item := by
    intro X hP hw hK hc i pins s σ H E I hf st hg
    subst hP hw hK
    obtain ⟨hd, hi⟩ := hg
    obtain ⟨f0, f1, f2, f3, f4, f5⟩ := hf it (by simp)
    obtain ⟨hs, es', ep', hm, hdt, hsz, ent⟩ := frzTv I hd
    obtain ⟨rfl, rfl⟩ := dict_ep hod hdt
    obtain ⟨⟨k, v⟩, hkv⟩ : ∃ p, kvs[i]? = some p := ⟨kvs[i], List.getElem?_eq_getElem hi⟩
    obtain ⟨en, hen, ru⟩ := ent i k v hkv
    obtain ⟨hlt, eq⟩ := Array.getElem?_eq_some_iff.mp hen
    have st1 := st
    rw [← hsz] at st1
    refine wpAny_pyNext_values_item_raw st1 hm hlt fun h' st' sb => ?_
    have I1 : Inv X pins σ H { s with heap := h' } := I.turned (t' := s.toks) (fun b ob hb e => (sb.2 b hb).trans e) f0 f1 f3 f4 f5
    obtain ⟨oi, e, c, dd⟩ := id st'
    refine ⟨_, rfl, go_of (s := { s with heap := h' }) e c dd (by decide) ⟨v, H, I1, ?_, ⟨rfl, k, hkv⟩, ?_, fun b hb => (hf b hb).1⟩⟩
    · rw [eq]
      exact ru
    · show h'.IsValIter it d (i + 1) kvs.length _
      rw [← hsz]
      exact st'
  done := by
    intro X hP hw hK hc i pins s σ H E I hf st hg
    subst hP hw hK
    obtain ⟨hd, hi⟩ := hg
    obtain ⟨f0, f1, f2, f3, f4, f5⟩ := hf it (by simp)
    obtain ⟨hs, es', ep', hm, hdt, hsz, ent⟩ := frzTv I hd
    obtain ⟨rfl, rfl⟩ := dict_ep hod hdt
    have st1 := st
    rw [← hsz] at st1
    exact wpAny_pyNext_values_end_raw (I.ok.hd hc) st1 hm (by omega) fun h' eb => ⟨rfl, I.turned (t' := s.toks) (fun b ob hb e => eb b ob hb e) f0 f1 f3 f4 f5⟩
  self := fun A i s Q E st h => wpAny_pyIter_valiter st h
def iValsT (td : TE) : TI := fun σ H R => td σ H fun x H1 => ∃ d o kvs, x = .ref d ∧ H1 d = some (.frz o (.dT kvs)) ∧ R (Itvt d o kvs) H1
theorem pi_valuesT {X : Cx} {tg e : Expr} {td : TE} {apos cpos : Pos} (he : PE X e td) (hbase : attributeBase e "values" X.env (eval e X.env) = eval e X.env := by rfl) (hline : (apos.endLine == cpos.line) = true := by rfl) : PI X tg (.Call (.Attribute e "values" apos) [] [] cpos) (iValsT td) := by
  refine ⟨fun pins s σ H R I h => ?_⟩
  refine wpAny_Call_method (T := "dict") (id := "dict.values") hbase rfl hline F.plainAttrs_dict F.slot_dict_values F.type_dict_values (thn (he.run pins s σ H _ I h) fun u s1 ⟨x, H1, I1, rx, d, o, kvs, ex, hd, q⟩ => ?_)
  subst ex
  obtain rfl : u = Value.ref d := rx
  obtain ⟨hs, es, ep, hm, hdt, hsz, ent⟩ := frzTv I1 hd
  refine ⟨hm.typeIs, ?_, ?_⟩
  · intro b e
    cases e
    obtain ⟨o', ho, hx, _⟩ := hm
    exact ⟨o', ho, hx.2.1⟩
  have I2 : Inv X pins σ H1 { s1 with heap := s1.heap.push { cls := .type "dict_values", data := .fields #[.ref d] } } := I1.kept (t' := s1.toks) fun b ob q => Heap.get?_push_of_some _ q
  have fin : wpAny (model X.prog X.w) X.A (pyIter (.ref s1.heap.objs.size)) (PIE X pins σ tg R) X.xe { s1 with heap := s1.heap.push { cls := .type "dict_values", data := .fields #[.ref d] } } := by
    refine wpAny_pyIter_values_raw (d := d) ⟨_, Heap.get?_push_size _ rfl, rfl, rfl⟩ (hm.at fun o e => Heap.get?_push_of_some _ e) (pi_one (tk := s1.toks) I2 _ (turn_valsT _ hdt) ⟨_, Heap.get?_push_size _ rfl, rfl, ?_⟩ q)
    rw [hsz] <;> rfl
  show wpAny _ _ (callWith cpos (.builtin "dict.values") [.ref d] [] []) _ X.xe s1
  exact method_meetsIn F.slot_dict_values F.entry_dict_values rfl (PySem.evalArgs_none ⟨rfl, hm.typeIs, F.args_dict_values_1 _, _, meets_dict_values_raw d hs, ⟨es, ep, hm⟩, fin⟩)
end Dl

namespace Dl
open PySem PySem.Spec PyProof.Rows L2
/-! ### a dict of one's own with tuple keys: x = {}, x[(..)] = v -/
section
variable {K : PySem.W.Frag} {τ : List (Addr × Str)} {E : XK}
section
variable {κ : Type} [DecidableEq κ]
def putG (kvs : List (κ × PyData)) (k : κ) (v : PyData) : List (κ × PyData) :=
  if (kvs.any fun kv => decide (kv.1 = k)) = true then kvs.map (fun kv => if kv.1 = k then (kv.1, v) else kv) else kvs ++ [(k, v)]
theorem og_any (k : κ) : ∀ {ks : List (κ × V)} {kvs : List (κ × PyData)}, ks.map (·.1) = kvs.map (·.1) → (ks.any fun kv => decide (kv.1 = k)) = kvs.any fun kv => decide (kv.1 = k)
  | [], [], _ => rfl
  | [], _ :: _, e => by cases e
  | _ :: _, [], e => by cases e
  | p :: ks, q :: kvs, e => by
    obtain ⟨e1, e2⟩ := List.cons.inj e
    rw [List.any_cons, List.any_cons, og_any k e2, show p.1 = q.1 from e1]
theorem og_map {A : Addr → Prop} {H : Hp} (k : κ) {v : V} {d : PyData} (h : Rp K A H v d) : ∀ {ks : List (κ × V)} {kvs : List (κ × PyData)}, ks.map (·.1) = kvs.map (·.1) → RpAll K A H (ks.map (·.2)) (kvs.map (·.2)) →
    (ks.map (fun kv => if kv.1 = k then (kv.1, v) else kv)).map (·.1) = (kvs.map (fun kv => if kv.1 = k then (kv.1, d) else kv)).map (·.1) ∧ RpAll K A H ((ks.map (fun kv => if kv.1 = k then (kv.1, v) else kv)).map (·.2)) ((kvs.map (fun kv => if kv.1 = k then (kv.1, d) else kv)).map (·.2))
  | [], [], _, _ => ⟨rfl, .nil⟩
  | [], _ :: _, e, _ => by cases e
  | _ :: _, [], e, _ => by cases e
  | (k1, v1) :: ks, (k2, d2) :: kvs, e, r => by
    obtain ⟨e1, e2⟩ := List.cons.inj e
    have e1 : k1 = k2 := e1
    subst e1
    cases r with
    | cons r1 r2 =>
      obtain ⟨a, b⟩ := og_map k h e2 r2
      by_cases hk : k1 = k
      · refine ⟨?_, ?_⟩
        · rw [List.map_cons, List.map_cons, List.map_cons, List.map_cons, a, if_pos hk, if_pos hk]
        · rw [List.map_cons, List.map_cons, List.map_cons, List.map_cons, if_pos hk, if_pos hk]
          exact .cons h b
      · refine ⟨?_, ?_⟩
        · rw [List.map_cons, List.map_cons, List.map_cons, List.map_cons, a, if_neg hk, if_neg hk]
        · rw [List.map_cons, List.map_cons, List.map_cons, List.map_cons, if_neg hk, if_neg hk]
          exact .cons r1 b
theorem og_put {A : Addr → Prop} {H : Hp} (k : κ) {v : V} {d : PyData} (h : Rp K A H v d) {ks : List (κ × V)} {kvs : List (κ × PyData)} (e : ks.map (·.1) = kvs.map (·.1)) (r : RpAll K A H (ks.map (·.2)) (kvs.map (·.2))) :
    (putK ks k v).map (·.1) = (putG kvs k d).map (·.1) ∧ RpAll K A H ((putK ks k v).map (·.2)) ((putG kvs k d).map (·.2)) := by
  unfold putK putG
  rw [og_any k e]
  by_cases hk : (kvs.any fun kv => decide (kv.1 = k)) = true
  · rw [if_pos hk, if_pos hk]
    exact og_map k h e r
  · rw [if_neg hk, if_neg hk]
    refine ⟨?_, ?_⟩
    · rw [List.map_append, List.map_append, e]
      rfl
    · rw [List.map_append, List.map_append]
      exact r.append (.one h)
end
def keyT (ns : List Int) : List Key := ns.map Sum.inl
theorem keyT_v (ns : List Int) : (keyT ns).map kV = ns.map V.int := by
  unfold keyT
  rw [List.map_map]
  rfl
theorem keyT_inj {a b : List Int} (h : keyT a = keyT b) : a = b := by
  have h2 := congrArg (List.map kV) h
  rw [keyT_v, keyT_v] at h2
  exact (List.map_inj_right fun x y e => by cases e; rfl).mp h2
def dOwnT (i : Nat) : TDS := fun dd _ ρ => dd.nx (ρ.set i (.mo (.dt [])))
instance {i : Nat} : RefS K τ E (tAsg tDNewT (gName i)) (dOwnT i) := ⟨fun W A0 H0 D dd R H σ ρ gσ gρ b sr er ek h => by
  obtain ⟨W', A, c⟩ := sr
  intro p n
  have f1 : Fr W'.B H (upd H p (.dT [])) := Fr.new n
  exact er.nx _ _ _ ⟨W', _, c.own (s := .mo (.dt [])) f1 (W'.stay _ _ (same_new n) c.bs.inv) (nob n) ⟨p, _, rfl, upd_same, c.bs.nB (nob n), .inr rfl, rfl, .nil⟩ trivial⟩ h⟩
def sDPutT (i : Nat) (ty tv : TE) : TS := sDPut (tVar i) ty tv
/-- d[k] = v, k a tuple of whole numbers -/
def dDPutT (i : Nat) (fy fv : TD) : TDS := fun dd R ρ => fv ρ (fun s => ∃ y kvs, s.dat = some y ∧ ρ[i]? = some (.mo (.dt kvs)) ∧ fy ρ (fun u => ∃ ns : List Int, u = .d (.tuple (ns.map PyData.int)) ∧ kvs.length < sizeLine ∧ dd.nx (ρ.set i (.mo (.dt (putG kvs (keyT ns) y))))) R) R
instance {i : Nat} {ty tv : TE} {fy fv : TD} [hy : RefE K τ E ty fy] [hv : RefE K τ E tv fv] : RefS K τ E (sDPutT i ty tv) (dDPutT i fy fv) := ⟨fun W A0 H0 D dd R H σ ρ gσ gρ b sr er ek h => by
  obtain ⟨W', A, c⟩ := sr
  refine hv.go W' A H σ ρ _ R _ (c.at_ ek) h fun v H1 s f1 i1 r1 q1 => ?_
  obtain ⟨y, kvs, ey, e, q1⟩ := q1
  have c1 := c.step f1 i1
  obtain ⟨w0, ew, p, ho, rfl, ep, nB, aP, od⟩ := (c1.env.pre c1.lg).at_ _ _ e
  refine ⟨.ref p, ew, ?_⟩
  refine hy.go W' A H1 σ ρ _ R _ (c1.at_ ek) q1 fun u H2 s2 f2 i2 r2 q2 => ?_
  obtain ⟨ns, rfl, hl, q2⟩ := q2
  have c2 := c1.step f2 i2
  cases ho with
  | dT ks =>
    have rv := (r1.fr c.bs f2).dat c.bs ey
    have ep2 := f2.1 _ _ ep (fun _ q => nomatch q) nB
    have od2 : OdR K A H2 (.dT ks) (.dt kvs) := od.go (goes_fr c1.bs.ba f2)
    have r2 : Rp K A H2 u (.tuple (ns.map PyData.int)) := r2
    cases r2 with
    | @tup b us _ sq ra =>
      obtain rfl := RpAll.ints ra
      have eb : H2 b = some (.tup ((keyT ns).map kV)) := by
        rw [keyT_v]
        exact sq.1
      have hk : ks.length = kvs.length := by
        have := congrArg List.length od2.1
        rwa [List.length_map, List.length_map] at this
      refine ⟨p, _, rfl, DPut.t ep2 eb (by rw [hk]; exact hl), er.nx _ _ _ ⟨W', A, c2.mutO (s1 := .mo (.dt (putG kvs (keyT ns) y))) e trivial ew (.dT _) fun g nB aP => ⟨p, _, rfl, upd_same, nB, aP, ?_⟩⟩ q2⟩
      exact OdR.go g (show OdR K A H2 (.dT (putK ks (keyT ns) v)) (.dt (putG kvs (keyT ns) y)) from og_put (keyT ns) rv od2.1 od2.2)
  | _ => exact od.elim⟩
theorem dDPutT_c {i : Nat} {fy fv : TD} {dd : DEnds} {R : Er → Prop} {ρ : List Sl} : dDPutT i fy fv dd R ρ = fv ρ (fun s => ∃ y kvs, s.dat = some y ∧ ρ[i]? = some (.mo (.dt kvs)) ∧ fy ρ (fun u => ∃ ns : List Int, u = .d (.tuple (ns.map PyData.int)) ∧ kvs.length < sizeLine ∧ dd.nx (ρ.set i (.mo (.dt (putG kvs (keyT ns) y))))) R) R := propext Iff.rfl
theorem dOwnT_c {i : Nat} {dd : DEnds} {R : Er → Prop} {ρ : List Sl} : dOwnT i dd R ρ = dd.nx (ρ.set i (.mo (.dt []))) := propext Iff.rfl
theorem ps_dputT {X : Cx} {i : Nat} {st : Stmt} {ty tv : TE} (h : PS X st (sDPut (tVar i) ty tv)) : PS X st (sDPutT i ty tv) := h
end
end Dl

namespace Dl
open PySem PySem.Spec PyProof.Rows L2
section
variable {K : PySem.W.Frag} {τ : List (Addr × Str)} {E : XK}
/-! ### a comprehension over an iterator that one's world knows -/
theorem lc_body {g : TG} {tt : TT} {te : TE} {vs sl : List Nat} {fg : FG} {ft : TDT} {fe : TD} (hg : RefG K g fg sl) (ht : RefT K τ E tt ft) (he : RefE K τ E te fe) (inc : Inc sl vs) {W : Wld τ} {A : Addr → Prop} {H1 : Hp} {σ : L2.St} {ρ : List Sl} {R : Er → Prop} {Q : VK} {Qd : Sl → Prop} {J : It} {ds : List PyData}
    (a1 : At K W A E H1 σ ρ R) (i1 : W.I H1) (jt : ∀ (A' : Addr → Prop) (H2 : Hp) (i : Nat), Bs W A' H2 → Goes A A' H1 H1 → Fr W.B H1 H2 → (i < ds.length → J.go i H2) ∧ (ds.length ≤ i → J.stop i H2) ∧ ∀ x H3 d, ds[i]? = some d → J.yld i H2 x H3 → Same H2 H3 ∧ Rp K A' H3 x d)
    (q : lcD fg ft fe (wipeD ρ vs) R (fun ys => Qd (.ml ys)) ds []) (w : ∀ (D : Addr) (H' : Hp) (ys : List PyData), Fr W.B H1 H' → W.I H' → VlR K W A H1 H' (.ref D) (.ml ys) → Qd (.ml ys) → Q (.ref D) H') :
    ∀ D, H1 D = none → ∃ Wm : Nat → Nat → Hp → Prop, (∃ m, Wm 0 m (upd H1 D (.lst []))) ∧ ∀ i m H, Wm i m H →
      (J.stop i H ∧ Q (.ref D) H) ∨ (J.go i H ∧ ∃ Nx : Hp → Prop, (∀ H', Nx H' → ∃ m', m' < m ∧ Wm (i + 1) m' H') ∧ ∀ x H', J.yld i H x H' → g x (wipe σ vs) H' fun σ2 H2 => wipe σ2 vs = wipe σ vs ∧ tt σ2 H2 fun b H3 =>
        if b = true then te σ2 H3 fun y H4 => ∃ acc, H4 D = some (.lst acc) ∧ acc.length < sizeLine ∧ Nx (upd H4 D (.lst (acc ++ [y]))) else Nx H3) := by
  intro D nD
  have sD : Same H1 (upd H1 D (.lst [])) := same_new nD
  have nB : ¬ W.B D := a1.bs.nB (nob nD)
  -- what holds at each turn
  refine ⟨fun i m H' => m = ds.length - i ∧ i ≤ ds.length ∧ Fr W.B H1 H' ∧ W.I H' ∧ ∃ acc ys, H' D = some (.lst acc) ∧ RpAll K (fun a => A a ∨ a = D) H' acc ys ∧ lcD fg ft fe (wipeD ρ vs) R (fun ys => Qd (.ml ys)) (ds.drop i) ys,
    ⟨ds.length, by omega, by omega, Fr.of sD, W.stay _ _ sD i1, [], [], upd_same, .nil, q⟩, ?_⟩
  rintro i m H' ⟨rfl, hi', f', i', acc, ys, eD, rD, q'⟩
  have gA : Goes A (fun a => A a ∨ a = D) H1 H1 := fun c o ec _ nc => ⟨ec, fun z => z.elim nc (ne_of_none ec nD)⟩
  have aH : At K W (fun a => A a ∨ a = D) E H' σ ρ R := by
    refine ⟨⟨fun a z => .inl (a1.bs.ba a z), fun a z => ?_, i', fun a xs z e => z.elim (fun z => (a1.bs.fr f' i').nt a xs z e) fun z => by
      rw [z, eD] at e
      cases e⟩, (a1.env.grow gA fun a z => .inl z).fr (fun a z => .inl (a1.bs.ba a z)) f', fun er x H2 fr2 i2 z r => a1.er er x H2 (f'.trans fr2) i2 (z.mono fun a z => .inl z) r⟩
    rcases z with z | rfl
    · exact f'.2 a (a1.bs.dom a z)
    · exact ⟨_, eD, nt_lst⟩
  obtain ⟨j1, j2, j3⟩ := jt _ H' i aH.bs gA f'
  by_cases hlt : i < ds.length
  · rw [List.drop_eq_getElem_cons hlt] at q'
    refine .inr ⟨j1 hlt, fun H2 => i + 1 ≤ ds.length ∧ Fr W.B H1 H2 ∧ W.I H2 ∧ ∃ acc ys, H2 D = some (.lst acc) ∧ RpAll K (fun a => A a ∨ a = D) H2 acc ys ∧ lcD fg ft fe (wipeD ρ vs) R (fun ys => Qd (.ml ys)) (ds.drop (i + 1)) ys, fun H2 z => ⟨ds.length - (i + 1), by omega, rfl, z⟩, fun x H2 y => ?_⟩
    obtain ⟨sm, rx⟩ := j3 x H2 ds[i] (List.getElem?_eq_getElem hlt) y
    have f2 : Fr W.B H' H2 := Fr.of sm
    have i2 := W.stay _ _ sm i'
    have a2 := aH.fr f2 i2
    have ew : EnvR K W (fun a => A a ∨ a = D) H2 (wipe σ vs ++ []) (wipeD ρ vs ++ []) := by
      rw [List.append_nil, List.append_nil]
      exact a2.env.wipe vs
    refine hg.go W (fun a => A a ∨ a = D) H2 (wipe σ vs) (wipeD ρ vs) [] [] x ds[i] _ _ ew (a2.env.wipe vs).len rx q' fun σ3 ρ3 e3 l3 d3 _ q3 => ?_
    rw [List.append_nil, List.append_nil] at e3
    have ww : wipe σ3 vs = wipe σ vs := by
      have z := d3 vs inc.h
      rw [z]
      refine List.ext_getElem? fun j => ?_
      rw [wipe_get, wipe_get]
      by_cases hj : j ∈ vs
      · rw [if_pos hj, if_pos hj]
        cases σ[j]? <;> rfl
      · rw [if_neg hj, if_neg hj]
    refine ⟨ww, ?_⟩
    have a3 : At K W (fun a => A a ∨ a = D) E H2 σ3 ρ3 R := ⟨a2.bs, e3, a2.er⟩
    refine ht.go W (fun a => A a ∨ a = D) H2 σ3 ρ3 _ R _ a3 q3 fun k H3 f3 i3 q4 => ?_
    cases k with
    | false =>
      refine iteF ⟨hlt, (f'.trans f2).trans f3, i3, acc, ys, (f2.trans f3).1 _ _ eD nt_lst nB, rD.go (goes_fr (fun a z => .inl (a1.bs.ba a z)) (f2.trans f3)), q4⟩
    | true =>
      refine iteT (he.go W (fun a => A a ∨ a = D) H3 σ3 ρ3 _ R _ (a3.fr f3 i3) q4 fun y H4 s f4 i4 r4 q5 => ?_)
      obtain ⟨hs, q5⟩ := q5
      obtain ⟨z, ez, q6⟩ := dat_iff (P := fun y => lcD fg ft fe (wipeD ρ vs) R (fun ys => Qd (.ml ys)) (ds.drop (i + 1)) (ys ++ [y])) q5
      have f24 := (f2.trans f3).trans f4
      have eD4 : H4 D = some (.lst acc) := f24.1 _ _ eD nt_lst nB
      have rz := r4.dat (a3.bs.fr f3 i3) ez
      refine ⟨acc, eD4, by rw [rD.length]; exact hs, hlt, ?_, W.own H4 D _ _ i4 eD4 (.lst _) (.lst _) nB, acc ++ [y], ys ++ [z], upd_same, ?_, q6⟩
      · refine ⟨fun c o ec t nc => ?_, fun c hc => ?_⟩
        · rw [upd_ne (ne_of_none ec nD)]
          exact (f'.trans f24).1 c o ec t nc
        · by_cases e : c = D
          · subst e
            exact ⟨_, upd_same, nt_lst⟩
          · obtain ⟨o, e1, t1⟩ := (f'.trans f24).2 c hc
            exact ⟨o, (upd_ne e).trans e1, t1⟩
      · have gu : Goes (fun a => A a ∨ a = D) (fun a => A a ∨ a = D) H4 (upd H4 D (.lst (acc ++ [y]))) := fun c o ec _ nc => ⟨(upd_ne fun z => nc (.inr z)).trans ec, nc⟩
        exact ((rD.go (goes_fr (fun a z => .inl (a1.bs.ba a z)) f24)).go gu).append (.one (rz.go gu))
  · have e : i = ds.length := by omega
    subst e
    rw [List.drop_length] at q'
    exact .inl ⟨j2 (Nat.le_refl _), w D H' ys f' i' ⟨D, acc, rfl, nob nD, eD, rD⟩ q'⟩
end
end Dl

namespace Dl
open PySem PySem.Spec PyProof.Rows L2
section
variable {K : PySem.W.Frag} {τ : List (Addr × Str)} {E : XK}
/-! ### the world while a dict of one's own is locked -/
theorem upd_back {H : Hp} {p : Addr} {o o' : HO} (h : H p = some o) : upd (upd H p o') p o = H := by
  funext b
  by_cases e : b = p
  · subst e
    rw [upd_same, h]
  · rw [upd_ne e, upd_ne e]
theorem upd_comm {H : Hp} {p q : Addr} {o o' : HO} (h : q ≠ p) : upd (upd H q o) p o' = upd (upd H p o') q o := by
  funext b
  by_cases e : b = p
  · subst e
    rw [upd_same, upd_ne (Ne.symm h), upd_same]
  · by_cases e2 : b = q
    · subst e2
      rw [upd_ne e, upd_same, upd_same]
    · rw [upd_ne e, upd_ne e2, upd_ne e2, upd_ne e]
theorem same_upd {H H' : Hp} {p : Addr} {o : HO} (s : Same H H') : Same (upd H p o) (upd H' p o) := fun b x e => by
  by_cases h : b = p
  · subst h
    rw [upd_same] at e ⊢
    exact e
  · rw [upd_ne h] at e ⊢
    exact s b x e
theorem tabs_upd {H : Hp} {p : Addr} {o o' : HO} (h : LamX.Tabs τ H) (e : H p = some o) (n1 : NT o) (n2 : ∀ c q, o ≠ LamX.CodeO c q) : LamX.Tabs τ (upd H p o') := fun x hx => by
  obtain ⟨ps, h1, h2, h3⟩ := h x hx
  have np : x.1 ≠ p := fun z => by
    rw [z, e] at h1
    cases h1
    exact n1 _ rfl
  refine ⟨ps, (upd_ne np).trans h1, h2, fun pos cv hc => ?_⟩
  obtain ⟨c, e1, e2⟩ := h3 pos cv hc
  refine ⟨c, e1, (upd_ne fun z => ?_).trans e2⟩
  rw [z, e] at e2
  cases e2
  exact n2 _ _ rfl
def lockW (W : Wld τ) (p : Addr) (od : Obj) (ks : List (List Key × V)) : Wld τ where
  B := fun a => W.B a ∨ a = p
  I := fun G => W.I (upd G p (.dT ks)) ∧ G p = some (.frz od (.dT ks))
  tab := fun G h => by
    have t := tabs_upd (o' := .frz od (.dT ks)) (W.tab _ h.1) (p := p) upd_same (fun _ q => nomatch q) (fun _ _ q => nomatch q)
    rw [upd_upd] at t
    have e : upd G p (.frz od (.dT ks)) = G := by
      funext b
      by_cases z : b = p
      · subst z
        rw [upd_same, h.2]
      · rw [upd_ne z]
    rw [e] at t
    exact t
  tbI := fun G G' h x t => by
    have e' := x p _ h.2 fun _ q => nomatch q
    refine ⟨W.tbI _ _ h.1 (fun b o e n => ?_) (tabs_upd t e' (fun _ q => nomatch q) fun _ _ q => nomatch q), e'⟩
    by_cases z : b = p
    · subst z
      rw [upd_same] at e ⊢
      exact e
    · rw [upd_ne z] at e ⊢
      exact x b o e n
  stay := fun G G' s h => ⟨W.stay _ _ (same_upd s) h.1, s _ _ h.2⟩
  own := fun G q o o' h e m m' nb => by
    have np : q ≠ p := fun z => nb (.inr z)
    refine ⟨?_, (upd_ne (Ne.symm np)).trans h.2⟩
    rw [upd_comm np]
    exact W.own _ q o o' h.1 ((upd_ne np).trans e) m m' fun z => nb (.inl z)
  nt := fun G h a xs z e => by
    by_cases za : a = p
    · rw [za, h.2] at e
      cases e
    · exact W.nt _ h.1 a xs (z.resolve_right za) ((upd_ne za).trans e)
theorem StW.lock {W : Wld τ} {z p : Addr} {od : Obj} {ks : List (List Key × V)} (h : StW W z) : StW (lockW W p od ks) z := by
  have ne : ∀ G, (lockW W p od ks).I G → z ≠ p := fun G i e => by
    obtain ⟨x, y, q, _⟩ := h.ok _ i.1
    rw [e, upd_same] at q
    cases q
  refine ⟨.inl h.b, fun G i => ?_, fun G x y i hx hy hz => ?_⟩
  · obtain ⟨x, y, q, r⟩ := h.ok _ i.1
    rw [upd_ne (ne G i)] at q
    exact ⟨x, y, q, r⟩
  · refine ⟨?_, (upd_ne (Ne.symm (ne G i))).trans i.2⟩
    rw [upd_comm (ne G i)]
    exact h.set _ x y i.1 hx hy hz
def dValsT (i : Nat) (fg : FG) (ft : TDT) (fe : TD) (vs : List Nat) : TD := fun ρ Qd _ => ∃ kvs, ρ[i]? = some (.mo (.dt kvs)) ∧ lcD fg ft fe (wipeD (ρ.set i .un) vs) (fun _ => False) (fun ys => Qd (.ml ys)) (kvs.map (·.2)) []
set_option maxHeartbeats 1000000 in
instance {i : Nat} {g : TG} {tt : TT} {te : TE} {vs sl : List Nat} {fg : FG} {ft : TDT} {fe : TD} [hg : RefG K g fg sl] [ht : RefT K τ E tt ft] [he : RefE K τ E te fe] [inc : Inc sl vs] : RefE K τ E (tLockE (tLc (iValsT (tVar i)) g tt te vs)) (dValsT i fg ft fe vs) := ⟨fun W A H σ ρ Qd R Q a h w => by
  obtain ⟨kvs, e, q⟩ := h
  obtain ⟨v, ev, p, ho, rfl, ep, nB, aP, od⟩ := a.env.at_ _ _ e
  cases ho with
  | dT ks =>
    refine ⟨p, .dT ks, ep, trivial, fun od' => ?_⟩
    have hk : ks.length = kvs.length := by
      have := congrArg List.length od.1
      rwa [List.length_map, List.length_map] at this
    have gL : Goes A A H (upd H p (.frz od' (.dT ks))) := fun b o eb _ nb => ⟨(upd_ne fun (z : b = p) => nb (by rw [z]; exact aP)).trans eb, nb⟩
    have dis : ∀ (j : Nat) (q : Addr) (s : Sl), j ≠ i → ρ[j]? = some s → s.foot → σ[j]? = some (some (.ref q)) → q ≠ p := fun j q s nj ej k ev2 z => by
      subst z
      exact a.env.dis i j q _ s (Ne.symm nj) e trivial ej k ev ev2
    have zH : upd H p (.dT ks) = H := by
      funext b
      by_cases zb : b = p
      · subst zb
        rw [upd_same, ep]
      · rw [upd_ne zb]
    have inv : (lockW W p od' ks).I (upd H p (.frz od' (.dT ks))) := ⟨by rw [upd_upd, zH]; exact a.bs.inv, upd_same⟩
    have bs : Bs (lockW W p od' ks) A (upd H p (.frz od' (.dT ks))) := ⟨fun x z => z.elim (a.bs.ba x) fun z => z ▸ aP, fun x z => by
      by_cases zx : x = p
      · subst zx
        exact ⟨_, upd_same, fun _ q => nomatch q⟩
      · obtain ⟨o, e1, t1⟩ := a.bs.dom x z
        exact ⟨o, (upd_ne zx).trans e1, t1⟩, inv, fun x xs z e => by
      by_cases zx : x = p
      · rw [zx, upd_same] at e
        cases e
      · rw [upd_ne zx] at e
        exact a.bs.nt x xs z e⟩
    have env : EnvR K (lockW W p od' ks) A (upd H p (.frz od' (.dT ks))) σ (ρ.set i .un) := by
      refine ⟨by rw [List.length_set]; exact a.env.len, fun j s ej => ?_, fun j k q t s ne f1 f0 f2 f3 f4 f5 => ?_⟩
      · rcases get_set ej with ⟨rfl, rfl, _⟩ | ⟨nj, ej⟩
        · exact ⟨_, ev, trivial⟩
        · obtain ⟨u, eu, r⟩ := a.env.at_ j s ej
          refine ⟨u, eu, ?_⟩
          have far : s.foot → ∀ q' : Addr, u = some (.ref q') → q' ≠ p := fun k q' e1 => dis j q' s (Ne.symm nj) ej k (by rw [eu, e1])
          cases s with
          | un => exact r
          | d x =>
            obtain ⟨u', e1, r1⟩ := r
            exact ⟨u', e1, r1.go gL⟩
          | ml zs =>
            obtain ⟨q', ws, f1, f2, f3, f4, f5⟩ := r
            exact ⟨q', ws, f1, (upd_ne (far trivial q' f1)).trans f2, fun z => z.elim f3 (far trivial q' f1), f4, f5.go gL⟩
          | bl zs =>
            obtain ⟨q', ws, f1, f2, f3⟩ := r
            exact ⟨q', ws, f1, ⟨(upd_ne (far trivial q' f1)).trans f2.1, fun z => z.elim f2.2 (far trivial q' f1)⟩, f3.go gL⟩
          | st =>
            obtain ⟨z, f1, f2⟩ := r
            exact ⟨z, f1, f2.lock⟩
          | scr ns =>
            obtain ⟨x, f1, f2⟩ := r
            refine ⟨x, f1, fun G iG => ?_⟩
            rcases f2 _ iG.1 with (h | ⟨o, h⟩) | h
            · by_cases z : x = p
              · subst z
                rw [upd_same] at h
                cases h
              · rw [upd_ne z] at h
                exact .inl (.inl h)
            · by_cases z : x = p
              · subst z
                rw [upd_same] at h
                cases h
              · rw [upd_ne z] at h
                exact .inl (.inr ⟨o, h⟩)
            · exact .inr h
          | raw u => exact r
          | mo o =>
            obtain ⟨q', ws, f1, f2, f3, f4, f5⟩ := r
            exact ⟨q', ws, f1, (upd_ne (far trivial q' f1)).trans f2, fun z => z.elim f3 (far trivial q' f1), f4, f5.go gL⟩
          | bo o =>
            obtain ⟨q', ws, f1, f2, f3, f4⟩ := r
            exact ⟨q', ws, f1, (upd_ne (far trivial q' f1)).trans f2, fun z => z.elim f3 (far trivial q' f1), f4.go gL⟩
      · rcases get_set f1 with ⟨rfl, z, _⟩ | ⟨n1, f1⟩
        · rw [z] at f0
          exact f0.elim
        · rcases get_set f2 with ⟨rfl, z, _⟩ | ⟨n2, f2⟩
          · rw [z] at f3
            exact f3.elim
          · exact a.env.dis j k q t s ne f1 f0 f2 f3 f4 f5
    refine ⟨.ref p, ev, p, od', ks, rfl, upd_same, ?_⟩
    refine lc_body hg ht he inc (J := Itvt p od' ks) (Q := fun v H' => H' p = some (.frz od' (.dT ks)) ∧ Q v (upd H' p (.dT ks))) (W := lockW W p od' ks) (A := A) (ρ := ρ.set i .un) (R := fun _ => False) (Qd := Qd) (ds := kvs.map (·.2)) ⟨bs, env, fun _ _ _ _ _ _ z => z.elim⟩ inv (fun A' H2 j b2 g2 f2 => ?_) q fun D H' ys f' i' r' q' => ?_
    · have fz := b2.inv.2
      refine ⟨fun z => ⟨fz, by rw [List.length_map] at z; omega⟩, fun z => ⟨fz, by rw [List.length_map] at z; omega⟩, fun x H3 d ed y => ?_⟩
      obtain ⟨rfl, k, ek⟩ := y
      refine ⟨fun _ _ z => z, ?_⟩
      have rr := ((od.2.go gL).go g2).go (goes_fr b2.ba f2)
      obtain ⟨u, eu, ru⟩ := rr.get ed
      rw [List.getElem?_map, ek] at eu
      cases eu
      exact ru
    · refine ⟨i'.2, ?_⟩
      obtain ⟨D', us, e1, n1, e2, r2⟩ := r'
      cases e1
      have nDp : D ≠ p := fun z => n1 (z ▸ ⟨_, upd_same, fun _ q => nomatch q⟩)
      refine w (.ref D) _ (.ml ys) ⟨fun c o ec t nc => ?_, fun c hc => ?_⟩ i'.1 ⟨D, us, rfl, fun z => ?_, (upd_ne nDp).trans e2, r2.go fun c o ec _ nc => ⟨(upd_ne fun z => nc (.inl (z ▸ aP))).trans ec, nc⟩⟩ q'
      · by_cases z : c = p
        · subst z
          rw [upd_same, ← ec, ep]
        · rw [upd_ne z]
          exact f'.1 c o ((upd_ne z).trans ec) t fun y => y.elim nc z
      · by_cases z : c = p
        · subst z
          exact ⟨_, upd_same, fun _ q => nomatch q⟩
        · obtain ⟨o, e1, t1⟩ := hc
          obtain ⟨o', e3, t3⟩ := f'.2 c ⟨o, (upd_ne z).trans e1, t1⟩
          exact ⟨o', (upd_ne z).trans e3, t3⟩
      · obtain ⟨o, e3, t3⟩ := z
        exact n1 ⟨o, (upd_ne nDp).trans e3, t3⟩
  | _ => exact od.elim⟩
theorem dValsT_c {i : Nat} {fg : FG} {ft : TDT} {fe : TD} {vs : List Nat} {ρ : List Sl} {Qd : Sl → Prop} {R : Er → Prop} : dValsT i fg ft fe vs ρ Qd R = ∃ kvs, ρ[i]? = some (.mo (.dt kvs)) ∧ lcD fg ft fe (wipeD (ρ.set i .un) vs) (fun _ => False) (fun ys => Qd (.ml ys)) (kvs.map (·.2)) [] := propext Iff.rfl
end
end Dl

namespace Dl
open PySem PySem.Spec PyProof.Rows L2
/-! ### a, b = [], [..]: two new lists -/
def tPar2L (i j : Nat) (ta : TA) : TS := tPar i j (tCons (tLst tNil) (tCons (tLst ta) tNil))
def dPar2L (i j : Nat) (fa : TDA) : TDS := fun dd R ρ => fa ρ (fun ss => ss.length ≤ sizeLine ∧ ∃ ds, dats ss = some ds ∧ dd.nx ((ρ.set i (.ml [])).set j (.ml ds))) R
section
variable {K : PySem.W.Frag} {τ : List (Addr × Str)} {E : XK}
/-- while a new list stands aside -/
theorem At.aside {W : Wld τ} {A : Addr → Prop} {H : Hp} {σ : L2.St} {ρ : List Sl} {R : Er → Prop} {p : Addr} {xs : List V} (a : At K W A E H σ ρ R) (n : H p = none) : At K W (fun b => A b ∨ b = p) E (upd H p (.lst xs)) σ ρ R := by
  have gA : Goes A (fun b => A b ∨ b = p) H H := fun c o ec _ nc => ⟨ec, fun z => z.elim nc (ne_of_none ec n)⟩
  have f : Fr W.B H (upd H p (.lst xs)) := Fr.new n
  refine ⟨⟨fun b z => .inl (a.bs.ba b z), fun b z => ?_, W.stay _ _ (same_new n) a.bs.inv, fun b xs z e => by
    by_cases h : b = p
    · rw [h, upd_same] at e
      cases e
    · rw [upd_ne h] at e
      exact z.elim (fun z => a.bs.nt b xs z e) h⟩, (a.env.grow gA fun b z => .inl z).fr (fun b z => .inl (a.bs.ba b z)) f, fun er x H2 fr2 i2 z r => a.er er x H2 (f.trans fr2) i2 (z.mono fun b z => .inl z) r⟩
  rcases z with z | rfl
  · exact f.2 b (a.bs.dom b z)
  · exact ⟨_, upd_same, nt_lst⟩
instance {i j : Nat} {ta : TA} {fa : TDA} [ha : RefA K τ E ta fa] : RefS K τ E (tPar2L i j ta) (dPar2L i j fa) := ⟨fun W A0 H0 D dd R H σ ρ gσ gρ b sr er ek h => by
  obtain ⟨W', A, c⟩ := sr
  refine ⟨Nat.zero_le _, fun p1 n1 => ?_⟩
  have f1 : Fr W'.B H (upd H p1 (.lst [])) := Fr.new n1
  refine ha.go W' (fun b => A b ∨ b = p1) _ σ ρ _ R _ ((c.at_ ek).aside n1) h fun vs H2 ss f2 i2 r2 q2 => ?_
  obtain ⟨hs, ds, ed, q2⟩ := q2
  have nB : ¬ W'.B p1 := c.bs.nB (nob n1)
  have e1 : H2 p1 = some (.lst []) := f2.1 _ _ upd_same nt_lst nB
  have rp := r2.dats ((c.at_ ek).aside n1).bs ed
  refine ⟨by rw [r2.length]; exact hs, fun p n => ?_⟩
  have f12 := f1.trans f2
  have c4 := c.own (i := i) (s := .ml []) f12 i2 (nob n1) ⟨p1, [], rfl, e1, nB, .inr rfl, .nil⟩ trivial
  have f3 : Fr W'.B H2 (upd H2 p (.lst vs)) := Fr.new n
  have i3 := W'.stay _ _ (same_new (o := .lst vs) n) i2
  have c5 := c4.own (i := j) (s := .ml ds) f3 i3 (nob n) ⟨p, vs, rfl, upd_same, c4.bs.nB (nob n), .inr rfl, rp.go fun b' o eb _ nb => ⟨same_new n _ _ eb, fun z => z.elim nb (ne_of_none eb n)⟩⟩ trivial
  exact ⟨_, _, rfl, er.nx _ _ _ ⟨W', _, c5⟩ q2⟩⟩
theorem dPar2L_c {i j : Nat} {fa : TDA} {dd : DEnds} {R : Er → Prop} {ρ : List Sl} : dPar2L i j fa dd R ρ = fa ρ (fun ss => ss.length ≤ sizeLine ∧ ∃ ds, dats ss = some ds ∧ dd.nx ((ρ.set i (.ml [])).set j (.ml ds))) R := propext Iff.rfl
end
end Dl

namespace Dl
open PySem PySem.Spec PyProof.Rows L2
/-! ### how many unlike numbers a list has -/
def manyOf (ns : List Int) : Nat := (PyProof.Rows.firstMet (fun i => ns.getD i 0) ns.length).length
theorem met_take {ns : List Int} : ∀ i, i ≤ ns.length → ((List.range i).map fun j => ns.getD j 0) = ns.take i
  | 0, _ => rfl
  | i + 1, hi => by
    rw [List.range_succ, List.map_append, met_take i (by omega), List.take_add_one, List.getElem?_eq_getElem (show i < ns.length from hi)]
    congr 1
    rw [List.map_singleton, List.getD_eq_getElem?_getD, List.getElem?_eq_getElem (show i < ns.length from hi)]
    rfl
theorem met_nodup {ns : List Int} : ∀ i, i ≤ ns.length → ((PyProof.Rows.firstMet (fun j => ns.getD j 0) i).length = i ↔ (ns.take i).Nodup)
  | 0, _ => by
    rw [PyProof.Rows.firstMet_zero]
    exact ⟨fun _ => List.nodup_nil, fun _ => rfl⟩
  | i + 1, hi => by
    have hlt : i < ns.length := hi
    have ih := met_nodup (ns := ns) i (by omega)
    have le := PyProof.Rows.firstMet_length_le (fun j => ns.getD j 0) i
    have ea := PyProof.Rows.firstMet_any (fun j => ns.getD j 0) i (ns.getD i 0)
    rw [met_take i (by omega)] at ea
    have ex : ns.getD i 0 = ns[i] := by
      rw [List.getD_eq_getElem?_getD, List.getElem?_eq_getElem hlt]
      rfl
    rw [PyProof.Rows.firstMet_succ, List.take_add_one, List.getElem?_eq_getElem hlt]
    show (PyProof.Rows.step_dedup _ (ns.getD i 0)).length = i + 1 ↔ (ns.take i ++ [ns[i]]).Nodup
    unfold PyProof.Rows.step_dedup
    rw [ea, ex]
    have hn : (ns.take i ++ [ns[i]]).Nodup ↔ (ns.take i).Nodup ∧ ns[i] ∉ ns.take i := by
      rw [List.nodup_append]
      constructor
      · rintro ⟨a, _, c⟩
        exact ⟨a, fun z => c _ z _ (List.mem_singleton.mpr rfl) rfl⟩
      · rintro ⟨a, c⟩
        refine ⟨a, List.Pairwise.cons (fun _ h => nomatch h) .nil, fun x hx y hy => ?_⟩
        rw [List.mem_singleton.mp hy]
        exact fun z => c (z ▸ hx)
    rw [hn]
    by_cases hm : ns[i] ∈ ns.take i
    · rw [if_pos (List.any_eq_true.mpr ⟨ns[i], hm, beq_self_eq_true ns[i]⟩ : ((List.take i ns).any fun x => x == ns[i]) = true)]
      constructor
      · intro z
        omega
      · intro z
        exact absurd hm z.2
    · rw [if_neg (fun (z : ((List.take i ns).any fun x => x == ns[i]) = true) => by
        obtain ⟨y, h1, h2⟩ := List.any_eq_true.mp z
        rw [eq_of_beq h2] at h1
        exact hm h1), List.length_append, List.length_singleton]
      constructor
      · intro z
        exact ⟨ih.mp (by omega), hm⟩
      · intro z
        have := ih.mpr z.1
        omega
theorem many_nodup (ns : List Int) : decide (manyOf ns = ns.length) = decide ns.Nodup := by
  have := met_nodup (ns := ns) ns.length (Nat.le_refl _)
  rw [List.take_length] at this
  exact decide_eq_decide.mpr this
def tSetLen (K : PySem.W.Frag) (ta : TE) : TE := fun σ H Q => ta σ H fun x G => ∃ (l : Addr) (ns : List Int), x = .ref l ∧ SqL K G l (ns.map V.int) ∧ ns.length ≤ 2000 ∧ Q (.int (manyOf ns : Nat)) G
theorem pe_setLen {X : Cx} {a : Expr} {ta : TE} {u1 u2 u3 u4 : Pos} (gl : Gl X "len") (ml : X.mg "len" = none) (gs : Gl X "set") (ms : X.mg "set" = none) (ha : PE X a ta) (calm : X.calm = true := by rfl)
    (st : starEach [a] X.env = (false, eval a X.env) :: starEach [] X.env := by rfl) : PE X (.Call (.Name "len" u1) [.Call (.Name "set" u2) [a] [] u3] [] u4) (tSetLen X.K ta) :=
  ⟨fun pins s σ H Q I h => by
    refine PyProof.Rows.Call_ (ld_blt I gl ml boot_len ?_)
    refine PyProof.Rows.callWith_builtin1 (PyProof.Rows.args_cons ?_ rfl) rfl rfl
    refine PyProof.Rows.Call_ (ld_blt I gs ms boot_set ?_)
    refine PyProof.Rows.callWith_type1 (PyProof.Rows.args_cons (thn (ha.run pins s σ H _ I h) fun v t ⟨x, G, J, rx, hx⟩ => PyProof.Rows.args_nil ?_) st) st rfl
    obtain ⟨l, ns, rfl, sq, len, fin⟩ := hx
    cases rx
    obtain ⟨items, vals, place, _⟩ := J.list sq
    have size : items.toArray.size = ns.length := by rw [List.size_toArray, ← vals.length, List.length_map]
    refine call_set_list (J.ok.hd calm) place.isList (by simpa using RZ.intsAre_vals vals) (by rw [size]; unfold scanBound; omega) fun h' tk made kept => ?_
    refine PyProof.Rows.args_nil ?_
    rw [size] at made
    have few := PyProof.Rows.firstMet_length_le (fun i => ns.getD i 0) ns.length
    obtain ⟨o, es, ep, t', ho, hex, hd, _, _, _, hf, hn⟩ := made
    have J2 : Inv X pins σ G { t with heap := h', toks := tk } := J.kept fun b o e => kept b o (Heap.lt_size e) e
    exact call_len_set ho hex hd hf (by rw [hn]; omega) ⟨.int (manyOf ns : Nat), G, J2.tok _, ⟨_, by rw [hn]; rfl⟩, fin⟩⟩
/-! ### len(set(xs)), xs a list of whole numbers -/
section
variable {K : PySem.W.Frag} {τ : List (Addr × Str)} {E : XK}
theorem pe_setLenK {X : Cx} {K : PySem.W.Frag} (h : X.K = K) {a : Expr} {ta : TE} {u1 u2 u3 u4 : Pos} (gl : Gl X "len") (ml : X.mg "len" = none) (gs : Gl X "set") (ms : X.mg "set" = none) (ha : PE X a ta) (calm : X.calm = true := by rfl)
    (st : starEach [a] X.env = (false, eval a X.env) :: starEach [] X.env := by rfl) : PE X (.Call (.Name "len" u1) [.Call (.Name "set" u2) [a] [] u3] [] u4) (tSetLen K ta) := by
  subst h
  exact pe_setLen gl ml gs ms ha calm st
def setK_len (Qd : Sl → Prop) : Sl → Prop := fun s => ∃ ns : List Int, s.seq = some (ns.map PyData.int) ∧ ns.length ≤ 2000 ∧ Qd (.d (.int (manyOf ns : Nat)))
def dSetLen (f : TD) : TD := fun ρ Qd R => f ρ (setK_len Qd) R
instance {t : TE} {f : TD} [ht : RefE K τ E t f] : RefE K τ E (tSetLen K t) (dSetLen f) := ⟨fun W A H σ ρ Qd R Q a h w => by
  refine ht.go W A H σ ρ _ R _ a h fun v H1 s f1 i1 r1 q => ?_
  obtain ⟨ns, es, hl, q⟩ := q
  obtain ⟨p, vs, rfl, sq, ra⟩ := r1.seq a.bs es
  obtain rfl := ra.ints
  exact ⟨p, ns, rfl, sqLA_sq sq, hl, (w.back f1).here i1 _ q⟩⟩
theorem dSetLen_c {f : TD} {ρ : List Sl} {Qd : Sl → Prop} {R : Er → Prop} : dSetLen f ρ Qd R = f ρ (setK_len Qd) R := propext Iff.rfl
end
end Dl

namespace Dl
open PySem PySem.W PySem.SeqAt PySem.Calls PyProof.Rows
/-! ### sorting tuples, empty ones among them -/
/-- these are tuples; what they begin with -/
def TupsO (h : Heap) : List Value → List (Option Value) → Prop
  | [], [] => True
  | v :: vs, f :: fs => (∃ a o xs n, v = .ref a ∧ h.get? a = some o ∧ o.cls = .type "tuple" ∧ o.data = .seq xs n ∧ xs[0]? = f) ∧ TupsO h vs fs
  | _, _ => False
section
variable {M : Model} {A : Around} {E : Value → Shared → Prop} {s : Shared}
theorem tup_firsts : ∀ (vs : List Value) (fs : List (Option Value)) {Q : List (Option Value) → Shared → Prop}, TupsO s.heap vs fs → Q fs s → wpAny M A (vs.mapM firstOfTuple') Q E s
  | [], [], _, _, h => by rw [List.mapM_nil]; exact wpAny_pure h
  | [], _ :: _, _, t, _ => t.elim
  | _ :: _, [], _, t, _ => t.elim
  | v :: vs, f :: fs, Q, t, h => by
    obtain ⟨⟨a, o, xs, n, rfl, ho, hc, hd, hf⟩, t⟩ := t
    rw [List.mapM_cons]
    refine wpAny_bind ?_
    rw [kas_first_eq]
    refine wpAny_bind (Looks.here (show Looks M s.heap (typeOf (.ref a)) o.cls from (Looks.ld ho).andThen .now) ?_)
    rw [hc, if_neg (by first | decide | simp)]
    refine wpAny_bind (listItems_at ho hd (wpAny_pure ?_))
    rw [hf]
    exact wpAny_bind (tup_firsts vs fs (Q := fun bs s' => wpAny M A (pure (f :: bs)) Q E s') t (wpAny_pure h))
def kindO (fs : List (Option Value)) : SortKind := if (fs[0]?.bind id).isSome then general' else oneType'
theorem tup_kind {vs : List Value} {fs : List (Option Value)} {Q : SortKind → Shared → Prop} (t : TupsO s.heap vs fs) (h2 : 2 ≤ vs.length) (hn : none ∈ fs) (hT : ∀ v ∈ vs, Looks M s.heap (typeOf v) (.type "tuple")) (h : Q (kindO fs) s) : wpAny M A (keyKind' vs.toArray) Q E s := by
  obtain ⟨v₁, v₂, rest, rfl⟩ : ∃ v₁ v₂ rest, vs = v₁ :: v₂ :: rest := by
    match vs, h2 with
    | [], h2 => simp at h2
    | [_], h2 => simp at h2
    | v₁ :: v₂ :: rest, _ => exact ⟨v₁, v₂, rest, rfl⟩
  rw [kat_kind_eq, List.mapM_toArray, map_eq_pure_bind]
  refine wpAny_bind (wpAny_bind (tup_firsts _ fs t (wpAny_pure ?_)))
  have hall : ¬ (fs.toArray.all fun x => x.isSome) = true := by
    intro z
    rw [List.all_toArray, List.all_eq_true] at z
    have := z none hn
    cases this
  rw [if_neg hall]
  have e0 : fs.toArray[0]? = fs[0]? := by simp
  rw [e0]
  unfold kindO at h
  by_cases hs : (fs[0]?.bind id).isSome = true
  · rw [if_pos hs] at h ⊢
    exact wpAny_pure h
  · rw [if_neg hs] at h ⊢
    rw [oneTypeOnly'_eq, List.mapM_toArray, map_eq_pure_bind]
    refine wpAny_bind (wpAny_bind (wpAny_bind (kas_mapM (r := Value.type "tuple") _ (fun v hv Q' hq => (hT v hv).here hq) (wpAny_pure ?_))))
    have hall : ((List.map (fun _ => Value.type "tuple") (v₁ :: v₂ :: rest)).toArray.all fun x => x == Value.type "tuple") = true := by
      simp only [List.all_toArray, List.all_map, List.all_eq_true]
      intro _ _
      exact beq_self_eq_true _
    have h0 : (List.map (fun _ => Value.type "tuple") (v₁ :: v₂ :: rest)).toArray[0]? = some (Value.type "tuple") := by simp
    rw [h0]
    simp only [hall, if_true]
    exact wpAny_pure (wpAny_pure h)
end
section
variable {prog : Program} {w : World} {A : Around} {s : Shared}
/-- the call of tuple's own __lt__, as sorting makes it -/
theorem call_tuple_ltX {E : Value → Shared → Prop} {Q : Value → Shared → Prop} {l b : Addr} {items items2 : Array Value} {e r : Nat → Bool} (hl : s.heap.IsTuple l items) (hb : s.heap.IsTuple b items2)
    (he : ∀ j (h1 : j < items.size) (h2 : j < items2.size), EqAt A.in1 s items[j] items2[j] (e j)) (hr : ∀ j (h1 : j < items.size) (h2 : j < items2.size), e j = false → RcLt A.in1 s items[j] items2[j] (r j))
    (h : Q (.bool (firstLt e r (decide (items.size < items2.size)) (List.range (min items.size items2.size)))) s) : wpAny (model prog w) A (call (.builtin "tuple.__lt__") [.ref l, .ref b]) Q E s := by
  obtain ⟨⟨cls, dd, data, sl⟩, ho, hc, n, hd⟩ := id hl
  obtain ⟨⟨cls2, dd2, data2, sl2⟩, ho2, hc2, n2, hd2⟩ := id hb
  simp only at hc hd hc2 hd2
  subst hc hd hc2 hd2
  exact call_meets F.slot_tuple_lt ⟨_, ho, rfl⟩ F.entry_tuple_lt (F.args_tuple_lt_2 _ _) (tuple_ltAt l b items items2 n n2 dd dd2 sl sl2 e r) ⟨ho, ho2, he, hr, h⟩
theorem oneLt_tups {E : Value → Shared → Prop} {xs ys : List PyData} {a b : Value} {as bs : List Addr} {Q : Bool → Shared → Prop} (ra : PySem.Reads s.heap a (PyData.tuple xs) as) (rb : PySem.Reads s.heap b (PyData.tuple ys) bs) (hal : alikeAll xs ys = true)
    (hu : A.units + min (PyData.tuple xs).depth (PyData.tuple ys).depth < cLine) (hq : Q (dataLt (PyData.tuple xs) (PyData.tuple ys)) s) : wpAny (model prog w) A (oneLt' true a b) Q E s := by
  cases ra with
  | @tuple l o vs n _ as₁ h1 h2 h3 h4 =>
    cases rb with
    | @tuple l' o' vs' n' _ bs₁ k1 k2 k3 k4 =>
      have n1 : vs.size = xs.length := by simpa using PySem.SeqAt.ReadsAll.length _ _ _ h4
      have n2 : vs'.size = ys.length := by simpa using PySem.SeqAt.ReadsAll.length _ _ _ k4
      rw [dataLt_tuple, ← firstLt_toks xs ys hal, ← n1, ← n2] at hq
      rw [oneLt'_eq]
      simp only [if_true]
      refine wpAny_bind (wpAny_cRoomFor (room_here hu) ?_)
      refine wpAny_bind (wpAny_callSpecialIfBound?_slot (T := "tuple") ⟨_, h1, h2⟩ F.slot_tuple_lt (call_tuple_ltX (e := pairEq xs ys) (r := fun j => dataLt (xs.getD j .none) (ys.getD j .none)) ⟨_, h1, h2, _, h3⟩ ⟨_, k1, k2, _, k3⟩ (fun j j1 j2 => ?_) (fun j j1 j2 hj => ?_) ?_))
      · have := eqAt_alikeAll xs ys A.in1 s vs.toList vs'.toList _ _ h4 k4 hal (room_in hu) j (by simpa using j1) (by simpa using j2)
        simpa using this
      · have := rcLt_alikeAll xs ys A.in1 s vs.toList vs'.toList _ _ h4 k4 hal (room_in hu) j (by simpa using j1) (by simpa using j2) hj
        simpa using this
      · exact wpAny_truthy_bool hq
theorem each_tupsO {h : Heap} : ∀ {vs : List Value} {ds : List PyData}, EachIs (fun v d => ∃ as, PySem.Reads h v d as) vs ds → (∀ d, d ∈ ds → ∃ xs, d = PyData.tuple xs) → ∃ fs, TupsO h vs fs ∧ ((∃ d ∈ ds, d = PyData.tuple []) → none ∈ fs)
  | _, _, .nil, _ => ⟨[], trivial, fun ⟨_, h, _⟩ => nomatch h⟩
  | _, _, .cons (b := d) ⟨as, r⟩ t, ht => by
    obtain ⟨fs, h1, h2⟩ := each_tupsO t fun d hd => ht d (List.mem_cons_of_mem _ hd)
    obtain ⟨xs, rfl⟩ := ht d (List.mem_cons_self ..)
    cases r with
    | @tuple a o ys n _ _ ho hc hd hr =>
      refine ⟨ys[0]? :: fs, ⟨⟨a, o, ys, n, rfl, ho, hc, hd, rfl⟩, h1⟩, fun ⟨d, hd', e⟩ => ?_⟩
      rcases List.mem_cons.mp hd' with z | z
      · rw [z] at e
        cases e
        have : ys.toList.length = 0 := by simpa using PySem.SeqAt.ReadsAll.length _ _ _ hr
        have : ys[0]? = none := by
          rw [← Array.getElem?_toList]
          exact List.getElem?_eq_none (by omega)
        rw [this]
        exact List.mem_cons_self
      · exact List.mem_cons_of_mem _ (h2 ⟨d, z, e⟩)
theorem sortsAt_tups {vs : List Value} {ds : List PyData} (e : EachIs (fun v d => ∃ as, PySem.Reads s.heap v d as) vs ds) (hal : AllAlike ds) (ht : ∀ d, d ∈ ds → ∃ xs, d = PyData.tuple xs) (hu : ∀ d, d ∈ ds → A.units + d.depth < cLine) : SortsAt prog w A s (dataKind s.heap ds) vs := by
  by_cases hne : ∀ d, d ∈ ds → ∃ x r, d = PyData.tuple (x :: r)
  · exact SortsAt.data e hal (.inl hne) hu
  have room : ∀ {d d' : PyData}, d ∈ ds → A.units + min d.depth d'.depth < cLine := fun {d d'} hd => Nat.lt_of_le_of_lt (Nat.add_le_add_left (Nat.min_le_left _ _) _) (hu d hd)
  refine ⟨fun v hv => ?_, ?_⟩
  · obtain ⟨d, hd, as, r⟩ := e.left v hv
    exact ⟨_, dataKind_some hal hd r⟩
  · obtain ⟨fs, t1, t2⟩ := each_tupsO e ht
    have hemp : ∃ d ∈ ds, d = PyData.tuple [] := by
      refine Classical.byContradiction fun z => hne fun d hd => ?_
      obtain ⟨xs, rfl⟩ := ht d hd
      cases xs with
      | nil => exact absurd ⟨_, hd, rfl⟩ z
      | cons x r => exact ⟨x, r, rfl⟩
    refine ⟨kindO fs, ?_, fun h2 E Q hq => tup_kind t1 h2 (t2 hemp) (fun v hv => ?_) hq⟩
    · intro E x y a b Q ha hb hq
      obtain ⟨d, as, hd, ra, rfl⟩ := dataKind_inv ha
      obtain ⟨d', as', hd', rb, rfl⟩ := dataKind_inv hb
      obtain ⟨xs, rfl⟩ := ht d hd
      obtain ⟨ys, rfl⟩ := ht d' hd'
      have hdd := hal _ hd _ hd'
      unfold kindO
      split
      · show wpAny (model prog w) A (oneLt' false x y) Q E s
        exact oneLt_alike (fun z => nomatch z) ra rb hdd (fun z => nomatch z) (room hd) hq
      · rw [keyLt'_oneType]
        exact oneLt_tups ra rb (by simpa [alike] using hdd) (room hd) hq
    · obtain ⟨d, hd, as, r⟩ := e.left v hv
      obtain ⟨xs, rfl⟩ := ht d hd
      exact looks_reads r
variable {β : Type} {vs : List Value} {bs : List β} {R : Value → β → Prop} {enc : β → PyData} {E : Value → Shared → Prop}
/-- sorted(xs), xs a list of tuples -/
theorem sorted_dataT {l : Addr} {Q : Value → Shared → Prop} (hl : s.heap.IsList l vs.toArray) (e : EachIs R vs bs) (er : EachIs (fun v b => ∃ as, PySem.Reads s.heap v (enc b) as) vs bs) (hal : AllAlike (bs.map enc)) (ht : ∀ d ∈ bs.map enc, ∃ xs, d = PyData.tuple xs) (hL : bs.length ≤ sizeLine)
    (hu : ∀ b, b ∈ bs → A.units + 2 + (enc b).depth < cLine) (h : ∀ out, out.length = bs.length → EachIs R out (bs.mergeSort (dataLe false enc)) → Q (.ref (s.heap.objs.size + 1)) { s with heap := sortedAll s.heap vs (List.toArray out) }) :
    wpAny (model prog w) A (call (.builtin "sorted") [.ref l]) Q E s := by
  have er' : EachIs (fun v b => ∃ as, PySem.Reads (sortingHeap (copyHeap s.heap vs) (s.heap.objs.size + 1) vs) v (enc b) as) vs bs := er.mono fun _ _ ⟨as, r⟩ => ⟨as, PyProof.Rows.Reads.keeps (fun _ _ => sorting_copy_old) r⟩
  exact sorted_vals hl (sortsAt_tups (s := { s with heap := sortingHeap (copyHeap s.heap vs) (s.heap.objs.size + 1) vs }) (each_map (R := fun v d => ∃ as, PySem.Reads (sortingHeap (copyHeap s.heap vs) (s.heap.objs.size + 1) vs) v d as) enc er') hal ht (bound_map hu)) (by rw [e.length]; exact hL)
    (h _ (by rw [sortVals_length false rfl]; exact e.length) (sortVals_data false e er' hal))
/-- xs.sort() -/
theorem list_sort_dataT {a : Addr} {n : Nat} {Q : Value → Shared → Prop} (ho : s.heap.get? a = some (seqObj "list" vs.toArray n)) (e : EachIs R vs bs) (er : EachIs (fun v b => ∃ as, PySem.Reads s.heap v (enc b) as ∧ a ∉ as) vs bs) (hal : AllAlike (bs.map enc)) (ht : ∀ d ∈ bs.map enc, ∃ xs, d = PyData.tuple xs) (hL : bs.length ≤ sizeLine)
    (hu : ∀ b, b ∈ bs → A.units + 1 + (enc b).depth < cLine) (h : ∀ out, out.length = bs.length → EachIs R out (bs.mergeSort (dataLe false enc)) → Q .none { s with heap := sortedHeap s.heap a vs (List.toArray out) }) :
    wpAny (model prog w) A (call (.builtin "list.sort") [.ref a]) Q E s := by
  have er' : EachIs (fun v b => ∃ as, PySem.Reads (sortingHeap s.heap a vs) v (enc b) as) vs bs := each_keepBut (h' := sortingHeap s.heap a vs) (fun _ _ hb q => sortingHeap_old hb q) (fun o q => by rw [ho] at q; rw [← Option.some.inj q]) hal er
  refine wpAny_call_entry slot_list_sort ⟨_, ho, rfl⟩ entry_list_sort (list_sort_vals (κ := dataKind (sortingHeap s.heap a vs) (bs.map enc)) ho (sortsAt_tups (s := { s with heap := sortingHeap s.heap a vs }) (each_map (R := fun v d => ∃ as, PySem.Reads (sortingHeap s.heap a vs) v d as) enc er') hal ht (bound_map hu)) (by rw [e.length]; exact hL) ⟨.none, rfl, ?_⟩) (args_list_sort _)
  exact h _ (by rw [sortVals_length false rfl]; exact e.length) (sortVals_data false e er' hal)
end
end Dl

namespace Dl
open PySem PySem.Spec PyProof.Rows L2
/-! ### sorted(set(xs)), xs a list of tuples of whole numbers -/
def tupI (k : List Int) : PyData := .tuple (k.map PyData.int)
theorem tupI_lt (x y : List Int) : PySem.W.dataLt (tupI x) (tupI y) = decide (x < y) := by
  unfold tupI
  rw [PySem.W.dataLt_tuple]
  exact PySem.W.dataLt_ints _ _
theorem tupI_lay (k : List Int) : (tupI k).canLay0 = true ∧ (tupI k).depth ≤ 1 := by
  have h := lay_nums k
  exact ⟨h.c, h.k⟩
theorem tupI_alike (x y : List Int) : PySem.W.alike (tupI x) (tupI y) = true := by
  unfold tupI
  simp only [PySem.W.alike]
  exact PySem.W.alike_ints _ _
theorem reads_ints {h : Heap} : ∀ {vs : List Value} {ns : List Int}, IntsAre vs ns → PySem.ReadsAll h vs (ns.map PyData.int) []
  | _, _, .nil => .nil
  | _, _, .cons n t r => PySem.ReadsAll.cons (as := []) (bs := []) (.int n t) (reads_ints r)
theorem each_refs {S : Value → Addr × List Int → Prop} : ∀ (L : List (Addr × List Int)), (∀ q ∈ L, S (.ref q.1) q) → PySem.W.EachIs S (L.map fun q => Value.ref q.1) L
  | [], _ => .nil
  | q :: L, h => .cons (h q List.mem_cons_self) (each_refs L fun r hr => h r (List.mem_cons_of_mem _ hr))
theorem refs_each : ∀ {us : List Value} {L : List (Addr × List Int)}, PySem.W.EachIs (fun v (q : Addr × List Int) => v = Value.ref q.1) us L → us = L.map fun q => Value.ref q.1
  | _, _, .nil => rfl
  | _, _, .cons h r => by rw [List.map_cons, h, refs_each r]
open PySem.W in
theorem sorted_setD {P : Program} {w : World} {A : Around} {E : Value → Shared → Prop} {s : Shared} {a : Addr} {L : List (Addr × List Int)} {es : Array (Int × Value)} {ep : Nat} {t : SetTable} {Q : Value → Shared → Prop} (R : SetTR P w s.heap a L es ep t) (hh : A.handled = none) (hu : A.units + 20 < cLine)
    (hQ : ∀ s' p (out : Array Value) (c : Nat) (L' : List (Addr × List Int)), (∀ b o, s.heap.get? b = some o → s'.heap.get? b = some o) → s'.gens = s.gens → s'.os = s.os → s.heap.objs.size ≤ p →
      s'.heap.get? p = some (seqObj "list" out c) → out.toList = L'.map (fun q => Value.ref q.1) → L'.Perm L → L'.Pairwise (fun q r => dataLt (tupI r.2) (tupI q.2) = false) → Q (.ref p) s') :
    wpAny (model P w) A (call (.builtin "sorted") [.ref a]) Q E s := by
  obtain ⟨o, ho, hex, hd⟩ := R.ob
  have hsz := R.size
  have hfew := R.few
  refine Calls.call_function_entry kind_sorted plain_sorted entry_sorted (args_sorted1 _) ?_
  unfold Builtin.«sorted»
  refine wpAny_bind (m := checkCount "sorted" 1 1 _) (wpAny_pure ?_)
  refine wpAny_bind (collect_set (A := A.in1) hh ⟨o, ho, hex.1, hd⟩ R.fits (by unfold scanBound; omega) R.tab.ris R.led fun s1 vs k1 hz g1 o1 pm => ?_)
  have hes : es.toList.map (·.2) = L.map fun q => Value.ref q.1 := by
    rw [R.rows]
    unfold L2.rowsOf
    rw [List.map_map] <;> rfl
  rw [hes] at pm
  have ord : ∀ vs : List Value, (∀ v ∈ vs, ∃ q ∈ L, v = Value.ref q.1) → ∃ L1 : List (Addr × List Int), vs = L1.map (fun q => Value.ref q.1) ∧ ∀ q ∈ L1, q ∈ L := by
    intro vs
    induction vs with
    | nil => intro _; exact ⟨[], rfl, fun q hq => (by cases hq)⟩
    | cons v vs ih =>
      intro hv
      obtain ⟨q, hq, e⟩ := hv v List.mem_cons_self
      obtain ⟨L1, e1, hs⟩ := ih fun u hu => hv u (List.mem_cons_of_mem _ hu)
      refine ⟨q :: L1, by rw [List.map_cons, e, e1], fun r hr => ?_⟩
      rcases List.mem_cons.mp hr with z | z
      · rw [z]; exact hq
      · exact hs r z
  have one : ∀ q ∈ L, ∀ r ∈ L, q.1 = r.1 → q = r := fun q hq r hr e => by
    have a1 := R.tup q hq
    have a2 := R.tup r hr
    rw [e] at a1
    have e2 : q.2 = r.2 := a1.inj a2
    exact Prod.ext e e2
  have perm_of : ∀ L1 : List (Addr × List Int), (∀ q ∈ L1, q ∈ L) → (L1.map (fun q => Value.ref q.1)).Perm (L.map fun q => Value.ref q.1) → L1.Perm L := by
    intro L1 hs pm1
    have nL : L.Nodup := nodup_of_map R.nd
    have nref : (L.map fun q => Value.ref q.1).Nodup := by
      refine List.pairwise_map.mpr (List.Pairwise.imp_of_mem (fun {q r} hq hr hne e => ?_) nL)
      injection e with e
      exact hne (one q hq r hr e)
    have n1 : L1.Nodup := nodup_of_map (pm1.nodup_iff.mpr nref)
    refine (List.perm_ext_iff_of_nodup n1 nL).mpr fun q => ⟨hs q, fun hq => ?_⟩
    have hm : Value.ref q.1 ∈ L1.map (fun q => Value.ref q.1) := pm1.mem_iff.mpr (List.mem_map.mpr ⟨q, hq, rfl⟩)
    obtain ⟨r, hr, e⟩ := List.mem_map.mp hm
    injection e with e
    rw [← one r (hs r hr) q hq e]
    exact hr
  have hvl : vs.length < 64 := by rw [pm.length_eq, List.length_map]; exact hfew
  refine wpAny_bind (wpAny_newList ?_ (by rw [sizeLine_eq]; omega))
  have hoL : (s1.heap.push (seqObj "list" vs.toArray 0)).get? s1.heap.objs.size = some (seqObj "list" vs.toArray 0) := Heap.get?_push_size _ rfl
  obtain ⟨L1, e1, hs1⟩ := ord vs fun v hv => by
    obtain ⟨q, hq, e⟩ := List.mem_map.mp (pm.mem_iff.mp hv)
    exact ⟨q, hq, e.symm⟩
  have pL1 : L1.Perm L := perm_of L1 hs1 (by rw [← e1]; exact pm)
  have tk : ∀ q ∈ L, ∃ as, PySem.Reads (s1.heap.push (seqObj "list" vs.toArray 0)) (.ref q.1) (tupI q.2) as ∧ s1.heap.objs.size ∉ as := fun q hq => by
    obtain ⟨b, items, e, ⟨o', ho', hc', n', hd'⟩, hi⟩ := tupInts_of (P := P) (w := w) (isT_keep (R.tup q hq) fun b u e => Heap.get?_push_of_some (seqObj "list" vs.toArray 0) (k1 b u e))
    injection e with e
    subst e
    exact ⟨[], .tuple ho' hc' hd' (reads_ints hi), List.not_mem_nil⟩
  subst e1
  refine wpAny_bind (wpAny_holding (list_sort_dataT (s := { s1 with heap := s1.heap.push (seqObj "list" (L1.map fun q => Value.ref q.1).toArray 0) }) (R := fun v (q : Addr × List Int) => v = Value.ref q.1) (enc := fun q => tupI q.2) hoL (each_refs L1 fun q _ => rfl) (each_refs L1 fun q hq => tk q (hs1 q hq)) (AllAlike.of fun x y => tupI_alike _ _) (fun d hd => ?_) (by rw [List.length_map] at hvl; rw [sizeLine_eq]; omega) (fun q _ => ?_) fun out ho eo => ?_))
  · obtain ⟨q, _, rfl⟩ := List.mem_map.mp hd
    exact ⟨_, rfl⟩
  · have := (tupI_lay q.2).2
    show A.in1.units + 1 + _ < _
    have e : A.in1.units = A.units + 1 := rfl
    omega
  · obtain ⟨c, hc⟩ := sortedHeap_at (vs := L1.map fun q => Value.ref q.1) (out := out.toArray) hoL
    have eo' := refs_each eo
    have pm2 : (L1.mergeSort (dataLe false fun q : Addr × List Int => tupI q.2)).Perm L := (List.mergeSort_perm _ _).trans pL1
    have pw : (L1.mergeSort (dataLe false fun q : Addr × List Int => tupI q.2)).Pairwise (fun q r => dataLt (tupI r.2) (tupI q.2) = false) := (sort_pairwise (sortLe_total _ false _) L1).imp fun {x y} h => by
      have h : (!dataLt (tupI y.2) (tupI x.2)) = true := h
      simpa using h
    refine wpAny_pure ⟨_, rfl, hQ _ s1.heap.objs.size out.toArray c _ (fun b u e => ?_) g1 o1 hz hc ?_ pm2 pw⟩
    · have q := k1 b u e
      have hlt := Heap.lt_size q
      show (sortedHeap (s1.heap.push (seqObj "list" (L1.map fun q => Value.ref q.1).toArray 0)) s1.heap.objs.size (L1.map fun q => Value.ref q.1) out.toArray).get? b = some u
      rw [sortedHeap_old (Nat.ne_of_lt hlt) (by rw [size_push']; exact Nat.lt_succ_of_lt hlt)]
      exact Heap.get?_push_of_some _ q
    · exact eo'
/-- sorted(set(xs)): the tuples, each once, rising -/
def tSortSet (K : PySem.W.Frag) (ta : TE) : TE := fun σ H Q => ta σ H fun x G => ∃ (l : Addr) (ks : List (Addr × List Int)), x = .ref l ∧ SqL K G l (ks.map fun p => V.ref p.1) ∧ (∀ p ∈ ks, SqT K G p.1 (p.2.map V.int)) ∧ ks.length < 64 ∧
  ∀ (L : List (Addr × List Int)) (p : Addr), (∀ q ∈ L, q ∈ ks) → (L.map (·.2)).Nodup → (∀ k, k ∈ L.map (·.2) ↔ k ∈ ks.map (·.2)) → L.Pairwise (fun q r => PySem.W.dataLt (tupI r.2) (tupI q.2) = false) → G p = none → Q (.ref p) (upd G p (.lst (L.map fun q => V.ref q.1)))
theorem pe_sortSet {X : Cx} {a : Expr} {ta : TE} {u1 u2 u3 u4 : Pos} (gl : Gl X "sorted") (ml : X.mg "sorted" = none) (gs : Gl X "set") (ms : X.mg "set" = none) (ha : PE X a ta) (hu : X.A.units + 64 < cLine) (calm : X.calm = true := by rfl)
    (st : starEach [a] X.env = (false, eval a X.env) :: starEach [] X.env := by rfl) : PE X (.Call (.Name "sorted" u1) [.Call (.Name "set" u2) [a] [] u3] [] u4) (tSortSet X.K ta) := by
  refine ⟨fun pins s σ H Q I h => ?_⟩
  refine PyProof.Rows.Call_ (ld_blt I gl ml boot_sorted ?_)
  refine PyProof.Rows.callWith_builtin1 (PyProof.Rows.args_cons ?_ rfl) rfl rfl
  refine PyProof.Rows.Call_ (ld_blt I gs ms boot_set ?_)
  refine PyProof.Rows.callWith_type1 (PyProof.Rows.args_cons (thn (ha.run pins s σ H _ I h) fun v t ⟨x, G, J, rx, hx⟩ => PyProof.Rows.args_nil ?_) st) st rfl
  obtain ⟨l, ks, rfl, sq, hk, few, fin⟩ := hx
  cases rx
  obtain ⟨its, rv, pl, hz⟩ := J.list sq
  refine call_set_tups (P := X.prog) (w := X.w) ks (J.ok.hd calm) pl.isList (by simpa using refs_of_vals rv) (fun p hp => J.isT (hk p hp)) few (by omega) fun h' tk L es ep t' R g k => ?_
  have J2 : Inv X pins σ G { t with heap := h', toks := tk } := J.kept fun b o e => k b o e
  refine PyProof.Rows.args_nil ?_
  refine sorted_setD (s := { t with heap := h', toks := tk }) R (J.ok.hd calm) (by omega) fun s' p out c L' kp gg oo hp hg hout pm pw => ?_
  have sub : ∀ q ∈ L', q ∈ ks := fun q hq => List.mem_of_mem_take (g.sub q (pm.mem_iff.mp hq))
  have hfew : L'.length < 64 := by rw [pm.length_eq]; exact R.few
  have hlen : (L'.map fun q => V.ref q.1).length ≤ sizeLine := by rw [List.length_map, sizeLine_eq]; omega
  have hv : Vals (L'.map fun q => V.ref q.1) out.toList := by rw [hout]; exact vals_of_refs L'
  obtain ⟨t2, et2⟩ : ∃ t2 : Shared, t2 = { t with heap := h', toks := tk } := ⟨_, rfl⟩
  rw [← et2] at J2 kp gg oo hp
  have J3 : Inv X pins σ (upd G p (.lst (L'.map fun q => V.ref q.1))) { t2 with heap := s'.heap, gens := s'.gens, drawn := s'.drawn, toks := s'.toks } :=
    have hn : G p = none := J2.hok.fresh hp
    J2.call (ch := []) (Un.laid kp hp hn) (J2.hok.laid kp hp ⟨hlen, out.toList, c, hv, hg⟩) (by rw [gg]; exact J2.bare) (fun _ z => nomatch z)
  have hn : G p = none := J2.hok.fresh hp
  have e : s' = { t2 with heap := s'.heap, gens := s'.gens, drawn := s'.drawn, toks := s'.toks } := by
    cases s'
    cases t2
    cases oo
    rfl
  rw [e]
  refine ⟨.ref p, _, J3, rfl, fin L' p sub ((pm.map (·.2)).nodup_iff.mpr R.nd) (fun z => ⟨fun hz' => ?_, fun hz' => ?_⟩) pw hn⟩
  · obtain ⟨q, hq, rfl⟩ := List.mem_map.mp hz'
    exact List.mem_map.mpr ⟨q, sub q hq, rfl⟩
  · obtain ⟨q, hq, rfl⟩ := List.mem_map.mp hz'
    have := g.all q (by rw [List.take_length]; exact hq)
    obtain ⟨r, hr, er⟩ := List.mem_map.mp this
    exact List.mem_map.mpr ⟨r, pm.mem_iff.mpr hr, er⟩
section
variable {K : PySem.W.Frag} {τ : List (Addr × Str)} {E : XK}
theorem pe_sortSetK {X : Cx} {K : PySem.W.Frag} (h : X.K = K) {a : Expr} {ta : TE} {u1 u2 u3 u4 : Pos} (gl : Gl X "sorted") (ml : X.mg "sorted" = none) (gs : Gl X "set") (ms : X.mg "set" = none) (ha : PE X a ta) (hu : X.A.units + 64 < cLine) (calm : X.calm = true := by rfl)
    (st : starEach [a] X.env = (false, eval a X.env) :: starEach [] X.env := by rfl) : PE X (.Call (.Name "sorted" u1) [.Call (.Name "set" u2) [a] [] u3] [] u4) (tSortSet K ta) := by
  subst h
  exact pe_sortSet gl ml gs ms ha hu calm st
theorem tups_split {A : Addr → Prop} {H : Hp} : ∀ {vs : List V} {xs : List (List Int)}, RpAll K A H vs (xs.map tupI) → ∃ ks : List (Addr × List Int), vs = (ks.map fun p => V.ref p.1) ∧ xs = ks.map (·.2) ∧ ∀ p ∈ ks, SqTA K A H p.1 (p.2.map V.int)
  | _, [], h => by
    cases h
    exact ⟨[], rfl, rfl, fun _ z => nomatch z⟩
  | _, x :: xs, h => by
    cases h with
    | cons h r =>
      obtain ⟨ks, rfl, rfl, hk⟩ := tups_split r
      cases h with
      | @tup a us _ sq ra =>
        obtain rfl := ra.ints
        refine ⟨(a, x) :: ks, rfl, rfl, fun p hp => ?_⟩
        rcases List.mem_cons.mp hp with rfl | hp
        · exact sq
        · exact hk p hp
theorem tups_join {A : Addr → Prop} {H : Hp} : ∀ (L : List (Addr × List Int)), (∀ p ∈ L, SqTA K A H p.1 (p.2.map V.int)) → RpAll K A H (L.map fun p => V.ref p.1) ((L.map (·.2)).map tupI)
  | [], _ => .nil
  | p :: L, h => .cons (Rp.tup (h p List.mem_cons_self) (RpAll.of_ints p.2)) (tups_join L fun q hq => h q (List.mem_cons_of_mem _ hq))
def sortSetK (Qd : Sl → Prop) : Sl → Prop := fun s => ∃ xs : List (List Int), s.seq = some (xs.map tupI) ∧ xs.length < 64 ∧ ∀ zs : List (List Int), zs.Nodup → (∀ k, k ∈ zs ↔ k ∈ xs) → (zs.Pairwise fun x y => ¬ y < x) → Qd (.ml (zs.map tupI))
def dSortSet (f : TD) : TD := fun ρ Qd R => f ρ (sortSetK Qd) R
instance {t : TE} {f : TD} [ht : RefE K τ E t f] : RefE K τ E (tSortSet K t) (dSortSet f) := ⟨fun W A H σ ρ Qd R Q a h w => by
  refine ht.go W A H σ ρ _ R _ a h fun v H1 s f1 i1 r1 q => ?_
  obtain ⟨xs, es, hl, q⟩ := q
  have b1 := a.bs.fr f1 i1
  have hp : ∃ p vs, v = .ref p ∧ SqLA K W.B H1 p vs ∧ RpAll K A H1 vs (xs.map tupI) := r1.seq a.bs es
  obtain ⟨p, vs, rfl, sq, ra⟩ := hp
  obtain ⟨ks, rfl, rfl, hk⟩ := tups_split ra
  refine ⟨p, ks, rfl, sqLA_sq sq, fun q hq => sqTA_sq (hk q hq), by rwa [List.length_map] at hl, fun L p' sub nd mem pw np => ?_⟩
  refine Want.lst b1 (w.back f1) (tups_join L fun q hq => hk q (sub q hq)) (q _ nd mem ?_) p' np
  refine List.pairwise_map.mpr (pw.imp fun {x y} h => ?_)
  rw [tupI_lt] at h
  exact of_decide_eq_false h⟩
theorem dSortSet_c {f : TD} {ρ : List Sl} {Qd : Sl → Prop} {R : Er → Prop} : dSortSet f ρ Qd R = f ρ (sortSetK Qd) R := propext Iff.rfl
end
end Dl

namespace Dl
open PySem PySem.Spec PyProof.Rows L2
section
variable {K : PySem.W.Frag} {τ : List (Addr × Str)} {E : XK}
/-! ### xs.extend(a new list) -/
def dExtend (i : Nat) (fe : TD) : TDS := fun dd R ρ => match (ρ[i]?).getD .un with
  | .ml xs => fe ρ (fun s => ∃ ys, s = .ml ys ∧ xs.length + ys.length ≤ sizeLine ∧ dd.nx (ρ.set i (.ml (xs ++ ys)))) R
  | _ => False
instance {i : Nat} {t : TE} {f : TD} [ht : RefE K τ E t f] : RefS K τ E (tDrop (tBM K "list" rExtend (tVar i) (tCons t tNil))) (dExtend i f) := ⟨fun W A0 H0 D dd R H σ ρ gσ gρ b sr er ek h => by
  obtain ⟨W', A, c⟩ := sr
  obtain ⟨xs, e, q⟩ := own_iff (P := fun xs => f ρ (fun s => ∃ ys, s = .ml ys ∧ xs.length + ys.length ≤ sizeLine ∧ dd.nx (ρ.set i (.ml (xs ++ ys)))) R) h
  obtain ⟨p, vs, ev, ep, nB, r0⟩ := c.own_at e
  refine ⟨.ref p, ev, .inl ⟨rfl, _, SqL.of ep⟩, ?_⟩
  refine ht.go W' A H σ ρ _ R _ (c.at_ ek) q fun y H1 s f1 i1 r1 q1 => ?_
  obtain ⟨ys, rfl, hs, q1⟩ := q1
  obtain ⟨p2, ws, rfl, n2, e2, r2⟩ := r1
  have c1 := c.step f1 i1
  have r01 := r0.go (goes_fr c.bs.ba f1)
  have r2' : RpAll K A H1 ws ys := r2.go (goes_less fun a z => .inl z)
  refine ⟨p, p2, vs, ws, rfl, rfl, f1.1 _ _ ep nt_lst nB, e2, by rw [r0.length, r2'.length]; exact hs, ?_⟩
  exact er.nx _ _ _ ⟨W', A, c1.mut e ev (r01.append r2')⟩ q1⟩
theorem dExtend_c {i : Nat} {fe : TD} {dd : DEnds} {R : Er → Prop} {ρ : List Sl} {xs : List PyData} (e : ρ[i]? = some (.ml xs)) (h : fe ρ (fun s => ∃ ys, s = .ml ys ∧ xs.length + ys.length ≤ sizeLine ∧ dd.nx (ρ.set i (.ml (xs ++ ys)))) R) : dExtend i fe dd R ρ := by
  unfold dExtend
  rw [e]
  exact h
/-! ### sorted(xs), xs a list of tuples of whole numbers, empty ones among them -/
open PySem.W in
def rSortT (K : PySem.W.Frag) : List V → Hp → VK → Prop := fun xs H Q => ∃ (a : Addr) (vs : List V) (ks : List (List Int)), xs = [.ref a] ∧ SqL K H a vs ∧ DpAll K H vs (ks.map tupI) ∧
  ∀ zs : List (V × PyData), zs.Perm (vs.zip (ks.map tupI)) → zs.map (·.2) = (ks.map tupI).mergeSort (dataLe false id) → ∀ p, H p = none → Q (.ref p) (upd H p (.lst (zs.map (·.1))))
open PySem.W in
theorem cr_sortT {X : Cx} (hu : X.A.units + 64 < cLine) : CallR X (.builtin "sorted") (rSortT X.K) := by
  intro pins s σ H vs us Q I r h
  obtain ⟨a, ws, ks, rfl, hs, hp, q⟩ := h
  rw [Vals.ref1 r]
  obtain ⟨its, rv, hl, hz⟩ := I.list hs
  obtain ⟨as, ra⟩ := Dp.readsAll I _ _ _ hp rv
  generalize hds : ks.map tupI = ds at hp ra q
  have hr : EachIs (fun v d => ∃ as, PySem.Reads s.heap v d as) its ds := readsAll_each id (bs := ds) (by rw [List.map_id]; exact ra)
  obtain ⟨e1, e2⟩ := each_zip (R := fun u v => RelV v u) (S := fun v d => ∃ as, PySem.Reads s.heap v d as) rv hr
  have l1 : ws.length = ds.length := by
    rw [rv.length]
    exact hr.length
  have ez := zip_snd l1
  have lz : (ws.zip ds).length = ws.length := by rw [List.length_zip, l1, Nat.min_self]
  have each : ∀ d ∈ ds, ∃ k, d = tupI k := fun d hd => by
    rw [← hds] at hd
    obtain ⟨k, _, rfl⟩ := List.mem_map.mp hd
    exact ⟨k, rfl⟩
  refine sorted_dataT (R := fun u (b : V × PyData) => RelV b.1 u) (enc := fun b : V × PyData => b.2) (bs := ws.zip ds) hl.isList e1 e2 (by
    rw [ez]
    intro d hd d' hd'
    obtain ⟨k, rfl⟩ := each d hd
    obtain ⟨k', rfl⟩ := each d' hd'
    exact tupI_alike _ _) (by
    rw [ez]
    intro d hd
    obtain ⟨k, rfl⟩ := each d hd
    exact ⟨_, rfl⟩) (by rw [lz]; exact hz) (fun b hb => ?_) fun out ho eo => ?_
  · obtain ⟨k, ek⟩ := each b.2 (List.of_mem_zip hb).2
    have := (tupI_lay k).2
    rw [ek]
    omega
  · obtain ⟨c, hc⟩ := sortedAll_at s.heap its out.toArray
    have hd : s.heap.objs.size ≤ s.heap.objs.size + 1 := Nat.le_succ _
    have rz := vals_each eo
    refine ⟨.ref (s.heap.objs.size + 1), upd H (s.heap.objs.size + 1) (.lst (((ws.zip ds).mergeSort (dataLe false fun b : V × PyData => b.2)).map (·.1))), I.laid (t' := s.toks) (fun _ _ => sortedAll_old) hd ⟨?_, out, c, rz, hc⟩, rfl, q _ (List.mergeSort_perm _ _) ?_ _ (I.hok.fresh hd)⟩
    · rw [List.length_map, List.length_mergeSort, lz]
      exact hz
    · exact (List.map_mergeSort (l := ws.zip ds) (r := dataLe false fun b : V × PyData => b.2) (s := dataLe false id) (f := fun b : V × PyData => b.2) (fun a _ b _ => rfl)).trans (by rw [ez])
theorem cr_sortTK {X : Cx} {K : PySem.W.Frag} (h : X.K = K) (hu : X.A.units + 64 < cLine) : CallR X (.builtin "sorted") (rSortT K) := by
  subst h
  exact cr_sortT hu
def fSortT : List Sl → (Sl → Prop) → Prop := fun ss Qd => ∃ (s : Sl) (ks : List (List Int)), ss = [s] ∧ s.seq = some (ks.map tupI) ∧ ∀ zs : List (List Int), zs.Perm ks → (zs.Pairwise fun x y => ¬ y < x) → Qd (.ml (zs.map tupI))
open PySem.W in
instance : RefC K (rSortT K) fSortT := ⟨fun W A H0 H xs ss Qd Q b f i rx h w => by
  obtain ⟨s, ks, rfl, es, q⟩ := h
  obtain ⟨v, rfl, r⟩ := vlsr1 rx
  obtain ⟨p, vs, rfl, sq, r⟩ := r.seq b es
  have lay : PyData.canLayAll0 (ks.map tupI) = true := (lay_all (n := 1) fun d hd => by
    obtain ⟨k, _, rfl⟩ := List.mem_map.mp hd
    exact lay_nums k).1
  refine ⟨p, vs, ks, rfl, sqLA_sq sq, r.dp lay, fun zs hz ez p' np => ?_⟩
  have rr : RpAll K A H (zs.map (·.1)) (zs.map (·.2)) := rp_each fun x hx => rp_perm r x (hz.mem_iff.mp hx)
  have em : (ks.map tupI).mergeSort (dataLe false id) = (ks.mergeSort (dataLe false tupI)).map tupI := (List.map_mergeSort (l := ks) (r := dataLe false tupI) (s := dataLe false id) (f := tupI) (fun a _ b _ => rfl)).symm
  rw [ez, em] at rr
  refine Want.lst (b.fr f i) w rr (q _ (List.mergeSort_perm _ _) ?_) p' np
  refine (sort_pairwise (sortLe_total _ false _) ks).imp fun {x y} h => ?_
  have h : (!dataLt (tupI y) (tupI x)) = true := h
  rw [tupI_lt] at h
  simpa using h⟩
/-! ### list(d), d of one's own, its keys tuples of whole numbers -/
def rListDT : List V → Hp → VK → Prop := fun xs H Q => ∃ d kvs, xs = [V.ref d] ∧ Rd H d (.dT kvs) ∧ ∀ p bs, H p = none → IsKeys H kvs bs → Q (.ref p) (upd H p (.lst (bs.map V.ref)))
def fListDT : List Sl → (Sl → Prop) → Prop := fun ss Qd => ∃ (kvs : List (List L2.Key × PyData)) (ks : List (List Int)), ss = [.bo (.dt kvs)] ∧ kvs.map (·.1) = ks.map keyT ∧ Qd (.ml (ks.map tupI))
theorem keys_rp {A : Addr → Prop} {H : Hp} (na : ∀ (b : Addr) (xs : List V), H b = some (.tup xs) → ¬ A b) : ∀ {kvs : List (List L2.Key × V)} {ks : List (List Int)} {bs : List Addr}, kvs.map (·.1) = ks.map keyT → IsKeys H kvs bs → RpAll K A H (bs.map V.ref) (ks.map tupI)
  | [], [], _, _, h => by
    cases h
    exact .nil
  | [], _ :: _, _, e, _ => by cases e
  | _ :: _, [], _, e, _ => by cases e
  | p :: kvs, k :: ks, _, e, h => by
    obtain ⟨e1, e2⟩ := List.cons.inj e
    cases h with
    | cons h r =>
      rw [show p.1 = keyT k from e1, keyT_v] at h
      exact .cons (Rp.tup ⟨h, na _ _ h⟩ (RpAll.of_ints k)) (keys_rp na e2 r)
instance : RefC K rListDT fListDT := ⟨fun W A H0 H xs ss Qd Q b f i rx h w => by
  obtain ⟨kvs, ks, rfl, ek, q⟩ := h
  obtain ⟨v, rfl, r⟩ := vlsr1 rx
  obtain ⟨p, ho, rfl, e1, n, od⟩ := r
  cases ho with
  | dT kks =>
    refine ⟨p, kks, rfl, .inl e1, fun p' bs np hk => ?_⟩
    have bH := b.fr f i
    exact Want.lst bH w (keys_rp (fun c xs ec hc => bH.nt c xs hc ec) (od.1.trans ek) hk) q p' np
  | _ => exact od.elim⟩
theorem call_listDT {X : Cx} (hc : X.calm = true) : CallR X (.type "list") rListDT := call_list_dT hc
end
end Dl

namespace Dl
open PySem PySem.Spec PyProof.Rows L2
/-! ### {k: v} with a tuple of whole numbers for its key; {} as a value -/
def tDisp1T (tk tv : TE) : TE := fun σ H Q => ∀ p, H p = none → tPairs [(tk, tv)] σ (upd H p (.dT [])) fun ps H2 => ∃ x y, ps = [(x, y)] ∧ ∃ (kk : List L2.Key) (b : Addr), H2 p = some (.dT []) ∧ x = .ref b ∧ H2 b = some (.tup (kk.map kV)) ∧ Q (.ref p) (upd H2 p (.dT [(kk, y)]))
section
variable {X : Cx} {pins : List (Addr × Obj)} {σ : L2.St} {H : Hp} {s : Shared} {a b : Addr} {v : V} {r : Value} {A : Around} {E : Value → Shared → Prop}
theorem d_dictSetT {kk : List L2.Key} {Q : Unit → Shared → Prop} (hu : (tupleKind (mixKind X.prog X.w)).room A) (I : Inv X pins σ H s) (e : H a = some (.dT [])) (eb : H b = some (.tup (kk.map kV))) (rv : RelV v r) (h : ∀ s', Inv X pins σ (upd H a (.dT [(kk, v)])) s' → Q () s') :
    wpAny (model X.prog X.w) A (dictSet a (.ref b) r) Q E s := by
  obtain ⟨z, hd, xs, rel, dd⟩ := dt_of I.hok e
  have hz : xs.length ≤ sizeLine := by rw [← Paired.length rel]; exact z
  refine wpAny_dictSet_heap (hsz := hz) hu (key_of I.hok eb) dd fun h' dd' hs => h _ ?_
  obtain ⟨q, es, ep, hq, h2, h3, h4, _, h5⟩ := dd'
  refine d_write I (by rw [e]; exact True.intro) hs ⟨q, hq⟩ ⟨by show 1 ≤ sizeLine; decide, hd, _, (rel.put kk eb rv).keeps fun c ys ec => ?_, q, es, ep, hq, h2, h3, h4, h5⟩
  rw [upd_ne (ne_of ec e (fun z => nomatch z))]
  exact ec
end
theorem pe_disp1T {X : Cx} {k v : Expr} {tk tv : TE} {pos : Pos} (hu : X.A.units + 64 < cLine) (hk : PE X k tk) (hv : PE X v tv) : PE X (.Dict [some k] [v] pos) (tDisp1T tk tv) := by
  refine ⟨fun pins s σ H Q I q => ?_⟩
  have hn := I.hok.fresh (Nat.le_refl s.heap.objs.size)
  have I1 := I.laid (a := s.heap.objs.size) (o := .dT []) (h' := s.heap.push { cls := .type "dict", data := .dict #[] }) (t' := s.toks) (fun _ _ q => Heap.get?_push_of_some _ q) (Nat.le_refl _) (dt_empty s.heap I.big)
  have hp : PPs X pos [some k] [v] [(tk, tv)] := pps_cons hk hv pps_nil
  refine wpAny_Dict_any rfl rfl (by simp) (by simp) (thn (hp.run pins _ σ _ _ I1 (q _ hn)) fun ws s2 ⟨ps, H2, I2, rel, x, y, ep, kk, b, e, ex, eb, q2⟩ => ?_)
  subst ep ex
  cases rel with
  | @cons p0 w0 _ _ h1 r1 =>
    cases r1
    obtain ⟨hx, hy⟩ := h1
    obtain ⟨u, r⟩ := w0
    obtain rfl : u = Value.ref b := hx
    unfold storeAll
    rw [List.forIn_cons]
    refine wpAny_bind (wpAny_bind (d_dictSetT (by show X.A.units < cLine; omega) I2 e eb hy fun s' I' => wpAny_pure ?_))
    dsimp only
    rw [List.forIn_nil]
    exact wpAny_pure ⟨.ref _, _, I', rfl, q2⟩
section
variable {K : PySem.W.Frag} {τ : List (Addr × Str)} {E : XK}
def dNewTE : TD := fun _ Qd _ => Qd (.mo (.dt []))
instance : RefE K τ E tDNewT dNewTE := ⟨fun W A H σ ρ Qd R Q a h w p n => w (.ref p) _ (.mo (.dt [])) (Fr.new n) (W.stay _ _ (same_new n) a.bs.inv) ⟨p, _, rfl, nob n, upd_same, rfl, .nil⟩ h⟩
/-- while a new dict stands aside -/
theorem At.asideT {W : Wld τ} {A : Addr → Prop} {H : Hp} {σ : L2.St} {ρ : List Sl} {R : Er → Prop} {p : Addr} {kvs : List (List L2.Key × V)} (a : At K W A E H σ ρ R) (n : H p = none) : At K W (fun b => A b ∨ b = p) E (upd H p (.dT kvs)) σ ρ R := by
  have gA : Goes A (fun b => A b ∨ b = p) H H := fun c o ec _ nc => ⟨ec, fun z => z.elim nc (ne_of_none ec n)⟩
  have f : Fr W.B H (upd H p (.dT kvs)) := Fr.new n
  refine ⟨⟨fun b z => .inl (a.bs.ba b z), fun b z => ?_, W.stay _ _ (same_new n) a.bs.inv, fun b xs z e => by
    by_cases h : b = p
    · rw [h, upd_same] at e
      cases e
    · rw [upd_ne h] at e
      exact z.elim (fun z => a.bs.nt b xs z e) h⟩, (a.env.grow gA fun b z => .inl z).fr (fun b z => .inl (a.bs.ba b z)) f, fun er x H2 fr2 i2 z r => a.er er x H2 (f.trans fr2) i2 (z.mono fun b z => .inl z) r⟩
  rcases z with z | rfl
  · exact f.2 b (a.bs.dom b z)
  · exact ⟨_, upd_same, fun _ q => nomatch q⟩
def dDisp1T (fk fv : TD) : TD := fun ρ Qd R => fk ρ (fun s => ∃ ns : List Int, s = .d (tupI ns) ∧ fv ρ (fun u => ∃ y, u.dat = some y ∧ Qd (.mo (.dt [(keyT ns, y)]))) R) R
instance {tk tv : TE} {fk fv : TD} [hk : RefE K τ E tk fk] [hv : RefE K τ E tv fv] : RefE K τ E (tDisp1T tk tv) (dDisp1T fk fv) := ⟨fun W A H σ ρ Qd R Q a h w p n => by
  have a1 := a.asideT (kvs := []) n
  have nB : ¬ W.B p := a.bs.nB (nob n)
  have f0 : Fr W.B H (upd H p (.dT [])) := Fr.new n
  refine hk.go W _ _ σ ρ _ R _ a1 h fun x H1 s f1 i1 r1 q1 => ?_
  obtain ⟨ns, rfl, q1⟩ := q1
  have a2 := a1.fr f1 i1
  refine hv.go W _ H1 σ ρ _ R _ a2 q1 fun y H2 u f2 i2 r2 q2 => ?_
  obtain ⟨d, ed, q2⟩ := q2
  have e2 : H2 p = some (.dT []) := (f1.trans f2).1 _ _ upd_same (fun _ q => nomatch q) nB
  have rx : Rp K (fun b => A b ∨ b = p) H2 x (tupI ns) := Rp.go (goes_fr a2.bs.ba f2) r1
  have rd := r2.dat a2.bs ed
  cases rx with
  | @tup b us _ sq ra =>
    obtain rfl := ra.ints
    refine ⟨_, y, rfl, keyT ns, b, e2, rfl, by rw [keyT_v]; exact sq.1, ?_⟩
    have f012 := f0.trans (f1.trans f2)
    refine w (.ref p) _ (.mo (.dt [(keyT ns, d)])) ⟨fun c o ec t nc => ?_, fun c hc => ?_⟩ (W.own H2 p _ _ i2 e2 (.dT _) (.dT _) nB) ⟨p, _, rfl, nob n, upd_same, rfl, .one (rd.go fun c o ec _ nc => ⟨(upd_ne fun z => nc (.inr z)).trans ec, nc⟩)⟩ q2
    · rw [upd_ne (ne_of_none ec n)]
      exact f012.1 c o ec t nc
    · by_cases z : c = p
      · subst z
        exact ⟨_, upd_same, fun _ q => nomatch q⟩
      · obtain ⟨o, e1, t1⟩ := f012.2 c hc
        exact ⟨o, (upd_ne z).trans e1, t1⟩⟩
variable {ρ : List Sl} {Qd : Sl → Prop} {R : Er → Prop}
theorem dNewTE_c : dNewTE ρ Qd R = Qd (.mo (.dt [])) := propext Iff.rfl
theorem dDisp1T_c {fk fv : TD} : dDisp1T fk fv ρ Qd R = fk ρ (fun s => ∃ ns : List Int, s = .d (tupI ns) ∧ fv ρ (fun u => ∃ y, u.dat = some y ∧ Qd (.mo (.dt [(keyT ns, y)]))) R) R := propext Iff.rfl
end
end Dl

namespace Dl
open PySem PySem.Spec PyProof.Rows L2
/-! ### a comprehension over what may be a list that is read, or a tuple -/
def iEi (K : PySem.W.Frag) (tl : TE) : TI := fun σ H R => tl σ H fun x H1 => ∃ a, x = .ref a ∧ (((∃ xs, SqL K H1 a xs) ∧ R (Itl K a) H1) ∨ ((∃ xs, SqT K H1 a xs) ∧ R (Itt K a) H1))
theorem pi_ei {X : Cx} {tg l : Expr} {tl : TE} {K : PySem.W.Frag} (hK : X.K = K) (hl : PE X l tl) : PI X tg l (iEi K tl) := by
  subst hK
  refine ⟨fun pins s σ H R I h => ?_⟩
  refine thn (hl.run pins s σ H _ I h) fun v s1 ⟨x, H1, I1, r1, q1⟩ => ?_
  obtain ⟨a, e, q1⟩ := q1
  subst e
  cases r1
  rcases q1 with ⟨⟨xs, hq⟩, q⟩ | ⟨⟨xs, hq⟩, q⟩
  · obtain ⟨its, rv, p, hz⟩ := I1.list hq
    refine wpAny_pyIter_list p.isList ?_
    refine ⟨s1.heap.objs.size, [s1.heap.objs.size], _, _, H1, rfl, I1.kept (t' := s1.toks) fun b o e => Heap.get?_push_of_some _ e, turn_list a _, ⟨_, Heap.get?_push_size _ rfl, rfl, rfl⟩, fun b hb => ?_, q⟩
    have e : b = s1.heap.objs.size := by simpa using hb
    subst e
    exact I1.fpOk (Nat.le_refl _) (I1.hok.fresh (Nat.le_refl _))
  · obtain ⟨its, rv, p, hz⟩ := I1.tuple hq
    refine wpAny_pyIter_tuple (show s1.heap.IsTuple a its.toArray from p) ?_
    refine ⟨s1.heap.objs.size, [s1.heap.objs.size], _, _, H1, rfl, I1.kept (t' := s1.toks) fun b o e => Heap.get?_push_of_some _ e, turn_tuple a _, ⟨_, Heap.get?_push_size _ rfl, rfl, rfl⟩, fun b hb => ?_, q⟩
    have e : b = s1.heap.objs.size := by simpa using hb
    subst e
    exact I1.fpOk (Nat.le_refl _) (I1.hok.fresh (Nat.le_refl _))
def eiK (Qd : List PyData → Prop) : Sl → Prop := fun s => match s with
  | .d (.tuple xs) => Qd xs
  | .bl xs => Qd xs
  | _ => False
def dEi (fe : TD) : TDI := fun ρ Qd R => fe ρ (eiK Qd) R
instance (priority := high) {K : PySem.W.Frag} {τ : List (Addr × Str)} {E : XK} {t : TE} {f : TD} [ht : RefE K τ E t f] : RefJ K τ E (iEi K t) (dEi f) := ⟨fun W A H σ ρ Qd R P a h k => by
  refine ht.go W A H σ ρ _ R _ a h fun v H1 s f1 i1 r1 q => ?_
  match s, r1, q with
  | .d (.tuple xs), r1, q =>
    have rp : Rp K A H1 v (.tuple xs) := r1.dat a.bs rfl
    obtain ⟨p, vs, rfl, sq, ra⟩ := rp.tup_
    refine ⟨p, rfl, .inr ⟨⟨_, sq⟩, k (Itt K p) H1 xs f1 i1 (fun A' H2 i b2 g2 f2 => ?_) q⟩⟩
    have rp2 : Rp K A' H2 (.ref p) (.tuple xs) := (rp.go g2).go (goes_fr b2.ba f2)
    obtain ⟨p', us, e, s2, r2⟩ := rp2.tup_
    cases e
    refine ⟨fun hi => ?_, fun hi => ⟨us, s2, by rw [r2.length]; exact hi⟩, fun x H3 d ed y => ?_⟩
    · obtain ⟨u, eu, _⟩ := r2.get (List.getElem?_eq_getElem hi)
      exact ⟨us, u, s2, eu⟩
    · obtain ⟨rfl, y⟩ := y
      obtain ⟨d', e1, e2⟩ := r2.getV (y us s2)
      rw [ed] at e1
      cases e1
      exact ⟨Same.refl _, e2⟩
  | .bl xs, r1, q =>
    obtain ⟨p, vs, rfl, sq, ra⟩ := r1.seq a.bs rfl
    refine ⟨p, rfl, .inl ⟨⟨_, sqLA_sq sq⟩, k (Itl K p) H1 xs f1 i1 (fun A' H2 i b2 g2 f2 => ?_) q⟩⟩
    have s2 := sqLA_sq (sqB_fr f2 sq)
    have r2 := (ra.go g2).go (goes_fr b2.ba f2)
    refine ⟨fun hi => ?_, fun hi => ⟨vs, s2, by rw [r2.length]; exact hi⟩, fun x H3 d ed y => ?_⟩
    · obtain ⟨u, eu, _⟩ := r2.get (List.getElem?_eq_getElem hi)
      exact ⟨vs, u, s2, eu⟩
    · obtain ⟨rfl, y⟩ := y
      obtain ⟨d', e1, e2⟩ := r2.getV (y vs s2)
      rw [ed] at e1
      cases e1
      exact ⟨Same.refl _, e2⟩⟩
theorem dEi_c {fe : TD} {ρ : List Sl} {Ql : List PyData → Prop} {R : Er → Prop} : dEi fe ρ Ql R = fe ρ (eiK Ql) R := propext Iff.rfl
theorem eiK_t {Ql : List PyData → Prop} {xs : List PyData} : eiK Ql (.d (.tuple xs)) = Ql xs := propext Iff.rfl
theorem eiK_b {Ql : List PyData → Prop} {xs : List PyData} : eiK Ql (.bl xs) = Ql xs := propext Iff.rfl
end Dl

namespace Dl
open PySem PySem.Spec PyProof.Rows L2
/-! ### a, b = f(..), []: a new list that a call tells, and an empty one -/
def tParML (i j : Nat) (t : TE) : TS := tPar i j (tCons t (tCons (tLst tNil) tNil))
def dParML (i j : Nat) (f : TD) : TDS := fun dd R ρ => f ρ (fun s => ∃ xs, s = .ml xs ∧ dd.nx ((ρ.set i (.ml xs)).set j (.ml []))) R
section
variable {K : PySem.W.Frag} {τ : List (Addr × Str)} {E : XK}
instance {i j : Nat} {t : TE} {f : TD} [ht : RefE K τ E t f] : RefS K τ E (tParML i j t) (dParML i j f) := ⟨fun W A0 H0 D dd R H σ ρ gσ gρ b sr er ek h => by
  obtain ⟨W', A, c⟩ := sr
  refine ht.go W' A H σ ρ _ R _ (c.at_ ek) h fun v H1 s f1 i1 r1 q => ?_
  obtain ⟨xs, rfl, q⟩ := q
  obtain ⟨p1, vs, rfl, n1, e1, rp⟩ := r1
  refine ⟨Nat.zero_le _, fun p n => ?_⟩
  have nB : ¬ W'.B p1 := c.bs.nB n1
  have c4 := c.own (i := i) (s := .ml xs) f1 i1 n1 ⟨p1, vs, rfl, e1, nB, .inr rfl, rp⟩ trivial
  have f3 : Fr W'.B H1 (upd H1 p (.lst [])) := Fr.new n
  have i3 := W'.stay _ _ (same_new (o := .lst []) n) i1
  have c5 := c4.own (i := j) (s := .ml []) f3 i3 (nob n) ⟨p, [], rfl, upd_same, c4.bs.nB (nob n), .inr rfl, .nil⟩ trivial
  exact ⟨_, _, rfl, er.nx _ _ _ ⟨W', _, c5⟩ q⟩⟩
theorem dParML_c {i j : Nat} {f : TD} {dd : DEnds} {R : Er → Prop} {ρ : List Sl} : dParML i j f dd R ρ = f ρ (fun s => ∃ xs, s = .ml xs ∧ dd.nx ((ρ.set i (.ml xs)).set j (.ml []))) R := propext Iff.rfl
end
end Dl

set_option maxHeartbeats 1000000
namespace Dl
open PySem PySem.Spec PyProof.Rows L2 LamX
/-! ### zip of a tuple and a list -/
def ItzN (K : PySem.W.Frag) (a b : Addr) : It where
  go := fun i H => ∃ (xs ys : List V) (x y : V), SqT K H a xs ∧ SqL K H b ys ∧ xs[i]? = some x ∧ ys[i]? = some y
  yld := fun i H v H' => ∃ T x y, v = .ref T ∧ H T = none ∧ H' = upd H T (.tup [x, y]) ∧ (∀ xs, SqT K H a xs → xs[i]? = some x) ∧ ∀ ys, SqL K H b ys → ys[i]? = some y
  stop := fun i H => ∃ xs ys : List V, SqT K H a xs ∧ SqL K H b ys ∧ (xs.length ≤ i ∨ ys.length ≤ i)
theorem turn_mixN {P : Program} {w : World} {K : PySem.W.Frag} {elts : List Expr} {kk : Nat} {tpos : Pos} {a b z TI TO i1 i2 : Addr} (D : ZipApart z TI TO i1 i2 a b) :
    Turn P w K (.Tuple elts kk tpos) (ItzN K a b) [z, TI, TO, i1, i2] z (fun i h => IsZip h z TI TO .none ∧ IsTupOf2 h TI (.ref i1) (.ref i2) ∧ (∃ x y, IsTupOf2 h TO x y) ∧ h.IsTupleIter i1 a i ∧ h.IsListIter i2 b i) where
  mem := by simp
  obj := fun i h st c hc => by
    obtain ⟨hz, hTI, ⟨x, y, hTO⟩, ⟨o1, e1, _, d1⟩, ⟨o2, e2, _, d2⟩⟩ := st
    simp only [List.mem_cons, List.not_mem_nil, or_false] at hc
    rcases hc with rfl | rfl | rfl | rfl | rfl
    · exact ⟨_, hz, fun v q => by cases q⟩
    · exact ⟨_, hTI, fun v q => by cases q⟩
    · exact ⟨_, hTO, fun v q => by cases q⟩
    · exact ⟨o1, e1, fun v q => by rw [d1] at q; cases q⟩
    · exact ⟨o2, e2, fun v q => by rw [d2] at q; cases q⟩
  keep := fun i h h' st k => by
    obtain ⟨hz, hTI, ⟨x, y, hTO⟩, h1, h2⟩ := st
    exact ⟨k _ (by simp) _ hz, k _ (by simp) _ hTI, ⟨x, y, k _ (by simp) _ hTO⟩, h1.at fun o q => k _ (by simp) o q, h2.at fun o q => k _ (by simp) o q⟩
  item := by
    rintro X rfl rfl rfl hc i pins s σ H E I hf ⟨hz, hTI, ⟨x0, y0, hTO⟩, h1, h2⟩ ⟨xs, ys, x, y, hqx, hqy, hx, hy⟩
    obtain ⟨its, rv, p, _⟩ := I.tuple hqx
    obtain ⟨its2, rv2, p2, _⟩ := I.list hqy
    obtain ⟨u, hu, ru⟩ := rv.get hx
    obtain ⟨u2, hu2, ru2⟩ := rv2.get hy
    have hd : X.A.in1.handled = none := I.ok.hd hc
    have hzl : z < s.heap.objs.size := Heap.lt_size hz
    have b1 : i < its.toArray.size := by have := (List.getElem?_eq_some_iff.mp hu).1; simpa using this
    have b2 : i < its2.toArray.size := by have := (List.getElem?_eq_some_iff.mp hu2).1; simpa using this
    refine wpAny_pyNext_zipD2_item (sep_mix D) (Draws.tuple (prog := X.prog) (w := X.w) hd i1 a D.l1i1 its.toArray) (Draws.list (prog := X.prog) (w := X.w) hd i2 b D.l2i2 its2.toArray) hz hTI hTO ⟨h1, p⟩ ⟨h2, p2.isList⟩ b1 b2 fun w1 w2 h' tk e1 e2 z' TO' s1' s2' hT hsz hk => ?_
    obtain rfl : w1 = u := by
      have : its.toArray[i]? = some u := by simpa using hu
      rw [this] at e1
      exact (Option.some.inj e1).symm
    obtain rfl : w2 = u2 := by
      have : its2.toArray[i]? = some u2 := by simpa using hu2
      rw [this] at e2
      exact (Option.some.inj e2).symm
    refine ⟨_, rfl, wpAny_letOwnedTupleGo_zip (s := { s with heap := h', toks := tk }) z' fun h'' z'' sb => ?_⟩
    have hT2 : h''.get? s.heap.objs.size = some { cls := .type "tuple", data := .seq #[w1, w2] } := (sb.2 _ (Nat.ne_of_gt hzl)).trans hT
    have new : ObjOk X.prog X.w (upd H s.heap.objs.size (.tup [x, y])) h'' s.heap.objs.size (.tup [x, y]) := ⟨by show 2 ≤ sizeLine; decide, [w1, w2], Paired.cons ru (Paired.cons ru2 .nil), ⟨_, hT2, rfl, _, rfl⟩⟩
    have stays : ∀ c o, c ∉ [z, TI, TO, i1, i2] → s.heap.get? c = some o → h''.get? c = some o := fun c o hn q => by
      simp only [List.mem_cons, List.not_mem_nil, or_false, not_or] at hn
      obtain ⟨n1, n2, n3, n4, n5⟩ := hn
      exact (sb.2 c n1).trans (hk c o n1 n3 n4 n5 q)
    have I1 := I.turnedNew (t' := tk) (ch := [z, TI, TO, i1, i2]) stays hf (Nat.le_refl _) new
    refine ⟨.ref s.heap.objs.size, _, I1, rfl, ⟨_, x, y, rfl, I.hok.fresh (Nat.le_refl _), rfl, (fun l hl => by rw [I.tuple_inj hl hqx]; exact hx), (fun l hl => by rw [I.list_inj hl hqy]; exact hy)⟩, ⟨z'', ?_, ⟨w1, w2, ?_⟩, ?_, ?_⟩, fun c hcm => ?_⟩
    · exact (sb.2 _ D.TIz).trans (hk _ _ D.TIz D.TITO D.TIi1 D.TIi2 hTI)
    · exact (sb.2 _ D.TOz).trans TO'
    · exact s1'.1.at fun o q => (sb.2 _ D.i1z).trans q
    · exact s2'.1.at fun o q => (sb.2 _ D.i2z).trans q
    · have hlt : c < s.heap.objs.size := by
        simp only [List.mem_cons, List.not_mem_nil, or_false] at hcm
        rcases hcm with rfl | rfl | rfl | rfl | rfl
        · exact hzl
        · exact Heap.lt_size hTI
        · exact Heap.lt_size hTO
        · obtain ⟨_, e1, _⟩ := h1; exact Heap.lt_size e1
        · obtain ⟨_, e2, _⟩ := h2; exact Heap.lt_size e2
      rw [upd_ne (Nat.ne_of_lt hlt)]
      exact (hf c hcm).1
  done := by
    rintro X rfl rfl rfl hc i pins s σ H E I hf ⟨hz, hTI, ⟨x0, y0, hTO⟩, h1, h2⟩ ⟨xs, ys, hqx, hqy, hend⟩
    obtain ⟨its, rv, p, _⟩ := I.tuple hqx
    obtain ⟨its2, rv2, p2, _⟩ := I.list hqy
    have hd : X.A.in1.handled = none := I.ok.hd hc
    have l1 := rv.length
    have l2 := rv2.length
    have m1 : its.toArray.size = its.length := by simp
    have m2 : its2.toArray.size = its2.length := by simp
    have fin : ∀ (h' : Heap) (tk : Nat), (∀ c o, c ≠ z → c ≠ TO → c ≠ i1 → c ≠ i2 → s.heap.get? c = some o → h'.get? c = some o) → (none : Option Value) = none ∧ Inv X pins σ H { s with heap := h', toks := tk } := fun h' tk hk => ⟨rfl, I.turnedL (t' := tk) (ch := [z, TI, TO, i1, i2]) (fun c o hb q => by
      simp only [List.mem_cons, List.not_mem_nil, or_false, not_or] at hb
      exact hk c o hb.1 hb.2.2.1 hb.2.2.2.1 hb.2.2.2.2 q) hf⟩
    by_cases k1 : its.toArray.size ≤ i
    · have E1 := ended_tuple (prog := X.prog) (w := X.w) hd i1 a D.l1i1 its.toArray i k1
      by_cases k2 : its2.toArray.size ≤ i
      · exact wpAny_pyNext_zipD2_end (sep_mix D) E1 (ended_list (prog := X.prog) (w := X.w) hd i2 b D.l2i2 its2.toArray i k2) hz hTI hTO ⟨rfl, h1, p⟩ ⟨rfl, h2, p2.isList⟩ (Nat.le_refl _) (Nat.le_refl _) (.inl rfl) fin
      · exact wpAny_pyNext_zipD2_end (sep_mix D) E1 (Draws.list (prog := X.prog) (w := X.w) hd i2 b D.l2i2 its2.toArray) hz hTI hTO ⟨rfl, h1, p⟩ ⟨h2, p2.isList⟩ (Nat.le_refl _) (by omega) (.inl rfl) fin
    · have k2 : its2.toArray.size ≤ i := by omega
      exact wpAny_pyNext_zipD2_end (sep_mix D) (Draws.tuple (prog := X.prog) (w := X.w) hd i1 a D.l1i1 its.toArray) (ended_list (prog := X.prog) (w := X.w) hd i2 b D.l2i2 its2.toArray i k2) hz hTI hTO ⟨h1, p⟩ ⟨rfl, h2, p2.isList⟩ (by omega) (Nat.le_refl _) (.inr rfl) fin
  self := fun A i s Q E st h => wpAny_pyIter_zip st.1 h
def iZipN (K : PySem.W.Frag) (ta : TA) : TI := fun σ H R => ta σ H fun vs H1 => ∃ a b xs ys, vs = [.ref a, .ref b] ∧ SqT K H1 a xs ∧ SqL K H1 b ys ∧ R (ItzN K a b) H1
theorem pi_zipN {X : Cx} {K : PySem.W.Frag} {e e2 : Expr} {ta : TA} {p pos tpos : Pos} {elts : List Expr} {kk : Nat} (hK : X.K = K) (hg : Gl X "zip") (hm : X.mg "zip" = none) (ha : PA X [e, e2] ta)
    (hs : starEach [e, e2] X.env = (false, eval e X.env) :: starEach [e2] X.env := by rfl) (hpl : (backTo pos (starEach [e2] X.env)).any (·.1) = false := by rfl) :
    PI X (.Tuple elts kk tpos) (.Call (.Name "zip" p) [e, e2] [] pos) (iZipN K ta) := by
  subst hK
  refine ⟨fun pins s σ H R I h => ?_⟩
  refine Call_ (ld_blt I hg hm PyProof.Rows.boot_zip (PyProof.Rows.callWith_type1 (thn (ha.run pos pins s σ H _ I h) fun us s1 ⟨vs, H1, I1, r1, q1⟩ => ?_) hs hpl))
  obtain ⟨a, b, xs, ys, ex, hqx, hqy, q⟩ := q1
  subst ex
  cases r1 with
  | cons r rr =>
    cases rr with
    | cons r' rr =>
      cases rr
      cases r
      cases r'
      obtain ⟨its, rv, p1, _⟩ := I1.tuple hqx
      obtain ⟨its2, rv2, p2, _⟩ := I1.list hqy
      obtain ⟨o1, ho1, _⟩ := id p1
      refine zip_begins2 (begins_tuple a its.toArray) (begins_list b its2.toArray) p1 p2.isList fun h' hz hTI hTO g1 g2 hsz hk => wpAny_pyIter_zip hz ?_
      have I2 : Inv X pins σ H1 { s1 with heap := h' } := I1.kept (t' := s1.toks) hk
      refine ⟨s1.heap.objs.size + 4, [s1.heap.objs.size + 4, s1.heap.objs.size + 2, s1.heap.objs.size + 3, s1.heap.objs.size, s1.heap.objs.size + 1], _, _, H1, rfl, I2, turn_mixN (PySem.W.ktu_apart s1.heap.objs.size a b (Heap.lt_size ho1) p2.lt), ⟨hz, hTI, ⟨_, _, hTO⟩, ⟨_, g1, rfl, rfl⟩, ⟨_, g2, rfl, rfl⟩⟩, fun c hcm => ?_, q⟩
      have hle : s1.heap.objs.size ≤ c := by
        simp only [List.mem_cons, List.not_mem_nil, or_false] at hcm
        rcases hcm with rfl | rfl | rfl | rfl | rfl
        · exact Nat.le_add_right _ _
        · exact Nat.le_add_right _ _
        · exact Nat.le_add_right _ _
        · exact Nat.le_refl _
        · exact Nat.le_add_right _ _
      exact I1.fpOk hle (I1.hok.fresh hle)
section
variable {K : PySem.W.Frag} {τ : List (Addr × Str)} {E : XK}
def zpN (Ql : List PyData → Prop) : List Sl → Prop := fun ss => match ss with
  | [s, u] => (match s.dat, u.dat with
    | some (.tuple xs), some (.list ys) => Ql (zipD xs ys)
    | _, _ => False)
  | _ => False
def iZpN (fa : TDA) : TDI := fun ρ Qd R => fa ρ (zpN Qd) R
instance {t : TA} {f : TDA} [ht : RefA K τ E t f] : RefI K τ E (iZipN K t) (iZpN f) := ⟨fun W A H σ ρ Qd R P a h k => by
  refine ht.go W A H σ ρ _ R _ a h fun vs H1 ss f1 i1 r1 q => ?_
  unfold zpN at q
  split at q
  · obtain ⟨v, w, rfl, r, r'⟩ := vlsr2 r1
    split at q
    · rename_i xs ys ex ey
      have rp := r.dat a.bs ex
      have rp' := r'.dat a.bs ey
      obtain ⟨p, us, rfl, sq, ra⟩ := rp.tup_
      obtain ⟨p', us', rfl, sq', ra'⟩ := rp'.lst_
      refine ⟨p, p', _, _, rfl, sq, sq', k (ItzN K p p') H1 [some (.ref p), some (.ref p')] [.d (.tuple xs), .d (.list ys)] (zipD xs ys) f1 i1 (gh2 rp rp') ⟨fun W A H i b g hi => ?_, fun W A H i b g hi => ?_, fun W A H i x H' d b g ed y => ?_⟩ q⟩
      all_goals
        obtain ⟨g1, g2⟩ := g.two
        obtain ⟨a1, us, e, s2, r2⟩ := g1.tup_
        cases e
        obtain ⟨a2, us', e, s3, r3⟩ := g2.lst_
        cases e
      · rw [zipD_len] at hi
        obtain ⟨u, eu, _⟩ := r2.get (List.getElem?_eq_getElem (show i < xs.length by omega))
        obtain ⟨u', eu', _⟩ := r3.get (List.getElem?_eq_getElem (show i < ys.length by omega))
        exact ⟨us, us', u, u', s2, s3, eu, eu'⟩
      · rw [zipD_len] at hi
        refine ⟨us, us', s2, s3, ?_⟩
        rw [r2.length, r3.length]
        omega
      · obtain ⟨T, u, u', rfl, nT, rfl, hx, hy⟩ := y
        obtain ⟨x', y', ex', ey', rfl⟩ := zipD_get ed
        obtain ⟨d1, e1, q1⟩ := r2.getV (hx us s2)
        obtain ⟨d2, e2, q2⟩ := r3.getV (hy us' s3)
        rw [ex'] at e1
        rw [ey'] at e2
        cases e1
        cases e2
        exact rp_pair b nT q1 q2
    · exact q.elim
  · exact q.elim⟩
theorem iZpN_c {fa : TDA} {ρ : List Sl} {Ql : List PyData → Prop} {R : Er → Prop} : iZpN fa ρ Ql R = fa ρ (zpN Ql) R := propext Iff.rfl
theorem zpN_tl {Ql : List PyData → Prop} {xs ys : List PyData} : zpN Ql [.d (.tuple xs), .d (.list ys)] = Ql (zipD xs ys) := propext Iff.rfl
end
end Dl

namespace Dl
open PySem PySem.Spec PyProof.Rows L2
/-! ### repr of what holds a list beside a dict: the dict of the modules is known -/
def modsIn (K : PySem.W.Frag) : Bool := match K.lookup sysModules with
  | some ⟨_, _, .dict _ _, _⟩ => true
  | _ => false
theorem mods_ne {K : PySem.W.Frag} {h : Heap} (hm : modsIn K = true) (kin : K.In h) {a : Addr} {o : Obj} {es : Array Value} {n : Nat} (ho : h.get? a = some o) (hd : o.data = .seq es n) : sysModules ≠ a := fun e => by
  unfold modsIn at hm
  split at hm
  · rename_i q
    have := kin _ _ q
    rw [e, ho] at this
    cases this
    cases hd
  · cases hm
section
variable {X : Cx} {pins : List (Addr × Obj)} {σ : L2.St} {H : Hp} {s : Shared} {A : Addr → Prop}
mutual
theorem Rp.readsM (hm : modsIn X.K = true) (I : Inv X pins σ H s) : ∀ {v : V} {d : PyData} {u : Value}, Rp X.K A H v d → RelV v u → ∃ as, PySem.Reads s.heap u d as ∧ sysModules ∉ as
  | _, _, _, .non, r => by
    cases r
    exact ⟨_, .none, fun h => nomatch h⟩
  | _, _, _, .bl b, r => by
    cases r
    exact ⟨_, .bool b, fun h => nomatch h⟩
  | _, _, _, .int i, r => by
    obtain ⟨t, rfl⟩ := r
    exact ⟨_, .int i t, fun h => nomatch h⟩
  | _, _, _, .str x, r => by
    obtain ⟨t, rfl⟩ := r
    exact ⟨_, .str x t, fun h => nomatch h⟩
  | _, _, _, .lst q ra, r => by
    cases r
    obtain ⟨its, rv, ⟨o, n, ho, hc, n2, hd⟩, _⟩ := I.list (sqLA_sq q)
    obtain ⟨as, hr, hn⟩ := RpAll.readsM hm I ra rv
    refine ⟨_, .list ho hc hd hr, fun z => ?_⟩
    rcases List.mem_cons.mp z with z | z
    · exact mods_ne hm I.kIn ho hd z
    · exact hn z
  | _, _, _, .tup q ra, r => by
    cases r
    obtain ⟨its, rv, ⟨o, ho, hc, n, hd⟩, _⟩ := I.tuple (sqTA_sq q)
    obtain ⟨as, hr, hn⟩ := RpAll.readsM hm I ra rv
    exact ⟨_, .tuple ho hc hd hr, hn⟩
  | _, _, _, .dct (a := a) (kvs := kvs) (ds := ds) e na ra, r => by
    cases r
    obtain ⟨_, hs, vs, kv, o, es, ep, ho, hx, hd, _, hp, _⟩ := I.hok a _ e
    obtain ⟨k1, k2⟩ := kv_split kv
    have hl : (kvs.map fun p => keyD p.1).length = ds.length := by
      rw [← ra.length, List.length_map, List.length_map]
    obtain ⟨z1, z2⟩ := zip_fst hl
    obtain ⟨bs, hr, hn⟩ := RpAll.readsM hm I ra k2
    have := PySem.Reads.dict (h := s.heap) (a := a) (kvs := (kvs.map fun p => keyD p.1).zip ds) ho hx.1 hd (by rw [z1, k1]; exact keys_read hp) (by rw [z2, vals_of hp]; exact hr)
    refine ⟨_, this, fun hq => ?_⟩
    rcases List.mem_append.mp hq with hq | hq
    · exact (beq_eq_false_iff_ne.mp hs) (List.mem_singleton.mp hq).symm
    · exact hn hq
theorem RpAll.readsM (hm : modsIn X.K = true) (I : Inv X pins σ H s) : ∀ {vs : List V} {ds : List PyData} {us : List Value}, RpAll X.K A H vs ds → Vals vs us → ∃ as, PySem.ReadsAll s.heap us ds as ∧ sysModules ∉ as
  | _, _, _, .nil, r => by
    cases r
    exact ⟨_, .nil, fun h => nomatch h⟩
  | _, _, _, .cons h t, r => by
    cases r with
    | cons r1 r2 =>
      obtain ⟨as, q1, n1⟩ := Rp.readsM hm I h r1
      obtain ⟨bs, q2, n2⟩ := RpAll.readsM hm I t r2
      refine ⟨_, .cons q1 q2, fun z => ?_⟩
      rcases List.mem_append.mp z with z | z
      · exact n1 z
      · exact n2 z
end
end
def rReprM (K : PySem.W.Frag) : List V → Hp → VK → Prop := fun xs H Q => ∃ x d A, xs = [x] ∧ Rp K A H x d ∧ Sh d 10000000 50 ∧ Q (.str d.shown) H
theorem call_reprM {X : Cx} (hm : modsIn X.K = true) (hg : X.A.guards = some []) (hu : X.A.units + 64 < cLine) : CallR X (.builtin "repr") (rReprM X.K) := by
  intro pins s σ H xs us Q I r h
  obtain ⟨x, d, A, rfl, hd, sh, q⟩ := h
  cases ok : okR d with
  | true => exact call_reprG hg hu pins s σ H _ us Q I r ⟨x, d, A, rfl, hd, sh, ok, q⟩
  | false =>
    have fits : d.shown.length ≤ sizeLine := Nat.le_trans sh.l (by decide)
    have hk := sh.k
    cases r with
    | cons r1 r2 =>
      cases r2
      have go : ∀ {a : Addr}, x = .ref a → wpAny (model X.prog X.w) X.A (call (.builtin "repr") [.ref a]) (EP X pins σ Q) X.xe s := fun {a} ex => by
        subst ex
        obtain ⟨as, rd, hn⟩ := Rp.readsM (u := .ref a) hm I hd rfl
        exact repr_of_reads' rd sh.s (fun _ => hn) hg (by omega) (fun _ _ e => e) (fun h' u tk kept => ⟨.str d.shown, H, I.kept (t' := tk) kept, ⟨u, rfl⟩, q⟩) fits
      cases hd with
      | lst _ _ =>
        cases r1
        exact go rfl
      | tup _ _ =>
        cases r1
        exact go rfl
      | dct _ _ _ =>
        cases r1
        exact go rfl
      | _ => cases ok
theorem call_reprN {K : PySem.W.Frag} {X : Cx} (h : X.K = K) (hm : modsIn K = true) (hg : X.A.guards = some []) (hu : X.A.units + 64 < cLine) : CallR X (.builtin "repr") (rReprM K) := by
  subst h
  exact call_reprM hm hg hu
def fReprM : List Sl → (Sl → Prop) → Prop := fun ss Qd => match ss with
  | [s] => (match s.rd with
    | some d => Sh d 10000000 50 ∧ Qd (.d (.str d.shown))
    | none => False)
  | _ => False
instance {K : PySem.W.Frag} : RefC K (rReprM K) fReprM := ⟨fun W A H0 H xs ss Qd Q b f i rx h w => by
  unfold fReprM at h
  split at h
  · obtain ⟨v, rfl, r⟩ := vlsr1 rx
    split at h
    · rename_i d ed
      obtain ⟨A', r'⟩ := r.rd b ed
      exact ⟨v, d, A', rfl, r', h.1, w.here i _ h.2⟩
    · exact h.elim
  · exact h.elim⟩
section
variable {Qd : Sl → Prop} {d : PyData} {xs : List PyData}
theorem fReprM_c : fReprM [.d d] Qd = (Sh d 10000000 50 ∧ Qd (.d (.str d.shown))) := propext Iff.rfl
theorem fReprM_b : fReprM [.bl xs] Qd = (Sh (.list xs) 10000000 50 ∧ Qd (.d (.str (PyData.list xs).shown))) := propext Iff.rfl
theorem fReprM_m : fReprM [.ml xs] Qd = (Sh (.list xs) 10000000 50 ∧ Qd (.d (.str (PyData.list xs).shown))) := propext Iff.rfl
end
end Dl

namespace Dl
open PySem PySem.Spec PyProof.Rows L2
/-! ### the empty tuple of a default: it is passed on raw -/
section
variable {K : PySem.W.Frag} {τ : List (Addr × Str)} {E : XK} {a : Addr}
theorem ctup_sq (h : CTup K a []) (H : Hp) : SqT K H a [] := by
  obtain ⟨vs, sq, r⟩ := h.sq
  have r0 := r (fun _ => False) (fun _ => none)
  cases r0
  rcases sq with (z | ⟨o, z⟩) | z
  · cases z
  · cases z
  · exact .inr z
theorem sqt_tyC {xs : List V} {H : Hp} (h : SqT K H a xs) : TyX K H (.ref a) (.type "tuple") := by
  rcases h with (h | ⟨o, h⟩) | ⟨o, its, n, h, c, _⟩
  · exact .base (.tup h)
  · exact .fTuple h
  · exact .kTuple h c
instance [h : CTup K a []] : RefV K (.ref a) (.raw (.ref a)) := ⟨fun _ _ _ _ => rfl⟩
/-- x not in () -/
def rNinC (a : Addr) : R2 := fun x y H Q => y = .ref a ∧ flatV x = true ∧ Q (.bl true) H
theorem op_ninC {X : Cx} (h : CTup K a []) (e : X.K = K) : OpR X (compareOp .NotIn) (rNinC a) := by
  intro pins s σ H x y v u Q I r1 r2 hq
  obtain ⟨e1, e2, q⟩ := hq
  exact op_notInK (K := K) e pins s σ H x y v u Q I r1 r2 ⟨a, [], e1, .inr (ctup_sq h H), e2, rfl, q⟩
def fNinC (a : Addr) : Sl → Sl → (Sl → Prop) → Prop := fun s u Qd => u = .raw (.ref a) ∧ (∃ v, s.dat.bind dflat = some v) ∧ Qd (.d (.bool true))
instance : Ref2 K (rNinC a) (fNinC a) := ⟨fun W A H0 H x y s u Qd Q b f i rx ry h w => by
  obtain ⟨rfl, ⟨v, ev⟩, q⟩ := h
  obtain ⟨d, e1, e2⟩ := Option.bind_eq_some_iff.mp ev
  obtain ⟨rfl, a1⟩ := rp_flat (rx.dat b e1) e2
  exact ⟨ry, a1, w.here i _ q⟩⟩
theorem fNinC_i {i : Int} {Qd : Sl → Prop} : fNinC a (.d (.int i)) (.raw (.ref a)) Qd = Qd (.d (.bool true)) := propext ⟨fun h => h.2.2, fun h => ⟨rfl, ⟨.int i, rfl⟩, h⟩⟩
/-- isinstance((), tuple) -/
def rIsiE (_a : Addr) (K : PySem.W.Frag) : List V → Hp → VK → Prop := rIsi K
theorem call_isiE {X : Cx} (h : X.K = K) : CallR X (.builtin "isinstance") (rIsiE a K) := h ▸ call_isi
def fIsiE (a : Addr) : List Sl → (Sl → Prop) → Prop := fun ss Qd => ss = [.raw (.ref a), .raw (.ty "tuple")] ∧ Qd (.d (.bool true))
instance [hc : CTup K a []] : RefC K (rIsiE a K) (fIsiE a) := ⟨fun W A H0 H xs ss Qd Q b f i rx h w => by
  obtain ⟨rfl, q⟩ := h
  obtain ⟨v, u, rfl, r, r'⟩ := vlsr2 rx
  obtain rfl := r'.flat (u := .ty "tuple") rfl
  have e : v = .ref a := r
  subst e
  exact ⟨.ref a, _, _, _, _, rfl, .ty "tuple", sqt_tyC (ctup_sq hc H), isi_kit (.tuple []) (.inr (.inr (.inl rfl))), w.here i _ q⟩⟩
/-- for x in () -/
def iTupC (_a : Addr) (w : TI) : TI := w
theorem pi_tupC {X : Cx} {tg e : Expr} {te : TE} (h : X.K = K) (he : PE X e te) : PI X tg e (iTupC a (iTup K te)) := h ▸ pi_tup he
def iTpC (a : Addr) (fe : TD) : TDI := fun ρ Qd R => fe ρ (fun s => s = .raw (.ref a) ∧ Qd []) R
instance {t : TE} {f : TD} [hc : CTup K a []] [ht : RefE K τ E t f] : RefI K τ E (iTupC a (iTup K t)) (iTpC a f) := ⟨fun W A H σ ρ Qd R P ha h k => by
  refine ht.go W A H σ ρ _ R _ ha h fun v H1 s f1 i1 r1 q => ?_
  obtain ⟨rfl, q⟩ := q
  have e : v = .ref a := r1
  subst e
  exact ⟨a, rfl, ⟨[], ctup_sq hc H1⟩, k (Itt K a) H1 [] [] [] f1 i1 ghNil ⟨fun W A H i b g hi => absurd hi (Nat.not_lt_zero _), fun W A H i b g hi => ⟨[], ctup_sq hc H, hi⟩, fun W A H i x H' d b g ed y => by cases ed⟩ q⟩⟩
/-- zip of () and its rest -/
def iZipC (_a : Addr) (w : TI) : TI := w
theorem pi_zipC {X : Cx} {e e2 : Expr} {ta : TA} {p pos tpos : Pos} {elts : List Expr} {kk : Nat} (h : X.K = K) (hg : Gl X "zip") (hm : X.mg "zip" = none) (ha : PA X [e, e2] ta)
    (hs : starEach [e, e2] X.env = (false, eval e X.env) :: starEach [e2] X.env := by rfl) (hpl : (backTo pos (starEach [e2] X.env)).any (·.1) = false := by rfl) :
    PI X (.Tuple elts kk tpos) (.Call (.Name "zip" p) [e, e2] [] pos) (iZipC a (RZ.iZipA K ta)) := h ▸ RZ.pi_zipA hg hm ha hs hpl
def iZpC (a : Addr) (i : Nat) : TDI := fun ρ Qd _ => ρ[i]? = some (.raw (.ref a)) ∧ Qd []
instance {i : Nat} [hc : CTup K a []] : RefI K τ E (iZipC a (RZ.iZipA K (tCons (tVar i) (tCons (tSl (rSlX K) (tVar i) (tPart (tC (.int 1))) tNoPart) tNil)))) (iZpC a i) := ⟨fun W A H σ ρ Qd R P ha h k => by
  obtain ⟨e, q⟩ := h
  obtain ⟨v, ev, rv⟩ := ha.env.at_ i _ e
  have e1 : v = some (.ref a) := rv
  subst e1
  have sq := ctup_sq hc H
  refine ⟨.ref a, ev, .ref a, ev, 1, rfl, .inl ⟨a, [], rfl, sq, fun hw => ?_, fun hw => absurd ⟨rfl, rfl⟩ hw⟩⟩
  show ∃ x y xs ys, ([V.ref a, V.ref a] : List V) = [.ref x, .ref y] ∧ ((SqL K H x xs ∧ SqL K H y ys ∧ P (Itz K x y) H) ∨ (SqT K H x xs ∧ SqT K H y ys ∧ P (RZ.ItzT K x y) H))
  exact ⟨a, a, [], [], rfl, .inr ⟨sq, sq, k (RZ.ItzT K a a) H [] [] [] (Fr.refl H) ha.bs.inv ghNil ⟨fun W A H i b g hi => absurd hi (Nat.not_lt_zero _), fun W A H i b g hi => ⟨[], [], ctup_sq hc H, ctup_sq hc H, .inl hi⟩, fun W A H i x H' d b g ed y => by cases ed⟩ q⟩⟩⟩
theorem fIsiE_c {Qd : Sl → Prop} : fIsiE a [.raw (.ref a), .raw (.ty "tuple")] Qd = Qd (.d (.bool true)) := propext ⟨fun h => h.2, fun h => ⟨rfl, h⟩⟩
theorem iTpC_c {fe : TD} {ρ : List Sl} {Qd : List PyData → Prop} {R : Er → Prop} : iTpC a fe ρ Qd R = fe ρ (fun s => s = .raw (.ref a) ∧ Qd []) R := propext Iff.rfl
end
end Dl

namespace Dl
open PySem PySem.Spec PyProof.Rows L2
/-! ### a, b = x, y, both read as data from here on -/
section
variable {K : PySem.W.Frag} {τ : List (Addr × Str)} {E : XK}
def tParDD (i j : Nat) (t : TA) : TS := tPar i j t
theorem ps_dd {X : Cx} {st : Stmt} {i j : Nat} {t : TA} (h : PS X st (tPar i j t)) : PS X st (tParDD i j t) := h
def dParDD (i j : Nat) (fa : TDA) : TDS := fun dd R ρ => fa ρ (fun ss => ∃ s u x y, ss = [s, u] ∧ s.dat = some x ∧ u.dat = some y ∧ dd.nx ((ρ.set i (.d x)).set j (.d y))) R
instance {i j : Nat} {t : TA} {fa : TDA} [ha : RefA K τ E t fa] : RefS K τ E (tParDD i j t) (dParDD i j fa) := ⟨fun W A0 H0 D dd R H σ ρ gσ gρ b sr er ek h => by
  obtain ⟨W', A, c⟩ := sr
  refine ha.go W' A H σ ρ _ R _ (c.at_ ek) h fun vs H1 ss f1 i1 r1 q => ?_
  obtain ⟨s, u, x, y, rfl, ex, ey, q⟩ := q
  obtain ⟨va, vb, rfl, ra, rb⟩ := vlsr2 r1
  have c1 := c.step f1 i1
  have c2 := c1.set (i := i) (s := .d x) trivial ⟨va, rfl, ra.dat c.bs ex⟩
  have c3 := c2.set (i := j) (s := .d y) trivial ⟨vb, rfl, rb.dat c.bs ey⟩
  exact ⟨va, vb, rfl, er.nx H1 _ _ ⟨W', A, c3⟩ q⟩⟩
theorem dParDD_c {i j : Nat} {fa : TDA} {dd : DEnds} {R : Er → Prop} {ρ : List Sl} : dParDD i j fa dd R ρ = fa ρ (fun ss => ∃ s u x y, ss = [s, u] ∧ s.dat = some x ∧ u.dat = some y ∧ dd.nx ((ρ.set i (.d x)).set j (.d y))) R := propext Iff.rfl
end
end Dl

namespace Dl
open PySem PySem.Spec PyProof.Rows L2
section
variable {K : PySem.W.Frag} {τ : List (Addr × Str)} {E : XK}
/-! ### for x in d, d a dict of one's own with tuple keys, in a comprehension -/
def dKeysT (i : Nat) (fg : FG) (ft : TDT) (fe : TD) (vs : List Nat) : TD := fun ρ Qd _ => ∃ (kvs : List (List L2.Key × PyData)) (kk : List (List Int)), ρ[i]? = some (.mo (.dt kvs)) ∧ kvs.map (·.1) = kk.map keyT ∧ lcD fg ft fe (wipeD (ρ.set i .un) vs) (fun _ => False) (fun ys => Qd (.ml ys)) (kk.map tupI) []
set_option maxHeartbeats 1000000 in
instance {i : Nat} {g : TG} {tt : TT} {te : TE} {vs sl : List Nat} {fg : FG} {ft : TDT} {fe : TD} [hg : RefG K g fg sl] [ht : RefT K τ E tt ft] [he : RefE K τ E te fe] [inc : Inc sl vs] : RefE K τ E (tLockE (tLc (iKeys (tVar i)) g tt te vs)) (dKeysT i fg ft fe vs) := ⟨fun W A H σ ρ Qd R Q a h w => by
  obtain ⟨kvs, kk, e, ekk, q⟩ := h
  obtain ⟨v, ev, p, ho, rfl, ep, nB, aP, od⟩ := a.env.at_ _ _ e
  cases ho with
  | dT ks =>
    refine ⟨p, .dT ks, ep, trivial, fun od' => ?_⟩
    have hk : ks.length = kvs.length := by
      have := congrArg List.length od.1
      rwa [List.length_map, List.length_map] at this
    have gL : Goes A A H (upd H p (.frz od' (.dT ks))) := fun b o eb _ nb => ⟨(upd_ne fun (z : b = p) => nb (by rw [z]; exact aP)).trans eb, nb⟩
    have dis : ∀ (j : Nat) (q : Addr) (s : Sl), j ≠ i → ρ[j]? = some s → s.foot → σ[j]? = some (some (.ref q)) → q ≠ p := fun j q s nj ej k ev2 z => by
      subst z
      exact a.env.dis i j q _ s (Ne.symm nj) e trivial ej k ev ev2
    have zH : upd H p (.dT ks) = H := by
      funext b
      by_cases zb : b = p
      · subst zb
        rw [upd_same, ep]
      · rw [upd_ne zb]
    have inv : (lockW W p od' ks).I (upd H p (.frz od' (.dT ks))) := ⟨by rw [upd_upd, zH]; exact a.bs.inv, upd_same⟩
    have bs : Bs (lockW W p od' ks) A (upd H p (.frz od' (.dT ks))) := ⟨fun x z => z.elim (a.bs.ba x) fun z => z ▸ aP, fun x z => by
      by_cases zx : x = p
      · subst zx
        exact ⟨_, upd_same, fun _ q => nomatch q⟩
      · obtain ⟨o, e1, t1⟩ := a.bs.dom x z
        exact ⟨o, (upd_ne zx).trans e1, t1⟩, inv, fun x xs z e => by
      by_cases zx : x = p
      · rw [zx, upd_same] at e
        cases e
      · rw [upd_ne zx] at e
        exact a.bs.nt x xs z e⟩
    have env : EnvR K (lockW W p od' ks) A (upd H p (.frz od' (.dT ks))) σ (ρ.set i .un) := by
      refine ⟨by rw [List.length_set]; exact a.env.len, fun j s ej => ?_, fun j k q t s ne f1 f0 f2 f3 f4 f5 => ?_⟩
      · rcases get_set ej with ⟨rfl, rfl, _⟩ | ⟨nj, ej⟩
        · exact ⟨_, ev, trivial⟩
        · obtain ⟨u, eu, r⟩ := a.env.at_ j s ej
          refine ⟨u, eu, ?_⟩
          have far : s.foot → ∀ q' : Addr, u = some (.ref q') → q' ≠ p := fun k q' e1 => dis j q' s (Ne.symm nj) ej k (by rw [eu, e1])
          cases s with
          | un => exact r
          | d x =>
            obtain ⟨u', e1, r1⟩ := r
            exact ⟨u', e1, r1.go gL⟩
          | ml zs =>
            obtain ⟨q', ws, f1, f2, f3, f4, f5⟩ := r
            exact ⟨q', ws, f1, (upd_ne (far trivial q' f1)).trans f2, fun z => z.elim f3 (far trivial q' f1), f4, f5.go gL⟩
          | bl zs =>
            obtain ⟨q', ws, f1, f2, f3⟩ := r
            exact ⟨q', ws, f1, ⟨(upd_ne (far trivial q' f1)).trans f2.1, fun z => z.elim f2.2 (far trivial q' f1)⟩, f3.go gL⟩
          | st =>
            obtain ⟨z, f1, f2⟩ := r
            exact ⟨z, f1, f2.lock⟩
          | scr ns =>
            obtain ⟨x, f1, f2⟩ := r
            refine ⟨x, f1, fun G iG => ?_⟩
            rcases f2 _ iG.1 with (h | ⟨o, h⟩) | h
            · by_cases z : x = p
              · subst z
                rw [upd_same] at h
                cases h
              · rw [upd_ne z] at h
                exact .inl (.inl h)
            · by_cases z : x = p
              · subst z
                rw [upd_same] at h
                cases h
              · rw [upd_ne z] at h
                exact .inl (.inr ⟨o, h⟩)
            · exact .inr h
          | raw u => exact r
          | mo o =>
            obtain ⟨q', ws, f1, f2, f3, f4, f5⟩ := r
            exact ⟨q', ws, f1, (upd_ne (far trivial q' f1)).trans f2, fun z => z.elim f3 (far trivial q' f1), f4, f5.go gL⟩
          | bo o =>
            obtain ⟨q', ws, f1, f2, f3, f4⟩ := r
            exact ⟨q', ws, f1, (upd_ne (far trivial q' f1)).trans f2, fun z => z.elim f3 (far trivial q' f1), f4.go gL⟩
      · rcases get_set f1 with ⟨rfl, z, _⟩ | ⟨n1, f1⟩
        · rw [z] at f0
          exact f0.elim
        · rcases get_set f2 with ⟨rfl, z, _⟩ | ⟨n2, f2⟩
          · rw [z] at f3
            exact f3.elim
          · exact a.env.dis j k q t s ne f1 f0 f2 f3 f4 f5
    refine ⟨.ref p, ev, p, od', rfl, .inr ⟨ks, upd_same, ?_⟩⟩
    refine lc_body hg ht he inc (J := Itkt p od' ks) (Q := fun v H' => H' p = some (.frz od' (.dT ks)) ∧ Q v (upd H' p (.dT ks))) (W := lockW W p od' ks) (A := A) (ρ := ρ.set i .un) (R := fun _ => False) (Qd := Qd) (ds := kk.map tupI) ⟨bs, env, fun _ _ _ _ _ _ z => z.elim⟩ inv (fun A' H2 j b2 g2 f2 => ?_) q fun D H' ys f' i' r' q' => ?_
    · have fz := b2.inv.2
      have hkk : ks.length = kk.length := by
        have h1 := congrArg List.length od.1
        have h2 := congrArg List.length ekk
        rw [List.length_map, List.length_map] at h1 h2
        omega
      refine ⟨fun z => ⟨fz, by rw [List.length_map] at z; omega⟩, fun z => ⟨fz, by rw [List.length_map] at z; omega⟩, fun x H3 d ed y => ?_⟩
      obtain ⟨rfl, k, v, q', ek, rfl, hq⟩ := y
      refine ⟨fun _ _ z => z, ?_⟩
      have e1 : (ks.map (·.1))[j]? = (kk.map keyT)[j]? := by rw [od.1.trans ekk]
      rw [List.getElem?_map, ek, List.getElem?_map] at e1
      rw [List.getElem?_map] at ed
      cases ej : kk[j]? with
      | none =>
        rw [ej] at ed
        cases ed
      | some n =>
        rw [ej] at ed e1
        cases ed
        have e2 : k = keyT n := Option.some.inj e1
        rw [e2, keyT_v] at hq
        exact Rp.tup ⟨hq, fun ha => b2.nt q' _ ha hq⟩ (RpAll.of_ints n)
    · refine ⟨i'.2, ?_⟩
      obtain ⟨D', us, e1, n1, e2, r2⟩ := r'
      cases e1
      have nDp : D ≠ p := fun z => n1 (z ▸ ⟨_, upd_same, fun _ q => nomatch q⟩)
      refine w (.ref D) _ (.ml ys) ⟨fun c o ec t nc => ?_, fun c hc => ?_⟩ i'.1 ⟨D, us, rfl, fun z => ?_, (upd_ne nDp).trans e2, r2.go fun c o ec _ nc => ⟨(upd_ne fun z => nc (.inl (z ▸ aP))).trans ec, nc⟩⟩ q'
      · by_cases z : c = p
        · subst z
          rw [upd_same, ← ec, ep]
        · rw [upd_ne z]
          exact f'.1 c o ((upd_ne z).trans ec) t fun y => y.elim nc z
      · by_cases z : c = p
        · subst z
          exact ⟨_, upd_same, fun _ q => nomatch q⟩
        · obtain ⟨o, e1, t1⟩ := hc
          obtain ⟨o', e3, t3⟩ := f'.2 c ⟨o, (upd_ne z).trans e1, t1⟩
          exact ⟨o', (upd_ne z).trans e3, t3⟩
      · obtain ⟨o, e3, t3⟩ := z
        exact n1 ⟨o, (upd_ne nDp).trans e3, t3⟩
  | _ => exact od.elim⟩
theorem dKeysT_c {i : Nat} {fg : FG} {ft : TDT} {fe : TD} {vs : List Nat} {ρ : List Sl} {Qd : Sl → Prop} {R : Er → Prop} : dKeysT i fg ft fe vs ρ Qd R = ∃ (kvs : List (List L2.Key × PyData)) (kk : List (List Int)), ρ[i]? = some (.mo (.dt kvs)) ∧ kvs.map (·.1) = kk.map keyT ∧ lcD fg ft fe (wipeD (ρ.set i .un) vs) (fun _ => False) (fun ys => Qd (.ml ys)) (kk.map tupI) [] := propext Iff.rfl
/-! ### d.get(k, x), d[k] -/
def valG (kvs : List (List L2.Key × PyData)) (k : List L2.Key) : Option PyData := (kvs.find? fun kv => decide (kv.1 = k)).map (·.2)
theorem val_rp {A : Addr → Prop} {H : Hp} (k : List L2.Key) : ∀ {ks : List (List L2.Key × V)} {kvs : List (List L2.Key × PyData)}, ks.map (·.1) = kvs.map (·.1) → RpAll K A H (ks.map (·.2)) (kvs.map (·.2)) → (valV ks k = none ∧ valG kvs k = none) ∨ ∃ v d, valV ks k = some v ∧ valG kvs k = some d ∧ Rp K A H v d
  | [], [], _, _ => .inl ⟨rfl, rfl⟩
  | [], _ :: _, e, _ => by cases e
  | _ :: _, [], e, _ => by cases e
  | p :: ks, q :: kvs, e, r => by
    obtain ⟨e1, e2⟩ := List.cons.inj e
    have e1 : p.1 = q.1 := e1
    cases r with
    | cons r1 r2 =>
      by_cases h : p.1 = k
      · refine .inr ⟨p.2, q.2, valV_pos h, ?_, r1⟩
        unfold valG
        rw [List.find?_cons, decide_eq_true (show q.1 = k from e1.symm.trans h)]
        rfl
      · rw [valV_neg h]
        have : valG (q :: kvs) k = valG kvs k := by
          unfold valG
          rw [List.find?_cons, decide_eq_false (show ¬ q.1 = k from fun z => h (e1.trans z))]
        rw [this]
        exact val_rp k e2 r2
def tDGetT (i : Nat) (ty : TE) : TE := tDGet (tVar i) ty
theorem pe_dgetT {X : Cx} {i : Nat} {e : Expr} {ty : TE} (h : PE X e (tDGet (tVar i) ty)) : PE X e (tDGetT i ty) := h
def dDGetT (i : Nat) (fy : TD) : TD := fun ρ Qd R => ∃ kvs : List (List L2.Key × PyData), ρ[i]? = some (.mo (.dt kvs)) ∧ fy ρ (fun u => ∃ (ns : List Int) (d : PyData), u = .d (.tuple (ns.map PyData.int)) ∧ valG kvs (keyT ns) = some d ∧ Qd (.d d)) R
theorem key_at {A : Addr → Prop} {H : Hp} {u : V} {ns : List Int} (r : Rp K A H u (.tuple (ns.map PyData.int))) : ∃ b, u = .ref b ∧ H b = some (.tup ((keyT ns).map kV)) := by
  cases r with
  | @tup b us _ sq ra =>
    obtain rfl := RpAll.ints ra
    exact ⟨b, rfl, by rw [keyT_v]; exact sq.1⟩
instance {i : Nat} {ty : TE} {fy : TD} [hy : RefE K τ E ty fy] : RefE K τ E (tDGetT i ty) (dDGetT i fy) := ⟨fun W A H σ ρ Qd R Q a h w => by
  obtain ⟨kvs, e, h⟩ := h
  obtain ⟨v, ev, p, ho, rfl, ep, nB, aP, od⟩ := a.env.at_ _ _ e
  refine ⟨.ref p, ev, ?_⟩
  refine hy.go W A H σ ρ _ R _ a h fun u H2 s2 f2 i2 r2 q2 => ?_
  obtain ⟨ns, d, rfl, hv, q2⟩ := q2
  cases ho with
  | dT ks =>
    have ep2 := f2.1 _ _ ep (fun _ q => nomatch q) nB
    have od2 : OdR K A H2 (.dT ks) (.dt kvs) := od.go (goes_fr a.bs.ba f2)
    obtain ⟨b, rfl, eb⟩ := key_at (show Rp K A H2 u (.tuple (ns.map PyData.int)) from r2)
    rcases val_rp (keyT ns) od2.1 od2.2 with ⟨_, z⟩ | ⟨v, d', h1, h2, rv⟩
    · rw [hv] at z
      cases z
    · rw [hv] at h2
      cases h2
      exact ⟨p, v, rfl, h1 ▸ DGet.t ep2 eb, w v H2 (.d d) f2 i2 rv q2⟩
  | _ => exact od.elim⟩
def tDGet2T (i : Nat) (ty tx : TE) : TE := tDGet2 (tVar i) ty tx
theorem pe_dget2T {X : Cx} {i : Nat} {e : Expr} {ty tx : TE} (h : PE X e (tDGet2 (tVar i) ty tx)) : PE X e (tDGet2T i ty tx) := h
def dDGet2T (i : Nat) (fy fx : TD) : TD := fun ρ Qd R => ∃ kvs : List (List L2.Key × PyData), ρ[i]? = some (.mo (.dt kvs)) ∧ fy ρ (fun u => ∃ ns : List Int, u = .d (.tuple (ns.map PyData.int)) ∧ fx ρ (fun s => ∃ x, s = .d x ∧ Qd (.d ((valG kvs (keyT ns)).getD x))) R) R
instance {i : Nat} {ty tx : TE} {fy fx : TD} [hy : RefE K τ E ty fy] [hx : RefE K τ E tx fx] : RefE K τ E (tDGet2T i ty tx) (dDGet2T i fy fx) := ⟨fun W A H σ ρ Qd R Q a h w => by
  obtain ⟨kvs, e, h⟩ := h
  obtain ⟨v, ev, p, ho, rfl, ep, nB, aP, od⟩ := a.env.at_ _ _ e
  cases ho with
  | dT ks =>
    refine ⟨.ref p, ev, p, rfl, .inr ⟨ks, .inl ep⟩, ?_⟩
    refine hy.go W A H σ ρ _ R _ a h fun u H2 s2 f2 i2 r2 q2 => ?_
    obtain ⟨ns, rfl, q2⟩ := q2
    refine hx.go W A H2 σ ρ _ R _ (a.fr f2 i2) q2 fun x H3 s3 f3 i3 r3 q3 => ?_
    obtain ⟨xd, rfl, q3⟩ := q3
    have f := f2.trans f3
    have ep2 := f.1 _ _ ep (fun _ q => nomatch q) nB
    have od2 : OdR K A H3 (.dT ks) (.dt kvs) := od.go (goes_fr a.bs.ba f)
    have r2' : Rp K A H2 u (.tuple (ns.map PyData.int)) := r2
    have r2'' : Rp K A H3 u (.tuple (ns.map PyData.int)) := r2'.go (goes_fr a.bs.ba f3)
    obtain ⟨b, rfl, eb⟩ := key_at r2''
    rcases val_rp (keyT ns) od2.1 od2.2 with ⟨h1, h2⟩ | ⟨v, d', h1, h2, rv⟩
    · refine ⟨none, h1 ▸ DGet.t ep2 eb, w x H3 (.d xd) f i3 r3 ?_⟩
      rw [h2] at q3
      exact q3
    · refine ⟨some v, h1 ▸ DGet.t ep2 eb, w v H3 (.d d') f i3 rv ?_⟩
      rw [h2] at q3
      exact q3
  | _ => exact od.elim⟩
theorem dDGetT_c {i : Nat} {fy : TD} {ρ : List Sl} {Qd : Sl → Prop} {R : Er → Prop} : dDGetT i fy ρ Qd R = ∃ kvs : List (List L2.Key × PyData), ρ[i]? = some (.mo (.dt kvs)) ∧ fy ρ (fun u => ∃ (ns : List Int) (d : PyData), u = .d (.tuple (ns.map PyData.int)) ∧ valG kvs (keyT ns) = some d ∧ Qd (.d d)) R := propext Iff.rfl
theorem dDGet2T_c {i : Nat} {fy fx : TD} {ρ : List Sl} {Qd : Sl → Prop} {R : Er → Prop} : dDGet2T i fy fx ρ Qd R = ∃ kvs : List (List L2.Key × PyData), ρ[i]? = some (.mo (.dt kvs)) ∧ fy ρ (fun u => ∃ ns : List Int, u = .d (.tuple (ns.map PyData.int)) ∧ fx ρ (fun s => ∃ x, s = .d x ∧ Qd (.d ((valG kvs (keyT ns)).getD x))) R) R := propext Iff.rfl
end
end Dl

set_option maxHeartbeats 1000000
namespace Dl
open PySem PySem.Spec PyProof.Rows L2
open PySem.W
section
variable {prog : Program} {w : World} {A : Around} {E : Value → Shared → Prop} {s : Shared}
/-! ### min of two things that are alike -/
theorem min2_data {a b : Value} {x y : PyData} {as : List Addr} {Q : Value → Shared → Prop} (hh : A.handled = none) (hr : ReadsAll s.heap [a, b] [x, y] as) (hal : AlikeAll [x, y]) (hu : A.units + 1 + PyData.depthAll [x, y] < cLine)
    (h : ∀ h' tk, (∀ c o, s.heap.get? c = some o → h'.get? c = some o) → Q (if dataLt y x = true then b else a) { s with heap := h', toks := tk }) : wpAny (model prog w) A (call (.builtin "min") [a, b]) Q E s := by
  obtain ⟨T, eT⟩ : ∃ T : Shared, T = { s with heap := s.heap.push { cls := .type "tuple", data := .seq #[a, b] } } := ⟨_, rfl⟩
  have old : ∀ c o, s.heap.get? c = some o → T.heap.get? c = some o := fun c o e => by
    rw [eT]
    exact Heap.get?_push_of_some _ e
  have tup : T.heap.IsTuple s.heap.objs.size #[a, b] := by
    rw [eT]
    exact ⟨_, Heap.get?_push_size _ rfl, rfl, 0, rfl⟩
  have hr2 : ReadsAll T.heap (#[a, b] : Array Value).toList [x, y] as := PyProof.Rows.ReadsAll.keeps old hr
  refine PySem.call_function_tree F.kind_min F.plain_min F.entry_min (F.args_min2 a b) ?_
  show wpAny _ A.in1 ((Builtin.Builtins.bindParams "min" ["key", "default"] 0 ⟨[], []⟩) >>= _) _ E s
  have eB : Builtin.Builtins.bindParams "min" ["key", "default"] 0 ⟨[], []⟩ = pure [none, none] := rfl
  refine wpAny_bind (wpAny_of_eq eB ?_)
  show wpAny _ A.in1 ((newTuple [a, b]) >>= _) _ E s
  refine wpAny_bind (wpAny_newObj_type (E := E) ?_)
  rw [← eT]
  refine wpAny_bind (wpAny_mono (iter_tupleW (A := A.in1) (E := E) hh tup (Q := fun it s₂ => ∃ I, it = .ref I ∧ I = T.heap.objs.size ∧ s₂ = { T with heap := T.heap.push { cls := .type "tuple_iterator", data := .fields #[.ref s.heap.objs.size, .int 0 0] } } ∧ WalksS prog w A.in1 I [I, s.heap.objs.size] [I] (fun a b => b = a) 2 (fun i v => (#[a, b] : Array Value)[i]? = some v) (fun i s' => s'.heap.IsTupleIter I s.heap.objs.size i ∧ s'.heap.IsTuple s.heap.objs.size #[a, b]) ∧ (s₂.heap.IsTupleIter I s.heap.objs.size 0 ∧ s₂.heap.IsTuple s.heap.objs.size #[a, b]) ∧ (∀ c ∈ [I, s.heap.objs.size], c < s₂.heap.objs.size) ∧ (∀ c o, T.heap.get? c = some o → c ∉ [I]) ∧ ∀ c o, T.heap.get? c = some o → s₂.heap.get? c = some o) fun s₂ e W st hfp hw hk => ⟨_, rfl, rfl, e, W, st, hfp, hw, hk⟩) (fun it s₂ hs => ?_) fun _ _ e => e)
  obtain ⟨I, rfl, eI, e2, W, st, hfp, hw, hk⟩ := hs
  refine wpAny_bind (wpAny_newObj_type (E := E) ?_)
  have nS : s₂.heap.objs.size ∉ [I, s.heap.objs.size] := fun hm => Nat.lt_irrefl _ (hfp _ hm)
  refine wpAny_pure ⟨plainId_quiet F.plain_min_loop _, ?_⟩
  refine codeAny_min_loop_firstH W T.heap hw _ (cmpIn_lt (A := A.in1) hr2 hal (by show A.units + 1 + _ < cLine; exact hu)) s₂.heap.objs.size nS (fresh_in hk) _ (by decide) (fun c o e => Heap.get?_push_of_some _ (hk c o e)) (W.frame 0 s₂ _ s₂.toks st (Nat.le_refl _) fun c _ o e => Heap.get?_push_of_some _ e) (Heap.get?_push_size _ rfl) fun v s' hP hm => ?_
  obtain ⟨h', tk, rfl, hk'⟩ := moved_old (s := T) (a := I) e2 eI (Moved.drop_new (tk := s₂.toks) hm (Nat.le_refl _))
  have ev : v = if dataLt y x = true then b else a := by
    have hP : (#[a, b] : Array Value)[if dataLt y x = true then 1 else 0]? = some v := hP
    cases z : dataLt y x with
    | true =>
      rw [z] at hP
      exact (Option.some.inj hP).symm
    | false =>
      rw [z] at hP
      exact (Option.some.inj hP).symm
  show Q v _
  rw [ev]
  subst eT
  exact h h' tk fun c o e => hk' c o (old c o e)
/-- min(x, y), alike -/
def rMin2D (K : PySem.W.Frag) : List V → Hp → VK → Prop := fun xs H Q => ∃ a b x y, xs = [a, b] ∧ Dp K H a x ∧ Dp K H b y ∧ AlikeAll [x, y] ∧ PyData.depthAll [x, y] ≤ 60 ∧ Q (if dataLt y x = true then b else a) H
theorem call_min2D {X : Cx} {K : PySem.W.Frag} (e : X.K = K) (hc : X.calm = true) (hu : X.A.units + 64 < cLine) : CallR X (.builtin "min") (rMin2D K) := by
  subst e
  intro pins t σ H xs us Q I r h
  obtain ⟨a, b, x, y, rfl, pa, pb, hal, hd, q⟩ := h
  obtain ⟨u, u', rfl, ra, rb⟩ := vals2 r
  obtain ⟨as, h1⟩ := Dp.reads I _ _ _ pa ra
  obtain ⟨bs, h2⟩ := Dp.reads I _ _ _ pb rb
  refine min2_data (I.ok.hd hc) (.cons h1 (.cons h2 .nil)) hal (by omega) fun h' tk k => ⟨_, H, I.kept k, ?_, q⟩
  split
  · exact rb
  · exact ra
def fMin2D : List Sl → (Sl → Prop) → Prop := fun ss Qd => ∃ x y, ss = [.d x, .d y] ∧ x.canLay0 = true ∧ y.canLay0 = true ∧ AlikeAll [x, y] ∧ PyData.depthAll [x, y] ≤ 60 ∧ Qd (.d (if dataLt y x = true then y else x))
instance {K : PySem.W.Frag} : RefC K (rMin2D K) fMin2D := ⟨fun W A H0 H xs ss Qd Q b f i rx h w => by
  obtain ⟨x, y, rfl, l1, l2, hal, hd, q⟩ := h
  obtain ⟨v, u, rfl, r, r'⟩ := vlsr2 rx
  have r : Rp K A H v x := r
  have r' : Rp K A H u y := r'
  refine ⟨v, u, x, y, rfl, r.dp l1, r'.dp l2, hal, hd, ?_⟩
  cases z : dataLt y x with
  | true =>
    rw [z] at q
    exact w u H (.d y) (Fr.refl H) i r' q
  | false =>
    rw [z] at q
    exact w v H (.d x) (Fr.refl H) i r q⟩
theorem fMin2D_c {x y : PyData} {Qd : Sl → Prop} (l1 : x.canLay0 = true) (l2 : y.canLay0 = true) (hal : AlikeAll [x, y]) (hd : PyData.depthAll [x, y] ≤ 60) (q : Qd (.d (if dataLt y x = true then y else x))) : fMin2D [.d x, .d y] Qd := ⟨x, y, rfl, l1, l2, hal, hd, q⟩
end
end Dl

set_option maxHeartbeats 1000000
namespace Dl
open PySem PySem.Spec PyProof.Rows L2
open PySem.W PySem.Calls PyProof.V
/-! ### sorted(d), d a dict with tuple keys -/
theorem each_at {α β : Type} {R : α → β → Prop} : ∀ {as : List α} {bs : List β}, as.length = bs.length → (∀ (j : Nat) (a : α) (b : β), as[j]? = some a → bs[j]? = some b → R a b) → PySem.W.EachIs R as bs
  | [], [], _, _ => .nil
  | [], _ :: _, h, _ => nomatch h
  | _ :: _, [], h, _ => nomatch h
  | _ :: _, _ :: _, h, k => .cons (k 0 _ _ rfl rfl) (each_at (Nat.succ.inj h) fun j a b e1 e2 => k (j + 1) a b e1 e2)
def rSortDT (K : PySem.W.Frag) : List V → Hp → VK → Prop := fun xs H Q => ∃ (d : Addr) (kvs : List (List L2.Key × V)) (ks : List (List Int)), xs = [V.ref d] ∧ Rd H d (.dT kvs) ∧ kvs.map (·.1) = ks.map keyT ∧
  ∀ bs, IsKeys H kvs bs → ∀ zs : List (V × PyData), zs.Perm ((bs.map V.ref).zip (ks.map tupI)) → zs.map (·.2) = (ks.map tupI).mergeSort (dataLe false id) → ∀ p, H p = none → Q (.ref p) (upd H p (.lst (zs.map (·.1))))
theorem reads_intsV {h : Heap} : ∀ {ns : List Int} {us : List Value}, Vals (ns.map V.int) us → PySem.ReadsAll h us (ns.map PyData.int) []
  | [], _, r => by
    cases r
    exact .nil
  | n :: ns, _, r => by
    cases r with
    | cons r1 r2 =>
      obtain ⟨t, rfl⟩ := r1
      exact .cons (as := []) (bs := []) (.int n t) (reads_intsV r2)
theorem reads_key {X : Cx} {pins : List (Addr × Obj)} {σ : L2.St} {H : Hp} {s : Shared} (I : Inv X pins σ H s) {b : Addr} {n : List Int} (e : H b = some (.tup ((keyT n).map kV))) : PySem.Reads s.heap (.ref b) (tupI n) [] := by
  rw [keyT_v] at e
  obtain ⟨its, rv, ⟨o, ho, hc, m, hd⟩, _⟩ := I.tuple (SqT.of e)
  exact .tuple ho hc hd (reads_intsV rv)
theorem cr_sortDT {X : Cx} (hc : X.calm = true) (hu : X.A.units + 64 < cLine) : CallR X (.builtin "sorted") (rSortDT X.K) := by
  intro pins s σ H xs us Q I r h
  obtain ⟨d, kvs, ks, rfl, hd, ek, q⟩ := h
  obtain ⟨u, rfl, rx⟩ := r.one
  cases rx
  obtain ⟨z, hs, js, pr, o, es, ep, ho, hx, hdt, he, hn⟩ := (show ObjOk X.prog X.w H s.heap d (.dT kvs) from hd.ok I.hok)
  have l1 : es.size = js.length := size_of_entries he
  have l2 : kvs.length = js.length := Paired.length pr
  have l3 : kvs.length = ks.length := by
    have := congrArg List.length ek
    rwa [List.length_map, List.length_map] at this
  have hk := isKeys_of pr
  generalize eB : (js.map fun x => x.2.1) = B at hk
  have lB : B.length = js.length := by rw [← eB, List.length_map]
  refine call_function_entry kind_sorted plain_sorted entry_sorted (args_sorted1 (.ref d)) ?_
  unfold Builtin.«sorted»
  refine wpAny_bind (m := checkCount "sorted" 1 1 ([Value.ref d] : List Value).length) (wpAny_pure ?_)
  refine wpAny_bind (kdu_collect (A := X.A.in1) (kdl_raw hs hx hdt) (I.ok.hd hc) ho (by omega) fun h' tk acc kp it => ?_)
  have ea : acc.toList = B.map Value.ref := by
    refine List.ext_getElem? fun j => ?_
    rw [List.getElem?_map, ← eB, List.getElem?_map]
    by_cases hj : j < js.length
    · obtain ⟨v, ev⟩ : ∃ v, acc.toList[j]? = some v := ⟨_, List.getElem?_eq_getElem (show j < acc.toList.length by rw [Array.length_toList, it.1]; omega)⟩
      obtain ⟨en, hen, rfl⟩ := it.2 j v (by rw [← Array.getElem?_toList]; exact ev)
      have qe := (entry_at he j).symm.trans hen
      rw [List.getElem?_eq_getElem hj] at qe ⊢
      rw [ev, ← Option.some.inj qe]
      rfl
    · rw [List.getElem?_eq_none (show acc.toList.length ≤ j by rw [Array.length_toList, it.1]; omega), List.getElem?_eq_none (by omega)]
      rfl
  have rv : Vals (B.map V.ref) acc.toList := by
    rw [ea]
    exact vals_refs B
  have I1 : Inv X pins σ H { s with heap := h', toks := tk } := I.kept (t' := tk) kp
  obtain ⟨ds, eds⟩ : ∃ ds, ds = ks.map tupI := ⟨_, rfl⟩
  have ld : (B.map V.ref).length = ds.length := by rw [eds, List.length_map, List.length_map]; omega
  have rd : ∀ (j : Nat) (b : Addr) (n : List Int), B[j]? = some b → ks[j]? = some n → PySem.Reads h' (.ref b) (tupI n) [] := fun j b n e1 e2 => by
    obtain ⟨p, hp, hb⟩ := paired_at hk e1
    have e3 : (kvs.map (·.1))[j]? = (ks.map keyT)[j]? := by rw [ek]
    rw [List.getElem?_map, hp, List.getElem?_map, e2] at e3
    have e4 : p.1 = keyT n := Option.some.inj e3
    rw [e4] at hb
    exact reads_key I1 hb
  refine wpAny_bind (wpAny_newList (E := X.xe) ?_ (by rw [Array.length_toList, it.1]; omega))
  refine wpAny_bind (wpAny_holding ?_)
  have hp0 : (h'.push { cls := .type "list", data := .seq acc.toList.toArray }).get? h'.objs.size = some (seqObj "list" acc.toList.toArray 0) := Heap.get?_push_size _ rfl
  have od : ∀ (b : Addr) (u : PySem.Obj), h'.get? b = some u → (h'.push { cls := .type "list", data := .seq acc.toList.toArray }).get? b = some u := fun b u e => Heap.get?_push_of_some _ e
  have hr : EachIs (fun v d => PySem.Reads (h'.push { cls := .type "list", data := .seq acc.toList.toArray }) v d []) acc.toList ds := by
    refine each_at (by rw [← ld, ea, List.length_map, List.length_map]) fun j a b e1 e2 => ?_
    rw [ea, List.getElem?_map] at e1
    obtain ⟨b', f1, rfl⟩ := Option.map_eq_some_iff.mp e1
    rw [eds, List.getElem?_map] at e2
    obtain ⟨n, f2, rfl⟩ := Option.map_eq_some_iff.mp e2
    exact PyProof.Rows.Reads.keeps od (rd j b' n f1 f2)
  obtain ⟨e1, e2⟩ := each_zip (R := fun u v => RelV v u) (S := fun v d => PySem.Reads (h'.push { cls := .type "list", data := .seq acc.toList.toArray }) v d []) rv hr
  have ez := zip_snd ld
  have each : ∀ d ∈ ds, ∃ k, d = tupI k := fun d hd => by
    rw [eds] at hd
    obtain ⟨k, _, rfl⟩ := List.mem_map.mp hd
    exact ⟨k, rfl⟩
  have lz : ((B.map V.ref).zip ds).length = B.length := by
    rw [List.length_zip, ← ld, Nat.min_self, List.length_map]
  refine list_sort_dataT (A := X.A.in1) (s := { s with heap := h'.push { cls := .type "list", data := .seq acc.toList.toArray }, toks := tk }) (R := fun u (b : V × PyData) => RelV b.1 u) (enc := fun b : V × PyData => b.2) (bs := (B.map V.ref).zip ds) hp0 e1 (e2.mono fun _ _ h => ⟨[], h, fun m => nomatch m⟩) (by
    rw [ez]
    intro d hd d' hd'
    obtain ⟨k, rfl⟩ := each d hd
    obtain ⟨k', rfl⟩ := each d' hd'
    exact tupI_alike _ _) (by
    rw [ez]
    intro d hd
    obtain ⟨k, rfl⟩ := each d hd
    exact ⟨_, rfl⟩) (by rw [lz]; omega) (fun b hb => ?_) fun out ho eo => ?_
  · obtain ⟨k, e⟩ := each b.2 (List.of_mem_zip hb).2
    have := (tupI_lay k).2
    rw [e]
    show X.A.units + 1 + 1 + (tupI k).depth < cLine
    omega
  · obtain ⟨c, hc'⟩ := sortedHeap_at (vs := acc.toList) (out := out.toArray) hp0
    have lt : ∀ (b : Addr) (u : PySem.Obj), s.heap.get? b = some u → b < h'.objs.size := fun b u e => Heap.lt_size (kp b u e)
    have hp : s.heap.get? h'.objs.size = none := by
      cases e : s.heap.get? h'.objs.size with
      | none => rfl
      | some u => exact absurd (lt _ u e) (Nat.lt_irrefl _)
    have hn' : H h'.objs.size = none := I1.hok.fresh (Nat.le_refl _)
    have kp2 : ∀ (b : Addr) (u : PySem.Obj), s.heap.get? b = some u → (sortedHeap (h'.push { cls := .type "list", data := .seq acc.toList.toArray }) h'.objs.size acc.toList out.toArray).get? b = some u := fun b u e => by
      rw [sortedHeap_old (Nat.ne_of_lt (lt b u e)) (Heap.lt_size (od b u (kp b u e)))]
      exact od b u (kp b u e)
    refine wpAny_pure ⟨_, rfl, .ref h'.objs.size, upd H h'.objs.size (.lst ((((B.map V.ref).zip ds).mergeSort (dataLe false fun b : V × PyData => b.2)).map (·.1))), I.laidN (t' := tk) kp2 hp hn' ⟨?_, out, c, vals_each eo, hc'⟩, rfl, q B hk _ ?_ ?_ _ hn'⟩
    · rw [List.length_map, List.length_mergeSort, lz]
      omega
    · rw [← eds]
      exact List.mergeSort_perm _ _
    · rw [← eds]
      exact (List.map_mergeSort (l := (B.map V.ref).zip ds) (r := dataLe false fun b : V × PyData => b.2) (s := dataLe false id) (f := fun b : V × PyData => b.2) (fun a _ b _ => rfl)).trans (by rw [ez])
theorem cr_sortDTK {X : Cx} {K : PySem.W.Frag} (h : X.K = K) (hc : X.calm = true) (hu : X.A.units + 64 < cLine) : CallR X (.builtin "sorted") (rSortDT K) := by
  subst h
  exact cr_sortDT hc hu
def fSortDT : List Sl → (Sl → Prop) → Prop := fun ss Qd => ∃ (kvs : List (List L2.Key × PyData)) (ks : List (List Int)), ss = [.bo (.dt kvs)] ∧ kvs.map (·.1) = ks.map keyT ∧ ∀ zs : List (List Int), zs.Perm ks → (zs.Pairwise fun x y => ¬ y < x) → Qd (.ml (zs.map tupI))
section
variable {K : PySem.W.Frag}
theorem rp_zip {A : Addr → Prop} {H : Hp} : ∀ {vs : List V} {ds : List PyData}, RpAll K A H vs ds → ∀ x ∈ vs.zip ds, Rp K A H x.1 x.2
  | _, _, .nil, x, m => nomatch m
  | _, _, .cons h r, x, m => by
    rcases List.mem_cons.mp m with rfl | m
    · exact h
    · exact rp_zip r x m
open PySem.W in
instance : RefC K (rSortDT K) fSortDT := ⟨fun W A H0 H xs ss Qd Q b f i rx h w => by
  obtain ⟨kvs, ks, rfl, ek, q⟩ := h
  obtain ⟨v, rfl, r⟩ := vlsr1 rx
  obtain ⟨p, ho, rfl, e1, n, od⟩ := r
  cases ho with
  | dT kks =>
    have bH := b.fr f i
    refine ⟨p, kks, ks, rfl, .inl e1, od.1.trans ek, fun bs hk zs hz ez p' np => ?_⟩
    have r0 := keys_rp (K := K) (A := A) (fun c xs ec hc => bH.nt c xs hc ec) (od.1.trans ek) hk
    have rr : RpAll K A H (zs.map (·.1)) (zs.map (·.2)) := rp_each fun x hx => rp_zip r0 x (hz.mem_iff.mp hx)
    have em : (ks.map tupI).mergeSort (dataLe false id) = (ks.mergeSort (dataLe false tupI)).map tupI := (List.map_mergeSort (l := ks) (r := dataLe false tupI) (s := dataLe false id) (f := tupI) (fun a _ b _ => rfl)).symm
    rw [ez, em] at rr
    refine Want.lst bH w rr (q _ (List.mergeSort_perm _ _) ?_) p' np
    refine (sort_pairwise (sortLe_total _ false _) ks).imp fun {x y} h => ?_
    have h : (!dataLt (tupI y) (tupI x)) = true := h
    rw [tupI_lt] at h
    simpa using h
  | _ => exact od.elim⟩
end
end Dl

namespace Dl
open PySem PySem.Spec PyProof.Rows L2
/-! ### a, b = {}, [] -/
def tParNN (i j : Nat) : TS := tPar i j (tCons tDNewT (tCons (tLst tNil) tNil))
def dParNN (i j : Nat) : TDS := fun dd _ ρ => dd.nx ((ρ.set i (.mo (.dt []))).set j (.ml []))
section
variable {K : PySem.W.Frag} {τ : List (Addr × Str)} {E : XK}
instance {i j : Nat} : RefS K τ E (tParNN i j) (dParNN i j) := ⟨fun W A0 H0 D dd R H σ ρ gσ gρ b sr er ek h => by
  obtain ⟨W', A, c⟩ := sr
  intro p n
  have f1 : Fr W'.B H (upd H p (.dT [])) := Fr.new n
  have c1 := c.own (i := i) (s := .mo (.dt [])) f1 (W'.stay _ _ (same_new n) c.bs.inv) (nob n) ⟨p, _, rfl, upd_same, c.bs.nB (nob n), .inr rfl, rfl, .nil⟩ trivial
  refine ⟨Nat.zero_le _, fun q nq => ?_⟩
  have f3 : Fr W'.B (upd H p (.dT [])) (upd (upd H p (.dT [])) q (.lst [])) := Fr.new nq
  have c5 := c1.own (i := j) (s := .ml []) f3 (W'.stay _ _ (same_new (o := .lst []) nq) c1.bs.inv) (nob nq) ⟨q, [], rfl, upd_same, c1.bs.nB (nob nq), .inr rfl, .nil⟩ trivial
  exact ⟨_, _, rfl, er.nx _ _ _ ⟨W', _, c5⟩ h⟩⟩
theorem dParNN_c {i j : Nat} {dd : DEnds} {R : Er → Prop} {ρ : List Sl} : dParNN i j dd R ρ = dd.nx ((ρ.set i (.mo (.dt []))).set j (.ml [])) := propext Iff.rfl
end
end Dl

set_option maxHeartbeats 2000000
namespace Dl
open PySem PySem.Spec PyProof.Rows L2
/-! ### comprehensions with two fors -/
def lc2D (fg : FG) (ft : TDT) (fi1 : TDI) (fg1 : FG) (ft1 : TDT) (fe : TD) (vs1 : List Nat) (ρ : List Sl) (R : Er → Prop) (Qd : List PyData → Prop) : List PyData → List PyData → Prop
  | [], acc => Qd acc
  | d :: r, acc => fg d ρ fun ρ' => ft ρ' (fun b => match b with
    | true => fi1 ρ' (fun es => lcD fg1 ft1 fe (wipeD ρ' vs1) R (lc2D fg ft fi1 fg1 ft1 fe vs1 ρ R Qd r) es acc) R
    | false => lc2D fg ft fi1 fg1 ft1 fe vs1 ρ R Qd r acc) R
def dLc2 (fi : TDI) (fg : FG) (ft : TDT) (fi1 : TDI) (fg1 : FG) (ft1 : TDT) (fe : TD) (vs vs1 : List Nat) : TD := fun ρ Qd R => fi ρ (fun ds => lc2D fg ft fi1 fg1 ft1 fe vs1 (wipeD ρ vs) R (fun ys => Qd (.ml ys)) ds []) R
theorem wipe_same {σ σ3 : L2.St} {vs sl : List Nat} (inc : ∀ i ∈ sl, i ∈ vs) (d3 : Dif sl (wipe σ vs) σ3) : wipe σ3 vs = wipe σ vs := by
  rw [d3 vs inc]
  refine List.ext_getElem? fun j => ?_
  rw [wipe_get, wipe_get]
  by_cases hj : j ∈ vs
  · rw [if_pos hj, if_pos hj]
    cases σ[j]? <;> rfl
  · rw [if_neg hj, if_neg hj]
section
variable {K : PySem.W.Frag} {τ : List (Addr × Str)} {E : XK}
theorem EnvR.un1 {W : Wld τ} {A : Addr → Prop} {H : Hp} {σ : L2.St} {ρ : List Sl} (h : EnvR K W A H σ ρ) : EnvR K W A H (σ ++ [none]) (ρ ++ [.un]) := by
  have ge : ∀ {i : Nat} {s : Sl}, (ρ ++ [Sl.un])[i]? = some s → (ρ[i]? = some s ∧ (σ ++ [none])[i]? = σ[i]?) ∨ (i = ρ.length ∧ s = .un) := fun {i s} e => by
    by_cases hi : i < ρ.length
    · rw [List.getElem?_append_left hi] at e
      exact .inl ⟨e, List.getElem?_append_left (by rw [h.len]; exact hi)⟩
    · rw [List.getElem?_append_right (by omega)] at e
      have z : i - ρ.length = 0 := by
        have := (List.getElem?_eq_some_iff.mp e).1
        simpa using this
      rw [z] at e
      cases e
      exact .inr ⟨by omega, rfl⟩
  refine ⟨by rw [List.length_append, List.length_append, h.len]; rfl, fun i s e => ?_, fun i j p t s ne e1 o e2 f e3 e4 => ?_⟩
  · rcases ge e with ⟨e, q⟩ | ⟨e2, rfl⟩
    · rw [q]
      exact h.at_ i s e
    · refine ⟨none, ?_, trivial⟩
      rw [List.getElem?_append_right (by rw [h.len, e2]; exact Nat.le_refl _), h.len, e2, Nat.sub_self]
      rfl
  · rcases ge e1 with ⟨e1, q1⟩ | ⟨_, rfl⟩
    · rcases ge e2 with ⟨e2, q2⟩ | ⟨_, rfl⟩
      · rw [q1] at e3
        rw [q2] at e4
        exact h.dis i j p t s ne e1 o e2 f e3 e4
      · exact f.elim
    · exact o.elim
theorem EnvR.wipeA {W : Wld τ} {A : Addr → Prop} {H : Hp} {σ gσ : L2.St} {ρ gρ : List Sl} (h : EnvR K W A H (σ ++ gσ) (ρ ++ gρ)) (hl : σ.length = ρ.length) : ∀ vs : List Nat, EnvR K W A H (L2.wipe σ vs ++ gσ) (wipeD ρ vs ++ gρ) ∧ (L2.wipe σ vs).length = (wipeD ρ vs).length
  | [] => ⟨h, hl⟩
  | v :: vs => by
    obtain ⟨e, l⟩ := EnvR.wipeA h hl vs
    refine ⟨e.setA (i := v) (v := none) (s := .un) l trivial trivial, ?_⟩
    show ((L2.wipe σ vs).set v none).length = ((wipeD ρ vs).set v .un).length
    rw [List.length_set, List.length_set, l]
/-- where one stands while the list at D is being made -/
structure Mk (W : Wld τ) (A : Addr → Prop) (H1 : Hp) (D : Addr) (G : Hp) (σ : L2.St) (ρ : List Sl) (ys : List PyData) : Prop where
  bs : Bs W A G
  env : EnvR K W A G (σ ++ [some (.ref D)]) (ρ ++ [.ml ys])
  len : σ.length = ρ.length
  fr : Fr W.B H1 G
theorem Mk.fr' {W : Wld τ} {A : Addr → Prop} {H1 G G' : Hp} {D : Addr} {σ : L2.St} {ρ : List Sl} {ys : List PyData} (m : Mk (K := K) W A H1 D G σ ρ ys) (f : Fr W.B G G') (i : W.I G') : Mk (K := K) W A H1 D G' σ ρ ys := ⟨m.bs.fr f i, m.env.fr m.bs.ba f, m.len, m.fr.trans f⟩
theorem Mk.acc {W : Wld τ} {A : Addr → Prop} {H1 G : Hp} {D : Addr} {σ : L2.St} {ρ : List Sl} {ys : List PyData} (m : Mk (K := K) W A H1 D G σ ρ ys) : ∃ acc, G D = some (.lst acc) ∧ ¬ W.B D ∧ RpAll K A G acc ys := by
  obtain ⟨v, e, p, vs, e1, e2, nB, _, r⟩ := m.env.at_ ρ.length (.ml ys) (by rw [List.getElem?_append_right (Nat.le_refl _), Nat.sub_self]; rfl)
  rw [List.getElem?_append_right (by rw [m.len]; exact Nat.le_refl _), m.len, Nat.sub_self] at e
  cases e
  cases e1
  exact ⟨vs, e2, nB, r⟩
theorem Mk.push {W : Wld τ} {A : Addr → Prop} {H1 G : Hp} {D : Addr} {σ : L2.St} {ρ : List Sl} {ys : List PyData} (m : Mk (K := K) W A H1 D G σ ρ ys) (n1 : ¬ Ob H1 D) {acc : List V} (e : G D = some (.lst acc)) {y : V} {z : PyData} (r : RpAll K A G acc ys) (rz : Rp K A G y z) : Mk (K := K) W A H1 D (upd G D (.lst (acc ++ [y]))) σ ρ (ys ++ [z]) := by
  have ob : ∀ b, ¬ Ob (fun _ => none : Hp) b := fun b ⟨o, e, _⟩ => nomatch e
  have c : Cor K W W.B (fun _ => none) W A G σ ρ [some (.ref D)] [.ml ys] := ⟨⟨fun b h => h, fun b h => .inl h, fun H h => h⟩, m.bs.ba, m.bs, ⟨(fun b o e => nomatch e), fun b h => absurd h (ob b)⟩, m.env, m.len, fun i p s _ _ _ => ob p⟩
  have c2 := c.mutG (i := ρ.length) (p := D) (xs := ys) (ys := ys ++ [z]) (us := acc ++ [y]) (Nat.le_refl _) (by rw [List.getElem?_append_right (Nat.le_refl _), Nat.sub_self]; rfl) (by rw [List.getElem?_append_right (by rw [m.len]; exact Nat.le_refl _), m.len, Nat.sub_self]; rfl) (ob D) (r.append (.one rz))
  rw [Nat.sub_self] at c2
  obtain ⟨_, _, nB, _⟩ := m.acc
  refine ⟨c2.bs, c2.env, m.len, fun b o eb t nb => ?_, fun b hb => ?_⟩
  · exact (upd_ne (ne_nob eb t n1)).trans (m.fr.1 b o eb t nb)
  · by_cases h : b = D
    · subst h
      exact ⟨_, upd_same, nt_lst⟩
    · obtain ⟨o, e1, t1⟩ := m.fr.2 b hb
      exact ⟨o, (upd_ne h).trans e1, t1⟩
theorem Mk.new {W : Wld τ} {A : Addr → Prop} {H1 : Hp} {D : Addr} {σ : L2.St} {ρ : List Sl} (b : Bs W A H1) (e : EnvR K W A H1 σ ρ) (nD : H1 D = none) : Mk (K := K) W (fun a => A a ∨ a = D) H1 D (upd H1 D (.lst [])) σ ρ [] := by
  have f : Fr W.B H1 (upd H1 D (.lst [])) := Fr.new nD
  have i := W.stay _ _ (same_new (o := .lst []) nD) b.inv
  refine ⟨⟨fun a z => .inl (b.ba a z), fun a z => ?_, i, fun a xs z e => ?_⟩, ?_, e.len, f⟩
  · rcases z with z | rfl
    · exact f.2 a (b.dom a z)
    · exact ⟨_, upd_same, nt_lst⟩
  · rcases z with z | rfl
    · exact (b.fr f i).nt a xs z e
    · rw [upd_same] at e
      cases e
  · have := (e.un1).own (i := ρ.length) (p := D) (s := .ml []) b f (nob nD) ⟨D, [], rfl, upd_same, b.nB (nob nD), .inr rfl, .nil⟩
    rw [List.set_append_right _ _ (by rw [e.len]; exact Nat.le_refl _), List.set_append_right _ _ (Nat.le_refl _), e.len, Nat.sub_self] at this
    exact this
instance {wi wi1 : TI} {g g1 : TG} {tt tt1 : TT} {te : TE} {vs vs1 sl sl1 : List Nat} {fi fi1 : TDI} {fg fg1 : FG} {ft ft1 : TDT} {fe : TD} [hi : RefI K τ E wi fi] [hg : RefG K g fg sl] [ht : RefT K τ E tt ft] [hi1 : RefI K τ E wi1 fi1] [hg1 : RefG K g1 fg1 sl1] [ht1 : RefT K τ E tt1 ft1] [he : RefE K τ E te fe] [inc : Inc sl vs] [inc1 : Inc sl1 vs1] : RefE K τ E (tLc2 wi g tt wi1 g1 tt1 te vs vs1) (dLc2 fi fg ft fi1 fg1 ft1 fe vs vs1) := ⟨fun W A0 H σ ρ Qd R Q a h w => by
  refine hi.go W A0 H σ ρ _ R _ a h fun J H1 gs gr ds f1 i1 gh it q => ?_
  intro D nD
  have a1 := a.fr f1 i1
  have nD1 : ¬ Ob H1 D := nob nD
  have gA : Goes A0 (fun a => A0 a ∨ a = D) H1 H1 := fun c o ec _ nc => ⟨ec, fun z => z.elim nc (ne_of_none ec nD)⟩
  -- what the sources hold stays
  have gK : ∀ {G : Hp} {σ : L2.St} {ρ : List Sl} {ys : List PyData}, Mk (K := K) W (fun a => A0 a ∨ a = D) H1 D G σ ρ ys → GhR K W (fun a => A0 a ∨ a = D) G gs gr := fun {G σ ρ ys} m => ⟨gh.len, fun j s e => by
    obtain ⟨v, x, e1, e2, r⟩ := gh.at_ j s e
    exact ⟨v, x, e1, e2, (r.go gA).go (goes_fr (fun c z => .inl (a.bs.ba c z)) m.fr)⟩⟩
  have erK : ∀ {G : Hp}, Fr W.B H1 G → ErK K W (fun a => A0 a ∨ a = D) E G R := fun {G} f er x H2 fr2 i2 z r => a1.er er x H2 (f.trans fr2) i2 (z.mono fun a z => .inl z) r
  have at' : ∀ {G : Hp} {σ : L2.St} {ρ : List Sl} {ys : List PyData}, Mk (K := K) W (fun a => A0 a ∨ a = D) H1 D G σ ρ ys → At K W (fun a => A0 a ∨ a = D) E G σ ρ R := fun {G σ ρ ys} m => ⟨m.bs, m.env.pre m.len, erK m.fr⟩
  refine ⟨fun i m H' => m = ds.length - i ∧ i ≤ ds.length ∧ ∃ ys, Mk (K := K) W (fun a => A0 a ∨ a = D) H1 D H' σ ρ ys ∧ lc2D fg ft fi1 fg1 ft1 fe vs1 (wipeD ρ vs) R (fun ys => Qd (.ml ys)) (ds.drop i) ys,
    ⟨ds.length, by omega, by omega, [], Mk.new a1.bs a1.env nD, q⟩, ?_⟩
  rintro i m H' ⟨rfl, hi', ys, mk, q'⟩
  by_cases hlt : i < ds.length
  · rw [List.drop_eq_getElem_cons hlt] at q'
    refine .inr ⟨it.go W _ H' i mk.bs (gK mk) hlt, fun H2 => i + 1 ≤ ds.length ∧ ∃ ys, Mk (K := K) W (fun a => A0 a ∨ a = D) H1 D H2 σ ρ ys ∧ lc2D fg ft fi1 fg1 ft1 fe vs1 (wipeD ρ vs) R (fun ys => Qd (.ml ys)) (ds.drop (i + 1)) ys, fun H2 z => ⟨ds.length - (i + 1), by omega, rfl, z⟩, fun x H2 y => ?_⟩
    obtain ⟨sm, rx⟩ := it.yld W _ H' i x H2 ds[i] mk.bs (gK mk) (List.getElem?_eq_getElem hlt) y
    have mk2 := mk.fr' (Fr.of sm) (W.stay _ _ sm mk.bs.inv)
    obtain ⟨ew, lw⟩ := mk2.env.wipeA mk2.len vs
    refine hg.go W _ H2 (wipe σ vs) (wipeD ρ vs) [some (.ref D)] [.ml ys] x ds[i] _ _ ew lw rx q' fun σ3 ρ3 e3 l3 d3 _ q3 => ?_
    refine ⟨wipe_same inc.h d3, ?_⟩
    have mk3 : Mk (K := K) W (fun a => A0 a ∨ a = D) H1 D H2 σ3 ρ3 ys := ⟨mk2.bs, e3, l3, mk2.fr⟩
    refine ht.go W _ H2 σ3 ρ3 _ R _ (at' mk3) q3 fun k H3 f3 i3 q4 => ?_
    cases k with
    | false => exact iteF ⟨hlt, ys, mk2.fr' f3 i3, q4⟩
    | true =>
      refine iteT ?_
      refine hi1.go W _ H3 σ3 ρ3 _ R _ (at' (mk3.fr' f3 i3)) q4 fun J1 H4 gs1 gr1 es f4 i4 gh1 it1 q5 => ?_
      -- what the inner source holds stays, too
      have gK1 : ∀ {G : Hp}, (∀ b o, H4 b = some o → NT o → ¬ (A0 b ∨ b = D) → G b = some o) → GhR K W (fun a => A0 a ∨ a = D) G gs1 gr1 := fun {G} f => ⟨gh1.len, fun j s e => by
        obtain ⟨v, x, e1, e2, r⟩ := gh1.at_ j s e
        exact ⟨v, x, e1, e2, r.go fun c o ec t nc => ⟨f c o ec t nc, nc⟩⟩⟩
      refine ⟨fun j k G => k = es.length - j ∧ j ≤ es.length ∧ (∀ b o, H4 b = some o → NT o → ¬ (A0 b ∨ b = D) → G b = some o) ∧ ∃ ys, Mk (K := K) W (fun a => A0 a ∨ a = D) H1 D G σ ρ ys ∧ Mk (K := K) W (fun a => A0 a ∨ a = D) H1 D G σ3 ρ3 ys ∧ lcD fg1 ft1 fe (wipeD ρ3 vs1) R (lc2D fg ft fi1 fg1 ft1 fe vs1 (wipeD ρ vs) R (fun ys => Qd (.ml ys)) (ds.drop (i + 1))) (es.drop j) ys,
        ⟨es.length, by omega, by omega, fun b o e _ _ => e, ys, (mk2.fr' f3 i3).fr' f4 i4, (mk3.fr' f3 i3).fr' f4 i4, q5⟩, ?_⟩
      rintro j k G ⟨rfl, hj', keep, ys', mo, mi, qG⟩
      have keep' : ∀ {G' : Hp}, Fr W.B G G' → ∀ b o, H4 b = some o → NT o → ¬ (A0 b ∨ b = D) → G' b = some o := fun {G'} f b o e t n => f.1 b o (keep b o e t n) t fun z => n (mo.bs.ba b z)
      by_cases hlj : j < es.length
      · rw [List.drop_eq_getElem_cons hlj] at qG
        refine .inr ⟨it1.go W _ G j mo.bs (gK1 keep) hlj, fun G2 => j + 1 ≤ es.length ∧ (∀ b o, H4 b = some o → NT o → ¬ (A0 b ∨ b = D) → G2 b = some o) ∧ ∃ ys, Mk (K := K) W (fun a => A0 a ∨ a = D) H1 D G2 σ ρ ys ∧ Mk (K := K) W (fun a => A0 a ∨ a = D) H1 D G2 σ3 ρ3 ys ∧ lcD fg1 ft1 fe (wipeD ρ3 vs1) R (lc2D fg ft fi1 fg1 ft1 fe vs1 (wipeD ρ vs) R (fun ys => Qd (.ml ys)) (ds.drop (i + 1))) (es.drop (j + 1)) ys, fun G2 z => ⟨es.length - (j + 1), by omega, rfl, z⟩, fun x2 G2 y2 => ?_⟩
        obtain ⟨sm2, rx2⟩ := it1.yld W _ G j x2 G2 es[j] mo.bs (gK1 keep) (List.getElem?_eq_getElem hlj) y2
        have g2 : Fr W.B G G2 := Fr.of sm2
        have ig2 := W.stay _ _ sm2 mo.bs.inv
        have mi2 := mi.fr' g2 ig2
        obtain ⟨ew2, lw2⟩ := mi2.env.wipeA mi2.len vs1
        refine hg1.go W _ G2 (wipe σ3 vs1) (wipeD ρ3 vs1) [some (.ref D)] [.ml ys'] x2 es[j] _ _ ew2 lw2 rx2 qG fun σ4 ρ4 e4 l4 d4 _ q7 => ?_
        refine ⟨wipe_same inc1.h d4, ?_⟩
        have m4 : Mk (K := K) W (fun a => A0 a ∨ a = D) H1 D G2 σ4 ρ4 ys' := ⟨mi2.bs, e4, l4, mi2.fr⟩
        refine ht1.go W _ G2 σ4 ρ4 _ R _ (at' m4) q7 fun k' G3 g3 ig3 q8 => ?_
        cases k' with
        | false => exact iteF ⟨hlj, keep' (g2.trans g3), ys', (mo.fr' g2 ig2).fr' g3 ig3, mi2.fr' g3 ig3, q8⟩
        | true =>
          refine iteT (he.go W _ G3 σ4 ρ4 _ R _ (at' (m4.fr' g3 ig3)) q8 fun y3 G4 s g4 ig4 r4 q9 => ?_)
          obtain ⟨hs, q9⟩ := q9
          obtain ⟨z, ez, q10⟩ := dat_iff (P := fun y => lcD fg1 ft1 fe (wipeD ρ3 vs1) R (lc2D fg ft fi1 fg1 ft1 fe vs1 (wipeD ρ vs) R (fun ys => Qd (.ml ys)) (ds.drop (i + 1))) (es.drop (j + 1)) (ys' ++ [y])) q9
          have rz := r4.dat (m4.fr' g3 ig3).bs ez
          have mo4 := ((mo.fr' g2 ig2).fr' g3 ig3).fr' g4 ig4
          have mi4 := (mi2.fr' g3 ig3).fr' g4 ig4
          obtain ⟨acc, eD, nB, r⟩ := mo4.acc
          refine ⟨acc, eD, by rw [r.length]; exact hs, hlj, fun b o e t n => ?_, ys' ++ [z], mo4.push nD1 eD r rz, mi4.push nD1 eD r rz, q10⟩
          exact (upd_ne fun zb => n (.inr zb)).trans (keep' ((g2.trans g3).trans g4) b o e t n)
      · have e : j = es.length := by omega
        subst e
        rw [List.drop_length] at qG
        exact .inl ⟨it1.stop W _ G _ mo.bs (gK1 keep) (Nat.le_refl _), hlt, ys', mo, qG⟩
  · have e : i = ds.length := by omega
    subst e
    rw [List.drop_length] at q'
    obtain ⟨acc, eD, _, r⟩ := mk.acc
    exact .inl ⟨it.stop W _ H' _ mk.bs (gK mk) (Nat.le_refl _), w (.ref D) H' (.ml ys) (f1.trans mk.fr) mk.bs.inv ⟨D, acc, rfl, fun z => nD1 (f1.2 D z), eD, r⟩ q'⟩⟩
end
end Dl

namespace Dl
open PySem PySem.Spec PyProof.Rows L2
/-- what stands in a written list -/
class MemN (i : Nat) (vs : List Nat) : Prop where
  h : i ∈ vs
instance {i : Nat} {r : List Nat} : MemN i (i :: r) := ⟨List.mem_cons_self⟩
instance (priority := low) {i j : Nat} {r : List Nat} [m : MemN i r] : MemN i (j :: r) := ⟨List.mem_cons_of_mem _ m.h⟩
instance {v : Nat} {r : List Nat} : Inc [] (v :: r) := ⟨fun _ h => by cases h⟩
instance {i v : Nat} {r : List Nat} [m : MemN i (v :: r)] : Inc [i] (v :: r) := ⟨fun j hj => by rw [List.mem_singleton.mp hj]; exact m.h⟩
instance {a b : List Nat} {v : Nat} {r : List Nat} [ha : Inc a (v :: r)] [hb : Inc b (v :: r)] : Inc (a ++ b) (v :: r) := ⟨fun j hj => (List.mem_append.mp hj).elim (ha.h j) (hb.h j)⟩
theorem dLc2_c {fi : TDI} {fg : FG} {ft : TDT} {fi1 : TDI} {fg1 : FG} {ft1 : TDT} {fe : TD} {vs vs1 : List Nat} {ρ : List Sl} {Qd : Sl → Prop} {R : Er → Prop} : dLc2 fi fg ft fi1 fg1 ft1 fe vs vs1 ρ Qd R = fi ρ (fun ds => lc2D fg ft fi1 fg1 ft1 fe vs1 (wipeD ρ vs) R (fun ys => Qd (.ml ys)) ds []) R := propext Iff.rfl
def lc2Step (fg : FG) (ft : TDT) (fi1 : TDI) (fg1 : FG) (ft1 : TDT) (fe : TD) (vs1 : List Nat) (ρ : List Sl) (R : Er → Prop) (d : PyData) (acc : List PyData) (N : List PyData → Prop) : Prop := fg d ρ fun ρ' => ft ρ' (fun b => match b with
    | true => fi1 ρ' (fun es => lcD fg1 ft1 fe (wipeD ρ' vs1) R N es acc) R
    | false => N acc) R
/-- each turn of the outer for puts S x behind -/
theorem lc2D_by {α : Type} {fg : FG} {ft : TDT} {fi1 : TDI} {fg1 : FG} {ft1 : TDT} {fe : TD} {vs1 : List Nat} {ρ : List Sl} {R : Er → Prop} {Qd : List PyData → Prop} (enc : α → PyData) (S : α → List PyData) (b : Nat) : ∀ (xs : List α) (acc : List PyData),
    (∀ x ∈ xs, ∀ acc N, acc.length + b ≤ 100000 → N (acc ++ S x) → lc2Step fg ft fi1 fg1 ft1 fe vs1 ρ R (enc x) acc N) → (∀ x ∈ xs, (S x).length ≤ b) → acc.length + xs.length * b ≤ 100000 → Qd (acc ++ xs.flatMap S) → lc2D fg ft fi1 fg1 ft1 fe vs1 ρ R Qd (xs.map enc) acc
  | [], acc, _, _, _, h => by
    rw [List.flatMap_nil, List.append_nil] at h
    exact h
  | x :: r, acc, step, hb, hl, h => by
    rw [List.length_cons, Nat.succ_mul] at hl
    have hx := hb x List.mem_cons_self
    refine step x List.mem_cons_self acc _ (by omega) (lc2D_by enc S b r (acc ++ S x) (fun y hy => step y (List.mem_cons_of_mem _ hy)) (fun y hy => hb y (List.mem_cons_of_mem _ hy)) ?_ ?_)
    · rw [List.length_append]
      omega
    · rw [List.append_assoc]
      rw [List.flatMap_cons] at h
      exact h
/-! ### a constant tuple of texts -/
class CWd (K : PySem.W.Frag) (a : Addr) (ws : outParam (List Str)) : Prop where
  sq : ∀ H, SqT K H a (ws.map V.str)
  ok : PyData.canLayAll0 (ws.map PyData.str) = true
section
variable {K : PySem.W.Frag} {τ : List (Addr × Str)} {E : XK} {a : Addr} {ws : List Str}
theorem dp_strs {H : Hp} : ∀ ws : List Str, DpAll K H (ws.map V.str) (ws.map PyData.str)
  | [] => .nil
  | w :: ws => .cons (.str w) (dp_strs ws)
def rNinW (K : PySem.W.Frag) (a : Addr) (ws : List Str) : R2 := fun x y H Q => ∃ d, Dp K H x d ∧ y = .ref a ∧ d.canLay0 = true ∧ d.depth ≤ 60 ∧ Q (.bl (!(ws.any fun z => PyData.eqv (.str z) d))) H
theorem op_ninW {X : Cx} (h : CWd K a ws) (e : X.K = K) (hu : X.A.units + 64 < cLine) : OpR X (compareOp .NotIn) (rNinW K a ws) := by
  intro pins s σ H x y v u Q I r1 r2 hq
  obtain ⟨d, px, rfl, l1, dd, q⟩ := hq
  refine op_notInTK (K := K) e hu pins s σ H x _ v u Q I r1 r2 ⟨d, ws.map PyData.str, px, .tup (h.sq H) (dp_strs ws), l1, h.ok, dd, ?_⟩
  rw [List.any_map]
  exact q
def fNinW (a : Addr) (ws : List Str) : Sl → Sl → (Sl → Prop) → Prop := fun s u Qd => ∃ d, s.dat = some d ∧ u = .raw (.ref a) ∧ d.canLay0 = true ∧ d.depth ≤ 60 ∧ Qd (.d (.bool (!(ws.any fun z => PyData.eqv (.str z) d))))
instance : Ref2 K (rNinW K a ws) (fNinW a ws) := ⟨fun W A H0 H x y s u Qd Q b f i rx ry h w => by
  obtain ⟨d, e1, rfl, l1, dd, q⟩ := h
  exact ⟨d, (rx.dat b e1).dp l1, ry, l1, dd, w.here i _ q⟩⟩
end
end Dl

namespace Dl
open PySem PySem.Spec PyProof.Rows L2
/-! ### nets known from their look -/
theorem roadD_true {p : Int} {d : PyData} (h : roadD p d = true) : ∃ q : Road, d = q.dt ∧ RoadOk p q := by
  unfold roadD at h
  split at h
  · simp only [Bool.and_eq_true] at h
    obtain ⟨h1, h2, h3, h4, h5⟩ := h
    obtain ⟨a, rfl, a0, a1⟩ := withinD_true h1
    obtain ⟨b, rfl, b0, b1⟩ := withinD_true h2
    obtain ⟨c, rfl, c0, c1⟩ := withinD_true h4
    obtain ⟨t, rfl, t0, t1⟩ := withinD_true h5
    refine ⟨⟨a, b, c, t⟩, rfl, a0, a1, b0, b1, ?_, c0, c1, t0, t1⟩
    unfold neI at h3
    simpa using h3
  · cases h
theorem roads_true {p : Int} : ∀ {rs : List PyData}, rs.all (roadD p) = true → ∃ qs : List Road, rs = qs.map Road.dt ∧ ∀ q ∈ qs, RoadOk p q
  | [], _ => ⟨[], rfl, fun _ h => nomatch h⟩
  | d :: rs, h => by
    rw [List.all_cons, Bool.and_eq_true] at h
    obtain ⟨q, rfl, hq⟩ := roadD_true h.1
    obtain ⟨qs, rfl, hqs⟩ := roads_true h.2
    refine ⟨q :: qs, rfl, fun z hz => ?_⟩
    rcases List.mem_cons.mp hz with rfl | hz
    · exact hq
    · exact hqs z hz
theorem netD_true {x : PyData} (h : netD x = true) : ∃ (p : Int) (rs : List Road), x = netT p rs ∧ NetOk p rs := by
  unfold netD at h
  split at h
  · simp only [Bool.and_eq_true] at h
    obtain ⟨h1, h2, h3⟩ := h
    obtain ⟨p, e, p0, p1⟩ := withinD_true h1
    cases e
    obtain ⟨qs, rfl, hq⟩ := roads_true h3
    have h2 := of_decide_eq_true h2
    rw [List.length_map] at h2
    exact ⟨_, qs, rfl, p0, p1, h2, hq⟩
  · cases h
theorem dt_inj {q r : Road} (h : q.dt = r.dt) : q = r := by
  unfold Road.dt at h
  cases q
  cases r
  simp only [PyData.tuple.injEq, List.cons.injEq, PyData.int.injEq, and_true] at h
  obtain ⟨h1, h2, h3, h4⟩ := h
  rw [h1, h2, h3, h4]
theorem dts_inj : ∀ {u v : List Road}, u.map Road.dt = v.map Road.dt → u = v
  | [], [], _ => rfl
  | [], _ :: _, h => by cases h
  | _ :: _, [], h => by cases h
  | x :: u, y :: v, h => by
    rw [List.map_cons, List.map_cons] at h
    injection h with h1 h2
    rw [dts_inj h2, dt_inj h1]
theorem net_inj {p p' : Int} {rs rs' : List Road} (h : netT p rs = netT p' rs') : p = p' ∧ rs = rs' := by
  unfold netT at h
  simp only [PyData.tuple.injEq, List.cons.injEq, PyData.int.injEq, and_true] at h
  exact ⟨h.1, dts_inj h.2⟩
end Dl

set_option maxHeartbeats 1000000
namespace Dl
open PySem PySem.Spec PyProof.Rows L2
/-! ### a, b, c, d, e = x, y, z, [..], w: data, and one new list -/
def tPar5L (K : PySem.W.Frag) (j1 j2 j3 j4 j5 : Nat) (t1 t2 t3 : TE) (tl : TA) (t5 : TE) : TS := tAsg (tTup (tCons t1 (tCons t2 (tCons t3 (tCons (tLst tl) (tCons t5 tNil)))))) (gTup K 5 (gCons (gName j1) (gCons (gName j2) (gCons (gName j3) (gCons (gName j4) (gCons (gName j5) gNil))))))
def dPar5L (j1 j2 j3 j4 j5 : Nat) (g1 g2 g3 : TD) (gl : TDA) (g5 : TD) : TDS := fun dd R ρ => g1 ρ (fun s1 => g2 ρ (fun s2 => g3 ρ (fun s3 => gl ρ (fun ss => ss.length ≤ sizeLine ∧ ∃ ds, dats ss = some ds ∧ g5 ρ (fun s5 => ∃ x1 x2 x3 x5, s1 = .d x1 ∧ s2 = .d x2 ∧ s3 = .d x3 ∧ s5 = .d x5 ∧ dd.nx (((((ρ.set j1 (.d x1)).set j2 (.d x2)).set j3 (.d x3)).set j4 (.ml ds)).set j5 (.d x5))) R) R) R) R) R
section
variable {K : PySem.W.Frag} {τ : List (Addr × Str)} {E : XK}
instance {j1 j2 j3 j4 j5 : Nat} {t1 t2 t3 t5 : TE} {tl : TA} {g1 g2 g3 g5 : TD} {gl : TDA} [h1 : RefE K τ E t1 g1] [h2 : RefE K τ E t2 g2] [h3 : RefE K τ E t3 g3] [hl : RefA K τ E tl gl] [h5 : RefE K τ E t5 g5] : RefS K τ E (tPar5L K j1 j2 j3 j4 j5 t1 t2 t3 tl t5) (dPar5L j1 j2 j3 j4 j5 g1 g2 g3 gl g5) := ⟨fun W A0 H0 D dd R H σ ρ gσ gρ b sr er ek h => by
  obtain ⟨W', A, c⟩ := sr
  refine h1.go W' A H σ ρ _ R _ (c.at_ ek) h fun v1 H1 s1 f1 i1 r1 q => ?_
  have c1 := c.step f1 i1
  refine h2.go W' A H1 σ ρ _ R _ (c1.at_ ek) q fun v2 H2 s2 f2 i2 r2 q => ?_
  have c2 := c1.step f2 i2
  refine h3.go W' A H2 σ ρ _ R _ (c2.at_ ek) q fun v3 H3 s3 f3 i3 r3 q => ?_
  have c3 := c2.step f3 i3
  refine hl.go W' A H3 σ ρ _ R _ (c3.at_ ek) q fun vs H4 ss f4 i4 r4 q => ?_
  have c4 := c3.step f4 i4
  obtain ⟨hs, ds, ed, q⟩ := q
  refine ⟨by rw [r4.length]; exact hs, fun p4 n4 => ?_⟩
  have a4 := (c4.at_ ek).aside (xs := vs) n4
  refine h5.go W' _ _ σ ρ _ R _ a4 q fun v5 H5 s5 f5 i5 r5 q => ?_
  obtain ⟨x1, x2, x3, x5, rfl, rfl, rfl, rfl, q⟩ := q
  refine ⟨by show 5 ≤ sizeLine; decide, fun p n => ?_⟩
  have f6 : Fr W'.B H5 (upd H5 p (.tup [v1, v2, v3, .ref p4, v5])) := Fr.new n
  have i6 := W'.stay _ _ (same_new (o := .tup [v1, v2, v3, .ref p4, v5]) n) i5
  have fl : Fr W'.B H4 (upd H4 p4 (.lst vs)) := Fr.new n4
  have f46 := (fl.trans f5).trans f6
  have nB : ¬ W'.B p4 := c4.bs.nB (nob n4)
  have ba := c.bs.ba
  have r1' : Rp K A H4 v1 x1 := Rp.go (goes_fr ba ((f2.trans f3).trans f4)) r1
  have r2' : Rp K A H4 v2 x2 := Rp.go (goes_fr ba (f3.trans f4)) r2
  have r3' : Rp K A H4 v3 x3 := Rp.go (goes_fr ba f4) r3
  have rp := (r4.dats c3.bs ed).go (A' := fun a => A a ∨ a = p4) (H' := H4) fun b' o eb _ nb => ⟨eb, fun z => z.elim nb (ne_of_none eb n4)⟩
  have e4 : (upd H5 p (.tup [v1, v2, v3, .ref p4, v5])) p4 = some (.lst vs) := (f5.trans f6).1 _ _ upd_same nt_lst nB
  have k3 := ((c4.set (i := j1) (v := v1) (s := .d x1) trivial ⟨v1, rfl, r1'⟩).set (i := j2) (v := v2) (s := .d x2) trivial ⟨v2, rfl, r2'⟩).set (i := j3) (v := v3) (s := .d x3) trivial ⟨v3, rfl, r3'⟩
  have k4 := k3.own (i := j4) (p := p4) (s := .ml ds) f46 i6 (nob n4) ⟨p4, vs, rfl, e4, nB, .inr rfl, rp.go (goes_fr (fun a z => .inl (ba a z)) f46)⟩ trivial
  have r5' : Rp K (fun a => A a ∨ a = p4) (upd H5 p (.tup [v1, v2, v3, .ref p4, v5])) v5 x5 := Rp.go (goes_fr (fun a z => .inl (ba a z)) f6) r5
  have k5 := k4.set (i := j5) (v := v5) (s := .d x5) trivial ⟨v5, rfl, r5'⟩
  exact ⟨p, _, rfl, SqT.of upd_same, rfl, v1, _, rfl, v2, _, rfl, v3, _, rfl, .ref p4, _, rfl, v5, _, rfl, rfl, er.nx _ _ _ ⟨W', _, k5⟩ q⟩⟩
theorem dPar5L_c {j1 j2 j3 j4 j5 : Nat} {g1 g2 g3 g5 : TD} {gl : TDA} {dd : DEnds} {R : Er → Prop} {ρ : List Sl} : dPar5L j1 j2 j3 j4 j5 g1 g2 g3 gl g5 dd R ρ = g1 ρ (fun s1 => g2 ρ (fun s2 => g3 ρ (fun s3 => gl ρ (fun ss => ss.length ≤ sizeLine ∧ ∃ ds, dats ss = some ds ∧ g5 ρ (fun s5 => ∃ x1 x2 x3 x5, s1 = .d x1 ∧ s2 = .d x2 ∧ s3 = .d x3 ∧ s5 = .d x5 ∧ dd.nx (((((ρ.set j1 (.d x1)).set j2 (.d x2)).set j3 (.d x3)).set j4 (.ml ds)).set j5 (.d x5))) R) R) R) R) R := propext Iff.rfl
end
end Dl

namespace Dl
open PySem PySem.Spec PyProof.Rows L2
/-! ### a, b = [], e: a new list, and data -/
def tParLd (i j : Nat) (te : TE) : TS := tPar i j (tCons (tLst tNil) (tCons te tNil))
def dParLd (i j : Nat) (fe : TD) : TDS := fun dd R ρ => fe ρ (fun s => ∃ x, s.dat = some x ∧ dd.nx ((ρ.set i (.ml [])).set j (.d x))) R
section
variable {K : PySem.W.Frag} {τ : List (Addr × Str)} {E : XK}
instance {i j : Nat} {te : TE} {fe : TD} [he : RefE K τ E te fe] : RefS K τ E (tParLd i j te) (dParLd i j fe) := ⟨fun W A0 H0 D dd R H σ ρ gσ gρ b sr er ek h => by
  obtain ⟨W', A, c⟩ := sr
  refine ⟨Nat.zero_le _, fun p1 n1 => ?_⟩
  have f1 : Fr W'.B H (upd H p1 (.lst [])) := Fr.new n1
  refine he.go W' (fun b => A b ∨ b = p1) _ σ ρ _ R _ ((c.at_ ek).aside n1) h fun v H2 s f2 i2 r2 q2 => ?_
  obtain ⟨x, ex, q2⟩ := q2
  have nB : ¬ W'.B p1 := c.bs.nB (nob n1)
  have e1 : H2 p1 = some (.lst []) := f2.1 _ _ upd_same nt_lst nB
  have rp := r2.dat ((c.at_ ek).aside n1).bs ex
  have f12 := f1.trans f2
  have c4 := c.own (i := i) (s := .ml []) f12 i2 (nob n1) ⟨p1, [], rfl, e1, nB, .inr rfl, .nil⟩ trivial
  have c5 := c4.set (i := j) (s := .d x) trivial ⟨v, rfl, rp⟩
  exact ⟨_, _, rfl, er.nx _ _ _ ⟨W', _, c5⟩ q2⟩⟩
theorem dParLd_c {i j : Nat} {fe : TD} {dd : DEnds} {R : Er → Prop} {ρ : List Sl} : dParLd i j fe dd R ρ = fe ρ (fun s => ∃ x, s.dat = some x ∧ dd.nx ((ρ.set i (.ml [])).set j (.d x))) R := propext Iff.rfl
end
end Dl

namespace Dl
open PySem PySem.Spec PyProof.Rows L2
/-! ### {x: (n, None)} as a value -/
section
variable {K : PySem.W.Frag} {τ : List (Addr × Str)} {E : XK}
def disp2K (Qd : Sl → Prop) (n : Int) : Sl → Prop := fun s => match keyOf s with
  | some k => Qd (.mo (.dk [(k, .tuple [.int n, .none])]))
  | none => False
def dDisp2 (j : Nat) (n : Int) : TD := fun ρ Qd _ => disp2K Qd n ((ρ[j]?).getD .un)
instance {j : Nat} {n : Int} : RefE K τ E (tDisp [(tVar j, tTup (tCons (tC (.int n)) (tCons (tC .non) tNil)))]) (dDisp2 j n) := ⟨fun W A H σ ρ Qd R Q a h w => by
  intro p np
  unfold dDisp2 disp2K at h
  split at h
  · rename_i k ek
    cases e : ρ[j]? with
    | none =>
      rw [e] at ek
      cases ek
    | some s =>
      rw [e] at ek
      obtain ⟨v, e1, r⟩ := a.env.at_ _ _ e
      have es : s ≠ .un := fun z => by
        subst z
        cases ek
      have ek' : keyOf s.val = some k := by
        cases s <;> first | exact ek | cases ek
      obtain ⟨u, rfl, r2⟩ := r.val (H0 := H) es
      obtain rfl := key_flat r2 ek'
      refine ⟨_, e1, by show 2 ≤ sizeLine; decide, fun q nq => ?_⟩
      have pq : p ≠ q := fun z => by
        rw [← z, upd_same] at nq
        cases nq
      have nqH : H q = none := by
        rw [upd_ne (fun z => pq z.symm)] at nq
        exact nq
      have ep : upd (upd H p (.dK [])) q (.tup [.int n, .non]) p = some (.dK []) := (upd_ne pq).trans upd_same
      refine ⟨ep, [(k, .ref q)], rfl, by show 1 ≤ 15; decide, ?_⟩
      have same : Same H (upd (upd (upd H p (.dK [])) q (.tup [.int n, .non])) p (.dK [(k, .ref q)])) := fun b o eb => by
        rw [upd_ne (ne_of_none eb np), upd_ne (ne_of_none eb nqH), upd_ne (ne_of_none eb np)]
        exact eb
      have eq : upd (upd (upd H p (.dK [])) q (.tup [.int n, .non])) p (.dK [(k, .ref q)]) q = some (.tup [.int n, .non]) := (upd_ne (fun z => pq z.symm)).trans upd_same
      refine w (.ref p) _ (.mo (.dk [(k, .tuple [.int n, .none])])) (Fr.of same) (W.stay _ _ same a.bs.inv) ⟨p, _, rfl, nob np, upd_same, rfl, .cons (.tup ⟨eq, fun z => z.elim (a.bs.nA (nob nqH)) (fun z => pq z.symm)⟩ (.cons (.int n) (.cons .non .nil))) .nil⟩ h
  · exact h.elim⟩
/-! ### return d, a dict of one's own -/
def tRetOd (i : Nat) : TS := tRet (tVar i)
def dRetOd (i : Nat) : TDS := fun dd R ρ => ∃ o, ρ[i]? = some (.mo o) ∧ dd.rt (.mo o)
instance {i : Nat} : RefS K τ E (tRetOd i) (dRetOd i) := ⟨fun W A0 H0 D dd R H σ ρ gσ gρ b sr er ek h => by
  obtain ⟨W', A, c⟩ := sr
  obtain ⟨o, e, q⟩ := h
  obtain ⟨v', ev, p, ho, e1, ep, nB, aP, r0⟩ := (c.env.pre c.lg).at_ _ _ e
  subst e1
  refine ⟨.ref p, ev, er.rt (.ref p) H (.mo o) c.fr (c.wl.inv _ c.bs.inv) ⟨p, ho, rfl, c.new i p _ e trivial ev, ep, r0.go (goes_less fun a z => z.elim (c.a0 a) fun z => z ▸ aP)⟩ q⟩⟩
theorem dRetOd_c {i : Nat} {dd : DEnds} {R : Er → Prop} {ρ : List Sl} : dRetOd i dd R ρ = ∃ o, ρ[i]? = some (.mo o) ∧ dd.rt (.mo o) := propext Iff.rfl
section
variable {Qd : Sl → Prop} {R : Er → Prop} {ρ : List Sl}
theorem dDisp2_c {j : Nat} {n : Int} : dDisp2 j n ρ Qd R = disp2K Qd n ((ρ[j]?).getD .un) := propext Iff.rfl
theorem disp2K_i {n i : Int} : disp2K Qd n (.d (.int i)) = Qd (.mo (.dk [(.inl i, .tuple [.int n, .none])])) := propext Iff.rfl
end
end
end Dl

namespace Dl
open PySem PySem.Spec PyProof.Rows L2
/-! ### the greatest of some data -/
def rMaxX (K : PySem.W.Frag) : List V → Hp → VK → Prop := fun xs H Q => ∃ (a : Addr) (vs : List V) (x : PyData) (ds : List PyData), xs = [.ref a] ∧ SqL K H a vs ∧ DpAll K H vs (x :: ds) ∧ PySem.W.AlikeAll (x :: ds) ∧ PyData.depthAll (x :: ds) ≤ 60 ∧ ∀ (i : Nat) (v : V), vs[i]? = some v → (x :: ds)[i]? = some (PySem.W.maxD x ds) → Q v H
open PySem.W in
theorem max_idx {prog : Program} {w : World} {A : Around} {E : Value → Shared → Prop} {s : Shared} {l : Addr} {vs : Array Value} {x : PyData} {xs : List PyData} {as : List Addr} {Q : Value → Shared → Prop} (hh : A.handled = none) (hl : s.heap.IsList l vs) (hr : ReadsAll s.heap vs.toList (x :: xs) as) (ha : AlikeAll (x :: xs)) (hu : A.units + 1 + PyData.depthAll (x :: xs) < cLine)
    (h : ∀ (i : Nat) v h' tk, vs[i]? = some v → (x :: xs).getD i .none = maxD x xs → (∀ b o, s.heap.get? b = some o → h'.get? b = some o) → Q v { s with heap := h', toks := tk }) :
    wpAny (model prog w) A (call (.builtin "max") [.ref l]) Q E s := by
  have hn : vs.size = xs.length + 1 := readsAll_len hr
  refine call_max_walkH (iter_listW (A := A.in1) hh hl fun s₂ e W st hfp hw hk => ?_)
  refine ⟨_, _, _, _, _, _, _, s.heap, _, rfl, W, st, hfp, by omega, hw, hk, cmpIn_gt (A := A.in1) hr ha (by show A.units + 1 + _ < _; exact hu), fun v s' hP m => ?_⟩
  obtain ⟨h', tk, rfl, hk'⟩ := moved_old e rfl m
  have e1 : vs.size - 1 = xs.length := by omega
  have e2 := (argBest_fold (fun a b => dataLt b a) PyData.none x xs xs.length (Nat.le_refl _)).2
  rw [List.take_length] at e2
  exact h _ v h' tk hP (by rw [e1]; unfold maxD; exact e2) hk'
theorem cr_maxX {X : Cx} (hc : X.calm = true) (hu : X.A.units + 64 < cLine) : CallR X (.builtin "max") (rMaxX X.K) := by
  intro pins s σ H vs us Q I r h
  obtain ⟨a, ws, x, ds, rfl, hs, hp, al, dd, q⟩ := h
  rw [Vals.ref1 r]
  obtain ⟨its, rv, hl, _⟩ := I.list hs
  obtain ⟨as, ra⟩ := Dp.readsAll I _ _ _ hp rv
  refine max_idx (I.ok.hd hc) hl.isList (by simpa using ra) al (by omega) fun i v h' tk hv hm hk => ?_
  have hv' : its[i]? = some v := by simpa using hv
  have hi : i < ws.length := by
    rw [rv.length]
    exact (List.getElem?_eq_some_iff.mp hv').1
  obtain ⟨u, e1, rel⟩ := rv.get (List.getElem?_eq_getElem hi)
  rw [e1] at hv'
  cases hv'
  have hl2 : i < (x :: ds).length := by
    have h2 := PySem.W.readsAll_len (vs := its.toArray) (by simpa using ra)
    have h3 := rv.length
    rw [List.size_toArray] at h2
    omega
  refine ⟨ws[i], H, I.kept (t' := tk) hk, rel, q i _ (List.getElem?_eq_getElem hi) ?_⟩
  rw [List.getElem?_eq_getElem hl2]
  unfold List.getD at hm
  rw [List.getElem?_eq_getElem hl2] at hm
  exact congrArg some hm
theorem cr_maxXK {X : Cx} {K : PySem.W.Frag} (hK : X.K = K) (hc : X.calm = true) (hu : X.A.units + 64 < cLine) : CallR X (.builtin "max") (rMaxX K) := by
  subst hK
  exact cr_maxX hc hu
section
variable {K : PySem.W.Frag} {τ : List (Addr × Str)} {E : XK}
def maxK (Qd : Sl → Prop) : List PyData → Prop := fun xs => match xs with
  | x :: ds => minOk x ds ∧ Qd (.d (PySem.W.maxD x ds))
  | [] => False
def fMaxX : List Sl → (Sl → Prop) → Prop := fun ss Qd => match ss with
  | [s] => (match s.seq with
    | some xs => maxK Qd xs
    | none => False)
  | _ => False
instance : RefC K (rMaxX K) fMaxX := ⟨fun W A H0 H xs ss Qd Q b f i rx h w => by
  unfold fMaxX at h
  split at h
  · obtain ⟨v, rfl, r⟩ := vlsr1 rx
    split at h
    · rename_i xs ex
      obtain ⟨p, vs, rfl, sq, r⟩ := r.seq b ex
      unfold maxK at h
      split at h
      · rename_i x ds
        obtain ⟨ok, q⟩ := h
        refine ⟨p, vs, x, ds, rfl, sqLA_sq sq, r.dp ok.1, ok.2.1, ok.2.2, fun i' v ev ed => ?_⟩
        obtain ⟨d, e1, rd⟩ := r.getV ev
        rw [ed] at e1
        cases e1
        exact w v H (.d _) (Fr.refl H) i rd q
      · exact h.elim
    · exact h.elim
  · exact h.elim⟩

end
section
variable {Qd : Sl → Prop}
theorem max_foldl (n : Int) : ∀ ns : List Int, (∀ y ∈ n :: ns, y ≤ ns.foldl max n) ∧ (ns.foldl max n = n ∨ ns.foldl max n ∈ ns)
  | [] => ⟨fun y hy => by rw [List.mem_singleton.mp hy]; exact Int.le_refl _, .inl rfl⟩
  | x :: ns => by
    obtain ⟨h1, h2⟩ := max_foldl (max n x) ns
    rw [List.foldl_cons]
    refine ⟨fun y hy => ?_, ?_⟩
    · have hm := h1 _ List.mem_cons_self
      rcases List.mem_cons.mp hy with rfl | hy
      · omega
      · rcases List.mem_cons.mp hy with rfl | hy
        · omega
        · exact h1 y (List.mem_cons_of_mem _ hy)
    · rcases h2 with h2 | h2
      · rw [h2]
        by_cases h : n ≤ x
        · exact .inr (by rw [show max n x = x by omega]; exact List.mem_cons_self)
        · exact .inl (by omega)
      · exact .inr (List.mem_cons_of_mem _ h2)
end
end Dl

namespace Dl
open PySem PySem.Spec PyProof.Rows L2
/-! ### xs.remove(k), whole numbers -/
section
variable {K : PySem.W.Frag} {τ : List (Addr × Str)} {E : XK}
def dRmI (i j : Nat) : TDS := fun dd _ ρ => ∃ (ns : List Int) (k : Int) (m : Nat), ρ[i]? = some (.ml (ns.map PyData.int)) ∧ ρ[j]? = some (.d (.int k)) ∧ ns[m]? = some k ∧ (∀ m' : Nat, m' < m → ns[m']? ≠ some k) ∧ dd.nx (ρ.set i (.ml ((ns.eraseIdx m).map PyData.int)))
instance {i j : Nat} : RefS K τ E (tDrop (tBM K "list" rRemI (tVar i) (tCons (tVar j) tNil))) (dRmI i j) := ⟨fun W A0 H0 D dd R H σ ρ gσ gρ b sr er ek h => by
  obtain ⟨W', A, c⟩ := sr
  obtain ⟨ns, k, m, e, ej, hm, hn, q⟩ := h
  obtain ⟨p, vs, ev, ep, nB, r0⟩ := c.own_at e
  obtain rfl := RpAll.ints r0
  obtain ⟨v', evj, u, rfl, rj⟩ := (c.at_ ek).env.at_ _ _ ej
  cases rj
  refine ⟨.ref p, ev, .inl ⟨rfl, _, SqL.of ep⟩, .int k, evj, p, ns, k, m, rfl, rfl, ep, hm, hn, ?_⟩
  exact er.nx _ _ _ ⟨W', A, c.mut e ev (RpAll.of_ints _)⟩ q⟩
end
end Dl

set_option maxHeartbeats 1000000
namespace Dl
open PySem PySem.Spec PyProof.Rows L2
open PySem.W
section
/-! ### any of a tuple of data -/
def rAnyT (K : PySem.W.Frag) : List V → Hp → VK → Prop := fun xs H Q => ∃ a ds, xs = [a] ∧ Dp K H a (.tuple ds) ∧ PyData.plainAll ds = true ∧ (∀ x ∈ ds, x.fits63) ∧ Q (.bl (ds.any PyData.truthy)) H
theorem call_anyT {X : Cx} {K : PySem.W.Frag} (e : X.K = K) (hc : X.calm = true) : CallR X (.builtin "any") (rAnyT K) := by
  subst e
  intro pins t σ H xs us Q I r h
  obtain ⟨a, ds, rfl, pa, hp, hf, q⟩ := h
  cases r with
  | cons ra rr =>
    cases rr
    obtain ⟨as, h1⟩ := Dp.reads I _ _ _ pa ra
    cases h1 with
    | tuple h1 h2 h3 h4 => exact any_tuple_data (I.ok.hd hc) ⟨_, h1, h2, _, h3⟩ h4 hp hf fun h' tk k => ⟨.bl (ds.any PyData.truthy), H, I.kept k, (show RelV (.bl _) (.bool _) from rfl), q⟩
def fAnyT : List Sl → (Sl → Prop) → Prop := fun ss Qd => ∃ ds, ss = [.d (.tuple ds)] ∧ (PyData.tuple ds).canLay0 = true ∧ PyData.plainAll ds = true ∧ (∀ x ∈ ds, x.fits63) ∧ Qd (.d (.bool (ds.any PyData.truthy)))
instance {K : PySem.W.Frag} : RefC K (rAnyT K) fAnyT := ⟨fun W A H0 H xs ss Qd Q b f i rx h w => by
  obtain ⟨ds, rfl, l1, hp, hf, q⟩ := h
  obtain ⟨v, rfl, r⟩ := vlsr1 rx
  have r : Rp K A H v (.tuple ds) := r
  exact ⟨v, ds, rfl, r.dp l1, hp, hf, w (.bl (ds.any PyData.truthy)) H (.d (.bool (ds.any PyData.truthy))) (Fr.refl H) i (Rp.bl _) q⟩⟩
end
end Dl

set_option maxHeartbeats 1000000
namespace Dl
open PySem PySem.Spec PyProof.Rows L2
open PySem.W
section
/-! ### sum of a tuple of whole numbers -/
theorem reads_intsT {h : Heap} : ∀ {us : List Value} {ns : List Int} {as : List Addr}, ReadsAll h us (ns.map PyData.int) as → IntsAre us ns
  | [], [], _, _ => .nil
  | _ :: _, [], _, r => by cases r
  | [], _ :: _, _, r => by cases r
  | u :: us, n :: ns, _, r => by
    cases r with
    | cons h1 h2 =>
      cases h1
      exact .cons _ _ (reads_intsT h2)
theorem ints_lay0 : ∀ ns : List Int, PyData.canLayAll0 (ns.map PyData.int) = true
  | [] => rfl
  | n :: ns => by
    rw [List.map_cons, PyData.canLayAll0, ints_lay0 ns]
    rfl
def rSumT (K : PySem.W.Frag) : List V → Hp → VK → Prop := fun xs H Q => ∃ (a : V) (ns : List Int), xs = [a] ∧ Dp K H a (.tuple (ns.map PyData.int)) ∧ Q (.int ns.sum) H
theorem call_sumT {X : Cx} {K : PySem.W.Frag} (e : X.K = K) (hc : X.calm = true) : CallR X (.builtin "sum") (rSumT K) := by
  subst e
  intro pins t σ H xs us Q I r h
  obtain ⟨a, ns, rfl, pa, q⟩ := h
  cases r with
  | cons ra rr =>
    cases rr
    obtain ⟨as, h1⟩ := Dp.reads I _ _ _ pa ra
    cases h1 with
    | @tuple l o vs n ys as1 h1 h2 h3 h4 =>
      have hi := reads_intsT h4
      obtain ⟨xs, hx⟩ := hi.allInts.items
      have ev : vs = intItems xs := by
        rw [← hx]
      have hn : numsOf (intItems xs).toList = ns := by rw [← ev, hi.numsOf]
      rw [nums_intItems] at hn
      refine ktm_sumG (I.ok.hd hc) (xs := xs) (ev ▸ ⟨_, h1, h2, _, h3⟩) fun h' tk t' k => ?_
      rw [preSum_eq, List.take_of_length_le (by simp), hn]
      exact ⟨.int _, H, I.kept k, ⟨t', rfl⟩, q⟩
def fSumT : List Sl → (Sl → Prop) → Prop := fun ss Qd => ∃ ns : List Int, ss = [.d (.tuple (ns.map PyData.int))] ∧ Qd (.d (.int ns.sum))
instance {K : PySem.W.Frag} : RefC K (rSumT K) fSumT := ⟨fun W A H0 H xs ss Qd Q b f i rx h w => by
  obtain ⟨ns, rfl, q⟩ := h
  obtain ⟨v, rfl, r⟩ := vlsr1 rx
  have r : Rp K A H v (.tuple (ns.map PyData.int)) := r
  exact ⟨v, ns, rfl, r.dp (show PyData.canLayAll0 _ = true from ints_lay0 ns), w _ H (.d (.int _)) (Fr.refl H) i (.int _) q⟩⟩
end
end Dl

namespace Dl
open PySem PySem.Spec PyProof.Rows L2
/-! ### f(e, .., k = v): some keyword-only parameters are told, the others lack -/
def pickC {α : Type} (src : List Nat) (vs zs : List α) : List α := src.filterMap fun j => (vs ++ zs)[j]?
theorem pickC_vals {src : List Nat} {vs zs : List V} {us ws : List Value} (r : Vals vs us) (rz : Vals zs ws) : Vals (pickC src vs zs) (pickC src us ws) := by
  have ra := r.append rz
  unfold pickC
  induction src with
  | nil => exact .nil
  | cons j src ih =>
    cases e : (vs ++ zs)[j]? with
    | none =>
      have e2 : (us ++ ws)[j]? = none := by
        have := List.getElem?_eq_none_iff.mp e
        exact List.getElem?_eq_none (by rw [← ra.length]; exact this)
      rw [List.filterMap_cons_none e, List.filterMap_cons_none e2]
      exact ih
    | some v =>
      obtain ⟨u, e2, hu⟩ := ra.get e
      rw [List.filterMap_cons_some e, List.filterMap_cons_some e2]
      exact .cons hu ih
section
variable {K : PySem.W.Frag} {τ : List (Addr × Str)} {E : XK}
theorem pickC_vlsr {W : Wld τ} {A : Addr → Prop} {H0 H : Hp} {vs us : List V} {ss zs : List Sl} (r : VlsR K W A H0 H vs ss) (rz : VlsR K W A H0 H us zs) : ∀ {src : List Nat}, VlsR K W A H0 H (pickC src vs us) (pickC src ss zs) := by
  have app := r.app rz
  intro src
  unfold pickC
  induction src with
  | nil => exact .nil
  | cons j src ih =>
    cases e : (ss ++ zs)[j]? with
    | none =>
      have e2 : (vs ++ us)[j]? = none := by
        have := List.getElem?_eq_none_iff.mp e
        exact List.getElem?_eq_none (by rw [app.length]; exact this)
      rw [List.filterMap_cons_none e, List.filterMap_cons_none e2]
      exact ih
    | some s =>
      obtain ⟨u, e2, hu⟩ := app.get e
      rw [List.filterMap_cons_some e, List.filterMap_cons_some e2]
      exact .cons hu ih
def kwP (ms : List Bool) (sp : SpD) (n m : Nat) (src : List Nat) (ds : List Sl) (Qd : Sl → Prop) (R : Er → Prop) (ss zs : List Sl) : Prop := ss.length = n ∧ zs.length = m ∧ sp (cvs ms (pickC src ss (zs ++ ds))) Qd R
def dCallP (ms : List Bool) (sp : SpD) (n m : Nat) (src : List Nat) (ds : List Sl) (fa fk : TDA) : TD := fun ρ Qd R => fa ρ (fun ss => fk ρ (kwP ms sp n m src ds Qd R ss) R) R
def dCallP0 (ms : List Bool) (sp : SpD) (n m : Nat) (src : List Nat) (ds : List Sl) (fa fk : TDA) : TD := fun ρ Qd R => fa ρ (fun ss => fk ρ (kwP ms sp n m src ds Qd (fun _ => False) ss) R) R
instance {ms : List Bool} {sp : SpD} {n m : Nat} {src : List Nat} {dvs : List V} {ds : List Sl} {t tk : TA} {fa fk : TDA} [hd : RefVs K dvs ds] [ha : RefA K τ E t fa] [hk : RefA K τ E tk fk] : RefE K τ E (tCallN n m (spD K ms sp) (fun vs zs => pickC src vs (zs ++ dvs)) E0 t tk) (dCallP0 ms sp n m src ds fa fk) := ⟨fun W A H σ ρ Qd R Q a h w => by
  refine ha.go W A H σ ρ _ R _ a h fun vs H1 ss f1 i1 r1 q => ?_
  refine hk.go W A H1 σ ρ _ R _ (a.fr f1 i1) q fun us H2 zs f2 i2 r2 q2 => ?_
  obtain ⟨hn, hm, q2⟩ := q2
  obtain ⟨r3, ar⟩ := (pickC_vlsr (src := src) (r1.fr a.bs f2) ((r2.early f1).app (hd.go W A H H2))).cvs a.bs ms
  exact ⟨by rw [r1.length]; exact hn, by rw [r2.length]; exact hm, τ, W, A, _, Qd, _, a.bs.fr (f1.trans f2) i2, r3, ar, q2, w.back (f1.trans f2), fun er x H' f i z r => r.elim⟩⟩
instance (priority := low) {ms : List Bool} {sp : SpD} {n m : Nat} {src : List Nat} {dvs : List V} {ds : List Sl} {t tk : TA} {fa fk : TDA} [hd : RefVs K dvs ds] [ha : RefA K τ E t fa] [hk : RefA K τ E tk fk] : RefE K τ E (tCallN n m (spD K ms sp) (fun vs zs => pickC src vs (zs ++ dvs)) E t tk) (dCallP ms sp n m src ds fa fk) := ⟨fun W A H σ ρ Qd R Q a h w => by
  refine ha.go W A H σ ρ _ R _ a h fun vs H1 ss f1 i1 r1 q => ?_
  refine hk.go W A H1 σ ρ _ R _ (a.fr f1 i1) q fun us H2 zs f2 i2 r2 q2 => ?_
  obtain ⟨hn, hm, q2⟩ := q2
  obtain ⟨r3, ar⟩ := (pickC_vlsr (src := src) (r1.fr a.bs f2) ((r2.early f1).app (hd.go W A H H2))).cvs a.bs ms
  exact ⟨by rw [r1.length]; exact hn, by rw [r2.length]; exact hm, τ, W, A, _, Qd, R, a.bs.fr (f1.trans f2) i2, r3, ar, q2, w.back (f1.trans f2), (a.fr (f1.trans f2) i2).er⟩⟩
theorem dCallP_c {ms : List Bool} {sp : SpD} {n m : Nat} {src : List Nat} {ds : List Sl} {fa fk : TDA} {ρ : List Sl} {Qd : Sl → Prop} {R : Er → Prop} : dCallP ms sp n m src ds fa fk ρ Qd R = fa ρ (fun ss => fk ρ (kwP ms sp n m src ds Qd R ss) R) R := propext Iff.rfl
theorem dCallP0_c {ms : List Bool} {sp : SpD} {n m : Nat} {src : List Nat} {ds : List Sl} {fa fk : TDA} {ρ : List Sl} {Qd : Sl → Prop} {R : Er → Prop} : dCallP0 ms sp n m src ds fa fk ρ Qd R = fa ρ (fun ss => fk ρ (kwP ms sp n m src ds Qd (fun _ => False) ss) R) R := propext Iff.rfl
theorem kwP_i {ms : List Bool} {sp : SpD} {n m : Nat} {src : List Nat} {ds : List Sl} {Qd : Sl → Prop} {R : Er → Prop} {ss zs ps : List Sl} (h1 : ss.length = n) (h2 : zs.length = m) (h3 : pickC src ss (zs ++ ds) = ps) (h : sp (cvs ms ps) Qd R) : kwP ms sp n m src ds Qd R ss zs := ⟨h1, h2, by rw [h3]; exact h⟩
end
end Dl
namespace Wy
open PySem PySem.Spec PyProof.Rows L2 Dl
theorem pe_ckP {X : Cx} {CX : CXT} {E : XK} {k n m : Nat} {st : Stmt} {ps ks : List Str} {kwd : List (Str × V)} {src : List Nat} {dvs : List V} {sp : Sp} {x : Str} {p pos : Pos} {e : Expr} {es : List Expr} {kws : List Keyword} {t tk : TA} (h : Ck X.prog X.w X.K X.mg X.base CX k x st ps kwd sp) (hb : ∀ f fd, FunD X.K x x (defArgs st) (defBody st) (defScope st) [] kwd f fd → ∃ g, KBn X.K fd ps n ks g fun vs zs => pickC src vs (zs ++ dvs)) (hm : ks.length = m) (hr : Room k X.A) (hg : Gl X x) (hx : Passes CX X E) (ha : PA X (e :: es) t) (hkw : PK X kws tk)
    (hall : (backToKw pos (keywordEach kws X.env)).all (·.1.isSome) = true := by rfl) (hks : (backToKw pos (keywordEach kws X.env)).filterMap (·.1) = ks := by rfl)
    (hdb : (x == ("__debug__" : Str)) = false := by decide) (he : starEach (e :: es) X.env = (false, eval e X.env) :: starEach es X.env := by rfl)
    (hpl : ((backTo pos (starEach (e :: es) X.env)).any (·.1) || (backToKw pos (keywordEach kws X.env)).any (·.1.isNone)) = false := by rfl) : PE X (.Call (.Name x p) (e :: es) kws pos) (tCallN n m sp (fun vs zs => pickC src vs (zs ++ dvs)) E t tk) := by
  subst hm
  obtain ⟨f, fd, F, D⟩ := h.ex
  obtain ⟨g, hb⟩ := hb f fd D.D
  exact pe_callN F hr hg D.g D.F.kp hb hx ha hkw hall hks hdb he hpl
end Wy

/-! an own exception's __init__ that says super().__init__("..") and then sets its fields -/
namespace InX
open PySem PySem.Spec PyProof.Rows L2 NdefX
section
variable {prog : Program} {w : World} {A : Around} {E : Value → Shared → Prop} {h : Heap} {g : Array GenState} {d : Drawn} {tk : Nat} {os : OsState}
variable {nm q : Str} {C N : Addr} {bs bm : List Value} {hdct : Bool} {sn : List Str} {sub : List Value} {ab : Bool} {col : Option Bool} {dd : Option Addr} {k0 k1 k2 k3 k5 : Option Value}
/-- the bound ValueError.__init__ called: the args are laid anew -/
theorem call_mwV {u e t0 : Addr} {rest : List Value} {Q : Value → Shared → Prop}
    (hC : h.get? C = some (excClassObj nm q C N bs bm hdct sn sub ab col dd k0 k1 k2 k3 k5 "ValueError.__new__")) (he : h.get? e = some (PySem.HandSPX.excO C t0)) (hu : h.get? u = some (PySem.W.kxs_mw "ValueError.__init__" e)) (hz : rest.length ≤ sizeLine)
    (hq : ∀ h', (∀ b o, b ≠ e → h.get? b = some o → h'.get? b = some o) → h'.get? e = some (PySem.HandSPX.excO C h.objs.size) → Q .none ⟨h', g, d, tk, os⟩) :
    wpAny (model prog w) A (call (.ref u) rest) Q E ⟨h, g, d, tk, os⟩ := by
  refine wpAny_call (codeAny_of_tree ?_)
  show wpAny _ A.in1 (callAny (.ref u) ⟨rest, []⟩) _ _ _
  simp only [callAny]
  refine wpAny_bind (wpAny_load hu ?_)
  simp only [PySem.W.kxs_mw, show (Value.type "method-wrapper" == Value.type "method" || Value.type "method-wrapper" == Value.type "builtin_function_or_method" || Value.type "method-wrapper" == Value.type "method-wrapper") = true by decide, if_true]
  refine PySem.W.KFB.if_so (by decide) ?_
  refine wpAny_bind (PySem.W.check_bound_init F.excBase_ValueError.toExcCallFacts hC he rfl ?_)
  refine wpAny_bind (wpAny_pure (wpAny_pure ?_))
  refine ⟨PySem.plainId_quiet F.excBase_ValueError.init.plain _, codeAny_builtin F.excBase_ValueError.initEntry ?_⟩
  exact PySem.W.exc_init_tree (cls := .ref C) (t0 := t0) (dv := none) (c2 := .none) (c3 := .none) (b4 := .bool false) he hz fun h' k e' _ => hq h' k e'
end
/-- what K tells of a class with such an __init__ -/
structure SupC (P : Program) (K : PySem.W.Frag) (C : Addr) : Prop where
  oex : OexC K C
  cd : ∃ cdD, PySem.W.clsIn K C = some cdD
  sub : PySem.W.mroIn K C (.ref C) = some true
  ve : PySem.W.subIn K (.ref C) (.type "ValueError") = some true
  sup : PySem.W.nsIn K mainGlobals "super" = some none
  any : PySem.W.nsIn K cStatics "thirdparty.any" = some none
  ini : PySem.W.ks_superIn K C C "__init__" = some (some (.builtin "ValueError.__init__"))
  top : (P.main.scope.names.lookup ("super" : Str)).isSome = false
/-- what K tells of the def -/
structure SupF (P : Program) (K : PySem.W.Frag) (C f : Addr) (F : NF) (fd : FuncData) : Prop where
  ex : ∃ (oc : Value) (od : Option Addr) (doc pm ct : Value) (osl : Array (Option Value)), fd = F.fd doc pm ct ∧ K.lookup f = some ⟨oc, od, .func fd, osl⟩
  code : PySem.W.codeIn K (.ref F.c) F.qual = true
  file : ∃ (ccl : Value) (cdd : Option Addr) (vs : Array Value) (ccs : Array (Option Value)) (file : Str) (tf : Tok), K.lookup F.c = some ⟨ccl, cdd, .fields vs, ccs⟩ ∧ vs[2]? = some (.str file tf) ∧ ((P.main.file : Str) == file) = true
  cell : ∃ (cc : Addr) (cl : Value) (cld : Option Addr) (csl : Array (Option Value)), F.cl = [(("__class__" : Str), cc)] ∧ K.lookup cc = some ⟨cl, cld, .cell (some (.ref C)), csl⟩
theorem supStmt_ok {P : Program} {w : World} {K : PySem.W.Frag} {mg : Str → Option Value} {base : Heap} {CX : CXT} {N : List Str} {F : NF} {f C a : Addr} {A : Around} {outer : List Env} {s0 : Shared} {H0 : Hp} {E : XK} {fd : FuncData}
    {σ : L2.St} {H : Hp} {s : Shared} {body : List Stmt} {p0 p1 p2 p4 p5 : Pos} {e : Expr} {ar : Arg}
    (Z : SupC P K C) (B : SupF P K C f F fd) (I : Inv (ncx CX P w K mg base N F f A outer s0 H0 E) [] σ H s) (ea : H a = some (exo a C none))
    (hp : (F.params.posonlyargs ++ F.params.args).head? = some ar) (hN : N[0]? = some ar.arg) (hσ : σ[0]? = some (some (.ref a))) (hka : F.scope.names.lookup ar.arg = some .local)
    (hks : F.scope.names.lookup ("super" : Str) = some .globalImplicit) (hkc : F.scope.names.lookup ("__class__" : Str) = some .free) (hmg : mg "super" = none)
    (ha : PA (ncx CX P w K mg base N F f A outer s0 H0 E) [e] (tCons (tC (.str x)) tNil))
    (he : starEach [e] (envF F f s0.heap.objs.size) = (false, eval e (envF F f s0.heap.objs.size)) :: starEach [] (envF F f s0.heap.objs.size))
    {pl : Sem Bool} (hc : eval (.Call (.Attribute (.Call (.Name "super" p0) [] [] p1) "__init__" p2) [e] [] p4) (envF F f s0.heap.objs.size) = (do
      let ov ← attributeBase (.Call (.Name "super" p0) [] [] p1) "__init__" (envF F f s0.heap.objs.size) (eval (.Call (.Name "super" p0) [] [] p1) (envF F f s0.heap.objs.size))
      standAt p2.atName
      let (f1, first) ← holding [ov] (getMethod ov "__init__" pl)
      callWith p4 f1 first (backTo p4 (starEach [e] (envF F f s0.heap.objs.size))) []))
    (hs : swapsWith (.Call (.Attribute (.Call (.Name "super" p0) [] [] p1) "__init__" p2) [e] [] p4) none p5.line (envF F f s0.heap.objs.size) = pure false)
    {Q : Flow → Shared → Prop} (hq : ∀ s', Inv (ncx CX P w K mg base N F f A outer s0 H0 E) [] σ H s' → Q .next s') :
    PySem.wpAt (model P w) (A.deeper (envF F f s0.heap.objs.size)) (.func body (envF F f s0.heap.objs.size)) (exec (.Expr (.Call (.Attribute (.Call (.Name "super" p0) [] [] p1) "__init__" p2) [e] [] p4) p5) (envF F f s0.heap.objs.size)) Q (ncx CX P w K mg base N F f A outer s0 H0 E).xe s := by
  obtain ⟨oc, od, doc, pm, ct, osl, rfl, lk⟩ := B.ex
  obtain ⟨ccl, cdd, vsc, ccs, file, tf, lc, hvs, hfile⟩ := B.file
  obtain ⟨cc, cl, cld, csl, ecl, lcell⟩ := B.cell
  obtain ⟨nm, q, Nn, bs, bm, sn, sub, ab, col, dd, k0, k1, k2, k3, k5, hC, hbm⟩ := Z.oex.cls
  obtain ⟨cdD, hD⟩ := Z.cd
  have KX : K.In s.heap := I.kIn
  have hk : (envF F f s0.heap.objs.size).scope.kind = .function := I.ok.kind
  obtain ⟨t1, ho⟩ := exo_at I.hok ea
  obtain ⟨oD, hD1, hD2⟩ : ∃ oD, s.heap.get? C = some oD ∧ oD.data = .cls cdD := by
    unfold PySem.W.clsIn at hD
    split at hD
    · rename_i c d cd' sl ho
      cases hD
      exact ⟨_, KX _ _ ho, rfl⟩
    · cases hD
  obtain ⟨mL, hns, hl⟩ := I.loc
  obtain ⟨ua, ra, hla⟩ := hl 0 ar.arg (.ref a) hN hσ (.inl hka)
  obtain rfl : ua = Value.ref a := ra
  obtain ⟨mb, hb1, hb2⟩ := I.mod.blt
  refine ks_wpAt_Expr_any ?_ (by unfold interactive; rw [hk]; rfl) hs
  refine ks_wpAt_MethodCall (pl := pl) ?_ hc
  refine ks_wpAt_super_base (env := envF F f s0.heap.objs.size) hks hkc (by decide) rfl (KX _ _ lk) rfl hp rfl (KX _ _ lc) rfl hvs hfile Z.top ?_
  refine PySem.W.ks_loadName_global hk hks (Calls.loadGlobal_builtin (env := envF F f s0.heap.objs.size) (I.mod.glob.keeps I.bk) hmg (hb1.keeps I.bk) ((hb2 "super" (by decide)).trans (show bootBuiltins "super" = some (.type "super") by decide +kernel)) ⟨rfl, ?_⟩)
  refine wpAny_loadName_free hk hkc (by show F.cl.lookup ("__class__" : Str) = some cc; rw [ecl]; rfl) ⟨_, KX _ _ lcell, rfl⟩ ?_
  have hself : mL ar.arg = some (.ref a) := by
    rcases hla with ⟨_, h⟩ | ⟨h, _⟩
    · exact h
    · have hkk : (ncx CX P w K mg base N F f A outer s0 H0 E).env.kindOf ar.arg = some NameKind.local := hka
      rcases h with h | h
      · rw [hkk] at h
        cases h
      · rw [hkk] at h
        cases h
  refine wpAny_loadName_local hk hka hns hself ?_
  obtain ⟨hp0, g0, d0, tk0, os0⟩ := s
  refine ks_wpAny_isType_cls hD1 hD2 ⟨rfl, ?_⟩
  refine ks_wpAny_call_super hD1 hD2 ho rfl (fun c e => by cases e) (PySem.W.looks_mroIn KX Z.sub) (fun h1 e1 k1' => ?_)
  have I1 := I.kept (t' := tk0) k1'
  have KX1 : K.In h1 := I1.kIn
  have hI : PySem.W.Looks (model P w) h1 (isInstance (.ref a) (.type "ValueError")) true := (PySem.W.InstAt.type (od := none) (C := C) ⟨k1' _ _ ho, rfl, rfl, trivial⟩).andThen (PySem.W.looks_subIn KX1 Z.ve)
  have hne : a ≠ C := fun z => by
    have := KX _ _ hC
    rw [z] at ho
    rw [ho] at this
    cases this
  obtain ⟨cdd1, hcl⟩ : ∃ cd, PySem.W.clsIn K C = some cd := Z.cd
  have hmI := Z.ini
  unfold PySem.W.ks_superIn at hmI
  rw [hcl] at hmI
  refine PySem.W.kxs_getMethod PySem.W.kxs_ValueError e1 (PySem.W.looks_opaque KX1 Z.any) (l₀ := cdd1.mro) ?_ rfl KX1 hmI hI hne (by decide) ?_
  · exact fun A Q E s k q => wpAny_bind ((PySem.W.looks_clsIn KX1 hcl) A _ E s k (wpAny_pure q))
  have hu : (h1.push (PySem.W.kxs_mw "ValueError.__init__" a)).get? h1.objs.size = some (PySem.W.kxs_mw "ValueError.__init__" a) := Heap.get?_push_at rfl rfl
  have k2' : ∀ b o, h1.get? b = some o → (h1.push (PySem.W.kxs_mw "ValueError.__init__" a)).get? b = some o := fun b o e => Heap.get?_push_of_some _ e
  have I2 := I1.kept (t' := tk0 + 1) k2'
  have Ip : Inv (ncx CX P w K mg base N F f A outer s0 H0 E) [(h1.objs.size, PySem.W.kxs_mw "ValueError.__init__" a)] σ H _ := I2.pins_of fun p hp => by
    rw [List.mem_singleton.mp hp]
    exact ⟨hu, I1.hok.fresh (Nat.le_refl _), fun z => Nat.lt_irrefl _ (z ▸ I1.lt), I1.nofs (Nat.le_refl _), fun v z => by cases z⟩
  suffices key : wpAny (model P w) (A.deeper (envF F f s0.heap.objs.size)) (spliced (backTo p4 (starEach [e] (envF F f s0.heap.objs.size)))) (fun vs s₁ => PySem.W.KxsAt "ValueError.__init__" h1.objs.size a s₁.heap ∧ wpAny (model P w) (A.deeper (envF F f s0.heap.objs.size)) (call (.ref h1.objs.size) vs) (fun _ => Q .next) (ncx CX P w K mg base N F f A outer s0 H0 E).xe s₁) (ncx CX P w K mg base N F f A outer s0 H0 E).xe ⟨h1.push (PySem.W.kxs_mw "ValueError.__init__" a), g0, d0, tk0 + 1, os0⟩ by
    rw [he] at key ⊢
    exact PySem.W.kxs_callWith (i := "ValueError.__init__") (x := a) (by rfl) (Calls.evalArgs_plain key)
  refine thn (ha.run p4 _ _ σ H (fun vs H' => vs = [.str x] ∧ H' = H) Ip ⟨rfl, rfl⟩) fun us s3 ⟨vs3, H3, I3, r3, ev, eH⟩ => ?_
  subst ev
  rw [eH] at I3
  have hu3 : s3.heap.get? h1.objs.size = some (PySem.W.kxs_mw "ValueError.__init__" a) := (I3.pin _ (List.mem_append_right _ List.mem_cons_self)).1
  refine ⟨hu3, ?_⟩
  replace I3 := I3.pins_of (pins' := []) fun p hp => nomatch hp
  obtain ⟨t3, ho3⟩ := exo_at I3.hok ea
  obtain ⟨hp3, g3, d3, tk3, os3⟩ := s3
  have hlen : us.length ≤ sizeLine := by
    rw [← Paired.length r3, sizeLine_eq]
    show 1 ≤ _
    omega
  refine call_mwV (I3.kIn _ _ hC) ho3 hu3 hlen fun h4 k4 e4 => ?_
  have J := I3.write (t' := tk3) (x := a) (e := a) (o := exo a C none) (by rw [ea]; exact True.intro) (.inl rfl) k4 ⟨_, e4⟩ (exo_ok e4)
  have eu : upd H a (exo a C none) = H := by
    funext b
    by_cases hb : b = a
    · rw [hb, upd_same, ea]
    · rw [upd_ne hb]
  rw [eu] at J
  exact hq _ J
/-- THE RULE: a def whose first statement is super().__init__("..") -/
theorem supInit_ok {P : Program} {w : World} {K : PySem.W.Frag} {mg : Str → Option Value} {base : Heap} {CX : CXT} {k : Nat} {N ps : List Str} {F : NF} {f C : Addr} {fd : FuncData} {sp : Sp} {rest : List Stmt} {p0 p1 p2 p4 p5 : Pos} {e : Expr} {ar : Arg} {x : Str}
    (Z : SupC P K C) (B : SupF P K C f F fd) (S : NScope N ps ["__class__"] F.scope)
    (hbd : F.body = .Expr (.Call (.Attribute (.Call (.Name "super" p0) [] [] p1) "__init__" p2) [e] [] p4) p5 :: rest)
    (hp : (F.params.posonlyargs ++ F.params.args).head? = some ar) (hps : ps[0]? = some ar.arg) (hks : F.scope.names.lookup ("super" : Str) = some .globalImplicit) (hmg : mg "super" = none)
    (ha : ∀ {X : Cx}, PA X [e] (tCons (tC (.str x)) tNil)) (he : ∀ env, starEach [e] env = (false, eval e env) :: starEach [] env)
    (hc : ∀ env, ∃ pl : Sem Bool, eval (.Call (.Attribute (.Call (.Name "super" p0) [] [] p1) "__init__" p2) [e] [] p4) env = (do
      let ov ← attributeBase (.Call (.Name "super" p0) [] [] p1) "__init__" env (eval (.Call (.Name "super" p0) [] [] p1) env)
      standAt p2.atName
      let (f1, first) ← holding [ov] (getMethod ov "__init__" pl)
      callWith p4 f1 first (backTo p4 (starEach [e] env)) []))
    (hs : ∀ env, swapsWith (.Call (.Attribute (.Call (.Name "super" p0) [] [] p1) "__init__" p2) [e] [] p4) none p5.line env = pure false)
    (len : ∀ vs H Q E, sp vs H Q E → vs.length = ps.length)
    (hbody : ∀ (A : Around) (outer : List Env) (s : Shared) (H : Hp) (vs : List V) (Q : VK) (E : XK), Room k (A.deeper (envF F f s.heap.objs.size)) → sp vs H Q E →
      ∃ a ws, vs = .ref a :: ws ∧ H a = some (exo a C none) ∧ ∃ t, PSs (ncx CX P w K mg base N F f A outer s H E) rest t ∧ t { nx := fun _ H' => Q .non H', rt := Q } (startF N vs [none]) H) :
    FnOk P w K mg base CX (k + 1) f fd ps sp := by
  refine ⟨len, fun A outer s H args us vs Q E hr e0 hb r hsp => ?_⟩
  have hl := len _ _ _ _ hsp
  have KX : K.In s.heap := e0.mod.kin.keeps fun b o e => (e0.bs b o e).1
  have lim : s.heap.NoLimit := e0.mod.nolimit.keeps fun b o e => (e0.bs b o e).1
  obtain ⟨oc, od, doc, pm, ct, osl, rfl, lk⟩ := B.ex
  obtain ⟨cc, cl, cld, csl, ecl, lcell⟩ := B.cell
  obtain ⟨a, ws, rfl, ea, t, ht, hq⟩ := hbody A outer s H vs Q E (hr.deeper _) hsp
  have hkc : F.scope.names.lookup ("__class__" : Str) = some .free := S.frk _ List.mem_cons_self
  have hcells : CellsAt F.cl ["__class__"] [none] s.heap H := by
    have bc := e0.mod.kin _ _ lcell
    have hcl : ∀ y c, F.cl.lookup y = some c → y = "__class__" ∧ c = cc := fun y c h => by
      rw [ecl] at h
      by_cases hy : y = "__class__"
      · subst hy
        simp [List.lookup] at h
        exact ⟨rfl, h.symm⟩
      · have : (y == ("__class__" : Str)) = false := by simpa using hy
        simp [List.lookup, this] at h
    refine ⟨rfl, fun y c h => ?_, fun y z c h1 h2 => ?_, fun i y h => ?_⟩
    · obtain ⟨_, rfl⟩ := hcl y c h
      exact ⟨(e0.bs _ _ bc).2, _, _, (e0.bs _ _ bc).1, rfl⟩
    · rw [(hcl y c h1).1, (hcl z c h2).1]
    · have hi := (List.getElem?_eq_some_iff.mp h).1
      have hi : i < 1 := hi
      obtain rfl : i = 0 := by omega
      obtain rfl : "__class__" = y := Option.some.inj h
      refine ⟨cc, by rw [ecl]; rfl, fun v hv => ?_⟩
      cases hv
  refine ks_codeAny_call_defAt (fd := F.fd doc pm ct) (body := F.body) (binds := ps.zip us) hr.depth (KX _ _ lk) rfl lim (PySem.W.codeRec_of KX B.code) rfl hb S.nocell (fun ⟨n, _⟩ hy => S.par n (List.of_mem_zip hy).1) (fun h₁ hns hk₁ => ?_) S.co S.gen S.kind
  have I : Inv (ncx CX P w K mg base N F f A outer s H E) [] (startF N (.ref a :: ws) [none]) H { s with heap := h₁, toks := s.toks + (ps.zip us).length } := inv_startN S hr.hd e0 hl r hcells hns hk₁
  show PySem.wpAt (model P w) (A.deeper (envF F f s.heap.objs.size)) (.func F.body (envF F f s.heap.objs.size)) (execs F.body (envF F f s.heap.objs.size)) _ (ncx CX P w K mg base N F f A outer s H E).xe _
  have hN0 : N[0]? = some ar.arg := by
    have hpl : 0 < ps.length := (List.getElem?_eq_some_iff.mp hps).1
    have hq : (ps ++ [("__class__" : Str)])[0]? = some ar.arg := by
      rw [List.getElem?_append_left hpl]
      exact hps
    rw [← S.pre, List.getElem?_take_of_lt (by omega)] at hq
    exact hq
  obtain ⟨pl, hc⟩ := hc (envF F f s.heap.objs.size)
  generalize F.body = bd at hbd ⊢
  subst hbd
  refine ks_wpAt_execs_cons (supStmt_ok (pl := pl) Z ⟨⟨oc, od, doc, pm, ct, osl, rfl, lk⟩, B.code, B.file, B.cell⟩ I ea hp hN0 rfl (S.par _ (List.mem_of_getElem? hps)) hks hkc hmg ha (he _) hc (hs _) fun s' J => ?_)
  refine PySem.wpAt_of_wpAny ?_
  have fin : ∀ {s2 : Shared} {σ' : L2.St} {H' : Hp} {v : V} {u : Value}, Inv (ncx CX P w K mg base N F f A outer s H E) [] σ' H' s2 → L2.RelV v u → Q v H' → CE outer P w H s Q u s2 :=
    fun {s2 σ' H' v u} J rv q => ⟨v, H', J.os, J.bare, J.base, J.hok, rv, q⟩
  refine wpAny_mono (ht.run [] _ _ H _ J hq) (fun fl s2 hs => ?_) fun e s' hs => hs
  cases fl with
  | ret u =>
    obtain ⟨v, σ', H', J, rv, q⟩ := hs
    exact fin J rv q
  | next =>
    obtain ⟨σ', H', J, q⟩ := hs
    exact fin (v := V.non) (u := Value.none) J rfl q
  | brk =>
    obtain ⟨_, _, _, q⟩ := hs
    exact False.elim q
  | cont =>
    obtain ⟨_, _, _, q⟩ := hs
    exact False.elim q
end InX

/-! an own exception with one field, or two: its __init__, its raise -/
namespace InX
open PySem PySem.Spec PyProof.Rows L2 NdefX
/-- __init__(self, f): self.f = f -/
def spI1 (K : PySem.W.Frag) (C : Addr) (fld : Str) : Sp := fun vs H Q _ => ∃ (a : Addr) (v : V), vs = [.ref a, v] ∧ H a = some (exo a C none) ∧ ∀ dx, H dx = none → dx ≠ a → Q .non (upd (upd H dx (exd dx [(fld, v)])) a (exo a C (some dx)))
theorem init1_ok {P : Program} {w : World} {K : PySem.W.Frag} {mg : Str → Option Value} {base : Heap} {CX : CXT} {N : List Str} {F : NF} {f C : Addr} {fd : FuncData} {p0 p1 p2 p4 p5 q2 q4 : Pos} {e o ev : Expr} {ar : Arg} {x fld : Str}
    (Z : SupC P K C) (B : SupF P K C f F fd) (S : NScope N ["self", fld] ["__class__"] F.scope)
    (hbd : F.body = [.Expr (.Call (.Attribute (.Call (.Name "super" p0) [] [] p1) "__init__" p2) [e] [] p4) p5, .Assign [.Attribute o fld q2] ev q4])
    (hp : (F.params.posonlyargs ++ F.params.args).head? = some ar) (har : ar.arg = "self") (hks : F.scope.names.lookup ("super" : Str) = some .globalImplicit) (hmg : mg "super" = none)
    (ha : ∀ {X : Cx}, PA X [e] (tCons (tC (.str x)) tNil)) (he : ∀ env, starEach [e] env = (false, eval e env) :: starEach [] env)
    (hc : ∀ env, ∃ pl : Sem Bool, eval (.Call (.Attribute (.Call (.Name "super" p0) [] [] p1) "__init__" p2) [e] [] p4) env = (do
      let ov ← attributeBase (.Call (.Name "super" p0) [] [] p1) "__init__" env (eval (.Call (.Name "super" p0) [] [] p1) env)
      standAt p2.atName
      let (f1, first) ← holding [ov] (getMethod ov "__init__" pl)
      callWith p4 f1 first (backTo p4 (starEach [e] env)) []))
    (hs : ∀ env, swapsWith (.Call (.Attribute (.Call (.Name "super" p0) [] [] p1) "__init__" p2) [e] [] p4) none p5.line env = pure false)
    (hno : PySem.W.findIn K (.ref C) fld = some none)
    (ho : ∀ A outer s H E, PE (ncx CX P w K mg base N F f A outer s H E) o (tVar 0)) (hv : ∀ A outer s H E, PE (ncx CX P w K mg base N F f A outer s H E) ev (tVar 1))
    (hsw : ∀ env, swapsWith ev (some (.Attribute o fld q2)) q4.line env = pure false) : FnOk P w K mg base CX 1 f fd ["self", fld] (spI1 K C fld) := by
  refine supInit_ok (k := 0) Z B S hbd hp (by rw [har]; rfl) hks hmg ha he hc hs (fun vs H Q E h => ?_) fun A outer s H vs Q E hr h => ?_
  · obtain ⟨a, v, rfl, _⟩ := h
    rfl
  · obtain ⟨a, v, rfl, ea, q⟩ := h
    refine ⟨a, [v], rfl, ea, _, pss_one (ps_ost (ho A outer s H E) (hv A outer s H E) (hsw _)), ?_⟩
    exact ⟨v, rfl, .ref a, rfl, a, C, rfl, Z.oex, hno, .inl ⟨ea, fun dx hd hne => q dx hd hne⟩⟩
/-- raise C(e) -/
def tRaiseF1 (K : PySem.W.Frag) (C : Addr) (fld : Str) (E : XK) (t : TA) : TS := fun _ σ H => tMkO C (spI1 K C fld) [] t σ H fun cls d H' => E cls d H'
theorem raise1_at {K : PySem.W.Frag} {C : Addr} {fld : Str} {E : XK} {t : TA} {H1 : Hp} {v : V} (q : ∀ d, H1 d = none → E (.ref C) (some d) (upd H1 d (.xd [(fld, v)]))) : ([v] : List V).length ≤ 1000 ∧ ∀ a, H1 a = none → spI1 K C fld (.ref a :: ([v] ++ [])) (upd H1 a (exo a C none)) (fun v' H2 => v' = .non ∧ ∃ (d : Addr) (fs : List (Str × V)), H2 a = some (exo a C (some d)) ∧ H2 d = some (exd d fs) ∧ H1 d = none ∧ E (.ref C) (some d) (upd (del H2 a) d (.xd fs))) (fun _ _ _ => False) := by
  refine ⟨by show 1 ≤ 1000; decide, fun a ha1 => ⟨a, v, rfl, upd_same, fun dx hd hne => ⟨rfl, dx, [(fld, v)], upd_same, ?_, ?_, ?_⟩⟩⟩
  · rw [upd_ne hne, upd_same]
  · rw [upd_ne hne] at hd
    exact hd
  · have hd1 : H1 dx = none := by
      rw [upd_ne hne] at hd
      exact hd
    have e : upd (del (upd (upd (upd H1 a (exo a C none)) dx (exd dx [(fld, v)])) a (exo a C (some dx))) a) dx (.xd [(fld, v)]) = upd H1 dx (.xd [(fld, v)]) := by
      funext b
      by_cases hb : b = dx
      · rw [hb, upd_same, upd_same]
      · rw [upd_ne hb, upd_ne hb]
        by_cases hba : b = a
        · rw [hba, del_same, ha1]
        · rw [del_ne hba, upd_ne hba, upd_ne hb, upd_ne hba]
    rw [e]
    exact q dx hd1
/-- what K tells of such a class, to be raised -/
structure RaiC (P : Program) (w : World) (K : PySem.W.Frag) (mg : Str → Option Value) (base : Heap) (x fld : Str) (C : Addr) : Prop where
  oex : OexC K C
  g : mg x = some (.ref C)
  ini : ∃ fI fd, PySem.W.findIn K (.ref C) "__init__" = some (some (.ref fI)) ∧ PySem.W.typeIn K (.ref fI) = some (.type "function") ∧ FnOk P w K mg base CX0 1 fI fd ["self", fld] (spI1 K C fld) ∧ Binds K fd ["self", fld] []
theorem ps_raiseF1 {X : Cx} {E : XK} {x fld : Str} {C : Addr} {e : Expr} {t : TA} {p pos pos2 : Pos} (hc : X.calm = true) (tk : Takes X (fun cls d _ H => E cls d H)) (Z : RaiC X.prog X.w X.K X.mg X.base x fld C) (hr : Room 2 X.A) (hg : Gl X x) (ha : PA X [e] t)
    (hdb : (x == ("__debug__" : Str)) = false := by decide) (he : starEach [e] X.env = (false, eval e X.env) :: starEach [] X.env := by rfl) (hpl : (backTo pos (starEach [] X.env)).any (·.1) = false := by rfl) :
    PS X (.Raise (some (.Call (.Name x p) [e] [] pos)) none pos2) (tRaiseF1 X.K C fld E t) := by
  obtain ⟨fI, fd, iC, tI, F1, hb⟩ := Z.ini
  exact ps_raise hc tk (pos := pos2) (pmk_oex (pos := pos) (p := p) (dvs := []) Z.oex iC tI F1 hr hb .nil pass0 hg Z.g ha hdb he hpl)
/-- what K tells of a class with one field, its __init__ st (named q) -/
structure IniX (P : Program) (K : PySem.W.Frag) (mg : Str → Option Value) (x q : Str) (C : Addr) (st : Stmt) (flds : List Str) : Prop where
  sup : SupC P K C
  fn : ∃ (fI cda cc : Addr) (fd : FuncData), SupF P K C fI ⟨"__init__", q, C8.fnArgs st, C8.fnBody st, C8.fnScope st, [("__class__", cc)], cda⟩ fd ∧ PySem.W.findIn K (.ref C) "__init__" = some (some (.ref fI)) ∧ PySem.W.typeIn K (.ref fI) = some (.type "function")
  g : mg x = some (.ref C)
  no : ∀ f ∈ flds, PySem.W.findIn K (.ref C) f = some none
  hs : mg "super" = none
end InX
namespace Dl
open PySem PySem.Spec PyProof.Rows L2 InX
section
variable {K : PySem.W.Frag} {τ : List (Addr × Str)} {E : XK}
def dRaiseF1 (C : Addr) (fld : Str) (fa : TDA) : TDS := fun _ R ρ => fa ρ (fun ss => ∃ d : PyData, ss = [.d d] ∧ R (C, [(fld, d)])) R
theorem dRaiseF1_c {C : Addr} {fld : Str} {fa : TDA} {dd : DEnds} {R : Er → Prop} {ρ : List Sl} : dRaiseF1 C fld fa dd R ρ = fa ρ (fun ss => ∃ d : PyData, ss = [.d d] ∧ R (C, [(fld, d)])) R := propext Iff.rfl
instance {C : Addr} {fld : Str} {t : TA} {fa : TDA} [ha : RefA K τ E t fa] : RefS K τ E (tRaiseF1 K C fld E t) (dRaiseF1 C fld fa) := ⟨fun W A0 H0 D dd R H σ ρ gσ gρ b sr er ek h => by
  obtain ⟨W', A, c⟩ := sr
  refine ha.go W' A H σ ρ _ R _ (c.at_ ek) h fun vs H1 ss f1 i1 r1 q => ?_
  obtain ⟨d, rfl, q⟩ := q
  obtain ⟨v, rfl, r⟩ := vlsr1 r1
  refine raise1_at (t := t) fun dx hd => ?_
  have r0 : VlR K W' A0 H H1 v (.d d) := r.down c.a0
  have rd : Rp K A0 H1 v d := r0
  have r2 : Rp K A0 (upd H1 dx (.xd [(fld, v)])) v d := rd.go fun b o e _ n => ⟨(upd_ne (ne_of_none e hd)).trans e, n⟩
  exact ek (C, [(fld, d)]) (some dx) _ (c.wl.fr c.fr (f1.trans (Fr.new hd))) (c.wl.inv _ (W'.stay _ _ (same_new hd) i1)) (.inr ⟨(fun z => nomatch z), dx, [v], rfl, upd_same, .cons r2 .nil⟩) q⟩
end
end Dl

set_option synthInstance.maxHeartbeats 2000000
set_option synthInstance.maxSize 100000
namespace Wy
open PySem PySem.Spec PyProof.Rows L2 Dl
def topS (i : Nat) : Stmt := PySem.Challenge.pw_waysranked_k76_texts_that_write_no_net.main.body.getD i (.Pass ⟨0, 0, 0, 0⟩)
abbrev s_is_whole : Stmt := topS 22
abbrev s_is_within : Stmt := topS 23
abbrev s_is_tuple_of : Stmt := topS 31
abbrev s_is_road_among : Stmt := topS 32
abbrev s_is_net : Stmt := topS 30
abbrev s_check_net : Stmt := topS 33
abbrev s_net_text : Stmt := topS 36
abbrev s_net_read : Stmt := topS 37
abbrev s_net_of_lines : Stmt := topS 38
abbrev s_parts_of_line : Stmt := topS 39
abbrev s_number_of_figures : Stmt := topS 40
abbrev s__law_cell_at : Stmt := topS 42
abbrev s__law_state : Stmt := topS 43
abbrev s__law_take : Stmt := topS 44
abbrev s__law_marks : Stmt := topS 45
abbrev s__law_word : Stmt := topS 46
abbrev s__law_said : Stmt := topS 47
abbrev s__law_net : Stmt := topS 49
abbrev s__law_odd : Stmt := topS 50
abbrev s__law_figures : Stmt := topS 51
abbrev s__law_road_in : Stmt := topS 52
abbrev s__law_read : Stmt := topS 53
abbrev s__law_bent : Stmt := topS 54
/-- a def of the text, where it stands, how its arguments bind -/
structure Df (K : PySem.W.Frag) (mg : Str → Option Value) (x : Str) (st : Stmt) (ps : List Str) (f : Addr) (fd : FuncData) : Prop where
  F : Fun K x x st f fd
  b : Binds K fd ps []
  g : mg x = some (.ref f)
/-- a class of refusals without an __init__ of its own -/
structure Ex (K : PySem.W.Frag) (mg : Str → Option Value) (x : Str) (C : Addr) : Prop where
  g : mg x = some (.ref C)
  x : PySem.W.excIn K C [.type "ValueError", .type "Exception", .type "BaseException", .type "object"] "ValueError.__new__" = true
  k : PySem.W.keepIn K (.ref C) = true
  b : PySem.W.subIn K (.ref C) (.type "BaseException") = some true
  t : PySem.W.typeIn K (.ref C) = some (.type "type")
/-- a def that can be called by its name, with its promise -/
structure Cb (P : Program) (w : World) (K : PySem.W.Frag) (mg : Str → Option Value) (base : Heap) (CX : CXT) (k : Nat) (x : Str) (ps : List Str) (sp : Sp) : Prop where
  ex : ∃ f fd, FnOk P w K mg base CX k f fd ps sp ∧ mg x = some (.ref f) ∧ PySem.W.keepIn K (.ref f) = true ∧ Binds K fd ps []
theorem pe_cb {X : Cx} {CX : CXT} {E : XK} {k : Nat} {ps : List Str} {sp : Sp} {x : Str} {p pos : Pos} {e : Expr} {es : List Expr} {t : TA} (h : Cb X.prog X.w X.K X.mg X.base CX k x ps sp) (hr : Room k X.A) (hg : Gl X x) (hx : Passes CX X E) (ha : PA X (e :: es) t)
    (hdb : (x == ("__debug__" : Str)) = false := by decide) (he : starEach (e :: es) X.env = (false, eval e X.env) :: starEach es X.env := by rfl) (hpl : (backTo pos (starEach es X.env)).any (·.1) = false := by rfl) : PE X (.Call (.Name x p) (e :: es) [] pos) (tCall sp [] E t) := by
  obtain ⟨f, fd, F, hm, hk, hb⟩ := h.ex
  exact pe_call F hr hg hm hk hb .nil hx ha hdb he hpl
theorem Cb.imp {P : Program} {w : World} {K : PySem.W.Frag} {mg : Str → Option Value} {base : Heap} {CX : CXT} {k : Nat} {x : Str} {ps : List Str} {sp sp' : Sp} (h : Cb P w K mg base CX k x ps sp) (i : ∀ vs H Q E, sp' vs H Q E → sp vs H Q E) : Cb P w K mg base CX k x ps sp' := by
  obtain ⟨f, fd, F, r⟩ := h.ex
  exact ⟨f, fd, F.imp i, r⟩
abbrev si_NoText : Stmt := (C8.clsBody (topS 17)).getD 0 (.Pass ⟨0, 0, 0, 0⟩)
structure Tx (P : Program) (K : PySem.W.Frag) (mg : Str → Option Value) (C : Nat → Addr) : Prop where
  r_NoText : InX.IniX P K mg "NoText" "NoText.__init__" (C 13) si_NoText ["at"]
  len : mg "len" = none
  isinstance : mg "isinstance" = none
  all : mg "all" = none
  max : mg "max" = none
  min : mg "min" = none
  int : mg "int" = none
  str : mg "str" = none
  tuple : mg "tuple" = none
  range : mg "range" = none
  enumerate : mg "enumerate" = none
  repr : mg "repr" = none
  bool : mg "bool" = none
  ValueError : mg "ValueError" = none
  h_is_whole : ∃ f fd, Df K mg "is_whole" s_is_whole ["thing"] f fd
  h_is_within : ∃ f fd, Df K mg "is_within" s_is_within ["thing", "low", "high"] f fd
  h_is_tuple_of : ∃ f fd, Df K mg "is_tuple_of" s_is_tuple_of ["thing", "many"] f fd
  h_is_road_among : ∃ f fd, Df K mg "is_road_among" s_is_road_among ["places", "thing"] f fd
  h_is_net : ∃ f fd, Df K mg "is_net" s_is_net ["thing"] f fd
  h_check_net : ∃ f fd, Df K mg "check_net" s_check_net ["thing"] f fd
  h_net_text : ∃ f fd, Df K mg "net_text" s_net_text ["net"] f fd
  h_net_read : ∃ f fd, Df K mg "net_read" s_net_read ["text"] f fd
  h_net_of_lines : ∃ f fd, Df K mg "net_of_lines" s_net_of_lines ["lines"] f fd
  h_parts_of_line : ∃ f fd, Df K mg "parts_of_line" s_parts_of_line ["line"] f fd
  h_number_of_figures : ∃ f fd, Df K mg "number_of_figures" s_number_of_figures ["word", "most"] f fd
  h__law_cell_at : ∃ f fd, Df K mg "_law_cell_at" s__law_cell_at ["_law_script", "_law_k"] f fd
  h__law_state : ∃ f fd, Df K mg "_law_state" s__law_state ["_law_script", "_law_k"] f fd
  h__law_take : ∃ f fd, Df K mg "_law_take" s__law_take ["_law_state_here", "_law_much"] f fd
  h__law_marks : ∃ f fd, Df K mg "_law_marks" s__law_marks ["_law_e"] f fd
  h__law_word : ∃ f fd, Df K mg "_law_word" s__law_word ["_law_e"] f fd
  h__law_said : ∃ f fd, Df K mg "_law_said" s__law_said ["_law_call"] f fd
  h__law_net : ∃ f fd, Df K mg "_law_net" s__law_net ["_law_state_here", "_law_most", "_law_roads"] f fd
  h__law_odd : ∃ f fd, Df K mg "_law_odd" s__law_odd ["_law_state_here"] f fd
  h__law_figures : ∃ f fd, Df K mg "_law_figures" s__law_figures ["_law_word_here"] f fd
  h__law_road_in : ∃ f fd, Df K mg "_law_road_in" s__law_road_in ["_law_line", "_law_spots"] f fd
  h__law_read : ∃ f fd, Df K mg "_law_read" s__law_read ["_law_text"] f fd
  h__law_bent : ∃ f fd, Df K mg "_law_bent" s__law_bent ["_law_state_here", "_law_text"] f fd
  c_MOST_PLACES : ∃ t, mg "MOST_PLACES" = some (.int 10 t)
  c_MOST_ROADS : ∃ t, mg "MOST_ROADS" = some (.int 30 t)
  c_LEAST_COST : ∃ t, mg "LEAST_COST" = some (.int 1 t)
  c_MOST_COST : ∃ t, mg "MOST_COST" = some (.int 99 t)
  c_MOST_TIME : ∃ t, mg "MOST_TIME" = some (.int 99 t)
  c_MOST_FIGURES : ∃ t, mg "MOST_FIGURES" = some (.int 2 t)
  e_NoNet : Ex K mg "NoNet" (C 0)
section
variable {P : Program} {w : World} {K : PySem.W.Frag} {mg : Str → Option Value} {base : Heap} {C : Nat → Addr}
theorem sc__law_take : FnScope ["_law_state_here", "_law_much", "_law_found", "_law_stirred"] ["_law_state_here", "_law_much"] (defScope s__law_take) := ⟨rfl, rfl, rfl, by decide +kernel, rfl, by decide +kernel, by decide +kernel⟩
theorem ok_take {f : Addr} {fd : FuncData} {k : Nat} (D : Df K mg "_law_take" s__law_take ["_law_state_here", "_law_much"] f fd) : FnOk P w K mg base CX0 (k + 1) f fd ["_law_state_here", "_law_much"] spTake := by
  refine D.F.ok sc__law_take (fun vs H Q E h => ?_) (fun cdv A outer s H vs Q E hr h => ?_)
  · obtain ⟨_, _, rfl, _⟩ := h
    rfl
  · obtain ⟨z, m, rfl, ⟨x, y, e, hx, hy, hy2⟩, hm, hm2, q⟩ := h
    refine ⟨_, pss_cons (ps_if (pt_cmpR op_gt (pe_ix ix_list (pv 0) pe_int (fun _ _ => rfl)) pe_int (nomark _))
        (pss_cons (ps_set (i := 2) sc__law_take.nd rfl (.inl rfl) (pe_op op_mod (pe_ix ix_list (pv 0) pe_int (fun _ _ => rfl)) (pv 1)))
        (pss_cons (ps_asg (pe_op op_fdiv (pe_ix ix_list (pv 0) pe_int (fun _ _ => rfl)) (pv 1)) (pg_sub (pv 0) pe_int set_list))
        (pss_one (ps_ret (pv 2))))) pss_nil)
      (pss_cons (ps_asg (pe_op op_mod (pe_op op_add (pe_op op_mul (pe_ix ix_list (pv 0) pe_int (fun _ _ => rfl)) pe_int) pe_int) pe_int) (pg_sub (pv 0) pe_int set_list))
      (pss_cons (ps_set (i := 3) sc__law_take.nd rfl (.inl rfl) (pe_op op_mod (pe_op op_add (pe_op op_add (pe_op op_mul (pe_ix ix_list (pv 0) pe_int (fun _ _ => rfl)) (pe_ix ix_list (pv 0) pe_int (fun _ _ => rfl))) (pe_op op_mul pe_int (pe_ix ix_list (pv 0) pe_int (fun _ _ => rfl)))) pe_int) pe_int))
      (pss_cons (ps_set (i := 3) sc__law_take.nd rfl (.inl rfl) (pe_op op_mod (pe_op op_add (pe_op op_mul (pv 3) (pv 3)) (pe_op op_mul pe_int (pv 3))) pe_int))
      (pss_one (ps_ret (pe_op op_mod (pe_op op_fdiv (pv 3) pe_int) (pv 1))))))), ?_⟩
    refine ⟨.ref z, rfl, z, _, 0, _, rfl, rfl, SqL.of e, rfl, x, 0, rfl, rfl, _, rfl, ite2 (fun c => ?_) (fun c => ?_)⟩
    · refine ⟨.ref z, rfl, z, _, 0, _, rfl, rfl, SqL.of e, rfl, .int m, rfl, x, m, rfl, rfl, hm, ?_⟩
      refine ⟨.ref z, rfl, z, _, 0, _, rfl, rfl, SqL.of e, rfl, .int m, rfl, x, m, rfl, rfl, ⟨hm, hm2⟩, ?_⟩
      refine ⟨.ref z, rfl, z, _, 0, 0, rfl, rfl, e, rfl, ?_⟩
      refine ⟨.int (x % m), rfl, q _ _ .self ⟨x / m, y, upd_same, trivial, hy, hy2⟩ (Int.emod_nonneg _ (by omega)) (Int.emod_lt_of_pos _ hm)⟩
    · have b1 := Int.emod_nonneg (y * 48271 + 29) (show (2147483647 : Int) ≠ 0 by decide)
      have b2 := Int.emod_lt_of_pos (y * 48271 + 29) (show (0 : Int) < 2147483647 by decide)
      refine ⟨.ref z, rfl, z, _, 1, _, rfl, rfl, SqL.of e, rfl, y, 48271, rfl, rfl, .inr ⟨by decide, by decide⟩, _, _, rfl, rfl, _, 2147483647, rfl, rfl, (by show (0 : Int) < 2147483647; decide), ?_⟩
      refine ⟨.ref z, rfl, z, _, 1, 1, rfl, rfl, e, rfl, ?_⟩
      have e2 : (upd H z (.lst [.int x, .int ((y * 48271 + 29) % 2147483647)])) z = some (.lst [.int x, .int ((y * 48271 + 29) % 2147483647)]) := upd_same
      obtain ⟨y2, ey⟩ : ∃ y2, y2 = (y * 48271 + 29) % 2147483647 := ⟨_, rfl⟩
      rw [← ey] at b1 b2 e2
      show (fun H0 : Hp => _) (upd H z (.lst [.int x, .int ((y * 48271 + 29) % 2147483647)]))
      rw [← ey]
      refine ⟨.ref z, rfl, z, _, 1, _, rfl, rfl, SqL.of e2, rfl, .ref z, rfl, z, _, 1, _, rfl, rfl, SqL.of e2, rfl, y2, y2, rfl, rfl, .inl ⟨by omega, by omega⟩, .ref z, rfl, z, _, 1, _, rfl, rfl, SqL.of e2, rfl, 39373, y2, rfl, rfl, .inl ⟨by decide, by decide⟩, _, _, rfl, rfl, _, 7, rfl, rfl, _, 2147483629, rfl, rfl, (by show (0 : Int) < 2147483629; decide), ?_⟩
      have c1 := Int.emod_nonneg (y2 * y2 + 39373 * y2 + 7) (show (2147483629 : Int) ≠ 0 by decide)
      have c2 := Int.emod_lt_of_pos (y2 * y2 + 39373 * y2 + 7) (show (0 : Int) < 2147483629 by decide)
      have d1 : -(2 : Int) ^ 64 < (y2 * y2 + 39373 * y2 + 7) % 2147483629 := Int.lt_of_lt_of_le (by decide) c1
      have d2 : (y2 * y2 + 39373 * y2 + 7) % 2147483629 < (2 : Int) ^ 64 := Int.lt_trans c2 (by decide)
      refine ⟨_, rfl, _, rfl, _, _, rfl, rfl, .inl ⟨d1, d2⟩, _, rfl, 16807, _, rfl, rfl, .inl ⟨by decide, by decide⟩, _, _, rfl, rfl, _, 2147483587, rfl, rfl, (by show (0 : Int) < 2147483587; decide), ?_⟩
      refine ⟨_, rfl, _, 8, rfl, rfl, ⟨by decide, by decide⟩, .int m, rfl, _, m, rfl, rfl, hm, ?_⟩
      exact q _ _ .self ⟨x, y2, e2, hx, b1, b2⟩ (Int.emod_nonneg _ (by omega)) (Int.emod_lt_of_pos _ hm)
theorem sc__law_cell_at : FnScope ["_law_script", "_law_k"] ["_law_script", "_law_k"] (defScope s__law_cell_at) := ⟨rfl, rfl, rfl, by decide +kernel, rfl, by decide +kernel, by decide +kernel⟩
def spCell (K : PySem.W.Frag) : Sp := fun vs H Q _ => ∃ (a : Addr) (ns : List Int) (i : Nat), vs = [.ref a, .int (i : Int)] ∧ SqL K H a (ns.map V.int) ∧ ∀ n, Q (.int n) H
theorem ok_cell {f : Addr} {fd : FuncData} {k : Nat} (D : Df K mg "_law_cell_at" s__law_cell_at ["_law_script", "_law_k"] f fd) (ml : mg "len" = none) : FnOk P w K mg base CX0 (k + 1) f fd ["_law_script", "_law_k"] (spCell K) := by
  refine D.F.ok sc__law_cell_at (fun vs H Q E h => ?_) (fun cdv A outer s H vs Q E hr h => ?_)
  · obtain ⟨_, _, _, rfl, _⟩ := h
    rfl
  · obtain ⟨a, ns, i, rfl, hS, q⟩ := h
    refine ⟨_, pss_cons (ps_if (pt_cmpR op_lt (pv 1) (pe_callB call_len_seq (by rfl) ml PySem.boot_len (pa_cons (pv 0) pa_nil)) (nomark _))
        (pss_one (ps_ret (pe_ix ix_list (pv 0) (pv 1) (fun _ _ => rfl)))) pss_nil) (pss_one (ps_ret pe_int)), ?_⟩
    refine ⟨.int i, rfl, .ref a, rfl, a, _, rfl, .inl hS, _, _, rfl, rfl, _, rfl, ite2 (fun c => ?_) (fun c => ?_)⟩
    · have c' : (i : Int) < ((ns.map V.int).length : Int) := of_decide_eq_true c
      rw [List.length_map] at c'
      have hi : i < ns.length := by omega
      refine ⟨.ref a, rfl, .int i, rfl, a, _, i, .int ns[i], rfl, rfl, hS, atI_nat ?_, q _⟩
      rw [List.getElem?_map, List.getElem?_eq_getElem hi]
      rfl
    · exact q _
theorem sc__law_state : FnScope ["_law_script", "_law_k", "_law_cell"] ["_law_script", "_law_k"] (defScope s__law_state) := ⟨rfl, rfl, rfl, by decide +kernel, rfl, by decide +kernel, by decide +kernel⟩
theorem ok_state {f fC : Addr} {fd fdC : FuncData} {k : Nat} (D : Df K mg "_law_state" s__law_state ["_law_script", "_law_k"] f fd) (DC : Df K mg "_law_cell_at" s__law_cell_at ["_law_script", "_law_k"] fC fdC) (ml : mg "len" = none) (mm : mg "max" = none) : FnOk P w K mg base CX0 (k + 2) f fd ["_law_script", "_law_k"] (spState K) := by
  have G : FnOk P w K mg base CX0 (k + 1) fC fdC ["_law_script", "_law_k"] (spCell K) := ok_cell DC ml
  refine D.F.ok sc__law_state (fun vs H Q E h => ?_) (fun cdv A outer s H vs Q E hr h => ?_)
  · obtain ⟨_, _, _, rfl, _⟩ := h
    rfl
  · obtain ⟨a, ns, i, rfl, hS, q⟩ := h
    refine ⟨_, pss_cons (ps_set (i := 2) sc__law_state.nd rfl (.inl rfl) (pe_call G hr (by rfl) DC.g DC.F.kp DC.b .nil pass0 (pa_cons (pv 0) (pa_cons (pv 1) pa_nil))))
      (pss_one (ps_ret (pe_lst (pa_cons (pe_callB (call_max2 rfl) (by rfl) mm (by decide +kernel) (pa_cons pe_int (pa_cons (pe_op op_sub (pv 2) (pe_op op_pow pe_int pe_int)) pa_nil)))
        (pa_cons (pe_op op_mod (pv 2) pe_int) pa_nil))))), ?_⟩
    refine ⟨.ref a, rfl, .int i, rfl, a, ns, i, rfl, hS, fun n => ?_⟩
    refine ⟨.int n, rfl, 10, 18, rfl, rfl, ⟨by decide, by decide, by decide⟩, n, _, rfl, rfl, 0, _, rfl, .int n, rfl, n, 2147483647, rfl, rfl, (by show (0 : Int) < 2147483647; decide), by show 2 ≤ sizeLine; decide, fun z hz => ?_⟩
    refine q _ z (same_new hz) hz ⟨_, _, upd_same, ?_, Int.emod_nonneg _ (by decide), Int.emod_lt_of_pos _ (by decide)⟩
    trivial
theorem c__law_take (T : Tx P K mg C) : Cb P w K mg base CX0 1 "_law_take" ["_law_state_here", "_law_much"] (spD K [] sdTake) := by
  obtain ⟨f, fd, D⟩ := T.h__law_take
  exact ⟨f, fd, (ok_take (k := 0) D).imp take_imp, D.g, D.F.kp, D.b⟩
theorem c__law_state (T : Tx P K mg C) : Cb P w K mg base CX0 2 "_law_state" ["_law_script", "_law_k"] (spState K) := by
  obtain ⟨f, fd, D⟩ := T.h__law_state
  obtain ⟨fC, dC, DC⟩ := T.h__law_cell_at
  exact ⟨f, fd, ok_state (k := 0) D DC T.len T.max, D.g, D.F.kp, D.b⟩
end
end Wy

namespace Dl
open PySem PySem.Spec PyProof.Rows L2
/-! ### words that write numbers: two ways to say so -/
def digsB (a : Str) : Bool := a.cps.toList.all fun c => decide (48 ≤ c) && decide (c ≤ 57)
theorem digs_all {a : Str} (h : digsB a = true) : NumText.AllDigits a.cps.toList := fun c hc => by
  have := List.all_eq_true.mp h c hc
  simpa using this
theorem digit_of : ∀ c : Nat, c < 128 → 48 ≤ c → c ≤ 57 → Unicode.isDigit c = true := by decide +kernel
theorem digs_iff (a : Str) : (Txt.isascii a && Txt.isdigit a) = (digsB a && decide (a.length ≠ 0)) := by
  have l0 : (a.length == 0) = decide (a.length = 0) := rfl
  cases hd : digsB a with
  | true =>
    have dd := digs_all hd
    have h1 : Txt.isascii a = true := by
      unfold Txt.isascii
      rw [Array.all_eq_true']
      intro c hc
      have := dd c (by simpa using hc)
      exact decide_eq_true (by omega)
    rw [h1, Bool.true_and, Bool.true_and]
    unfold Txt.isdigit
    have h2 : a.cps.all Unicode.isDigit = true := by
      rw [Array.all_eq_true']
      intro c hc
      have := dd c (by simpa using hc)
      exact digit_of c (by omega) this.1 this.2
    by_cases z : a.length = 0
    · simp [z]
    · rw [h2]
      simp [z]
      omega
  | false =>
    rw [Bool.false_and]
    cases h1 : Txt.isascii a with
    | false => rfl
    | true =>
      cases h2 : Txt.isdigit a with
      | false => rfl
      | true =>
        exfalso
        unfold Txt.isascii at h1
        unfold Txt.isdigit at h2
        rw [Bool.and_eq_true] at h2
        have : digsB a = true := by
          unfold digsB
          rw [List.all_eq_true]
          intro c hc
          have hm : c ∈ a.cps := by simpa using hc
          have := digit_ascii c (by simpa using Array.all_eq_true'.mp h1 c hm) (by simpa using Array.all_eq_true'.mp h2.2 c hm)
          simp [this.1, this.2]
        rw [this] at hd
        cases hd
def figL (a : Str) : PyData := if decide (a.length = 0) || !(digsB a) || decide (30 < a.length) then .none else if Txt.startswith a "0" && !(a == ("0" : Str)) then .none else match PySem.intText? a with
  | some n => .int n
  | none => .none
theorem figD_L {a : Str} (h : a.length ≤ 2) : figD 2 a = figL a := by
  unfold figD figL
  rw [decide_eq_false (show ¬ ((2 : Int) < (a.length : Int)) by omega), Bool.false_or, ← Bool.not_and, digs_iff, decide_eq_false (show ¬ (30 < a.length) by omega), Bool.or_false]
  congr 1
  cases digsB a <;> by_cases z : a.length = 0 <;> simp [z]
theorem figD_big {a : Str} (h : 2 < a.length) : figD 2 a = .none := by
  unfold figD
  rw [decide_eq_true (show ((2 : Int) < (a.length : Int)) by omega)]
  rfl
theorem val_ge : ∀ (cs : List Nat) (acc : Nat), acc * 10 ^ cs.length ≤ cs.foldl (fun acc c => acc * 10 + (c - 48)) acc
  | [], acc => by simp
  | c :: r, acc => by
    refine Nat.le_trans ?_ (val_ge r _)
    rw [List.length_cons, Nat.pow_succ, Nat.mul_comm (10 ^ r.length) 10, ← Nat.mul_assoc]
    exact Nat.mul_le_mul_right _ (Nat.le_add_right _ _)
/-- the first sign -/
theorem starts0 {a : Str} {c : Nat} {r : List Nat} (e : a.cps.toList = c :: r) : Txt.startswith a "0" = decide (c = 48) := by
  obtain ⟨cps⟩ := a
  have e : cps.toList = c :: r := e
  have hc : cps = (c :: r).toArray := by
    rw [← e]
  subst hc
  unfold Txt.startswith
  have h1 : decide (0 + ("0" : Str).length ≤ (⟨(c :: r).toArray⟩ : Str).length) = true := decide_eq_true (by show 0 + 1 ≤ (c :: r).toArray.size; simp)
  rw [h1, Bool.true_and]
  show ((c :: r).toArray.extract 0 (0 + 1) == #[48]) = _
  have h2 : (c :: r).toArray.extract 0 (0 + 1) = #[c] := by simp
  rw [h2]
  by_cases z : c = 48
  · subst z
    rfl
  · rw [decide_eq_false z]
    simp [z]
theorem len_list (a : Str) : a.cps.toList.length = a.length := Array.length_toList
theorem figL_nn (a : Str) : figL a = .none ∨ ∃ n : Int, figL a = .int n ∧ 0 ≤ n ∧ (2 < a.length → 100 ≤ n) := by
  unfold figL
  cases hb : (decide (a.length = 0) || !(digsB a) || decide (30 < a.length)) with
  | true => exact .inl rfl
  | false =>
    rw [if_neg Bool.false_ne_true]
    rw [Bool.or_eq_false_iff, Bool.or_eq_false_iff] at hb
    obtain ⟨⟨h0, hd⟩, h30⟩ := hb
    have h0 := of_decide_eq_false h0
    have h30 := of_decide_eq_false h30
    have hd : digsB a = true := by simpa using hd
    cases hs : (Txt.startswith a "0" && !(a == ("0" : Str))) with
    | true => exact .inl rfl
    | false =>
      rw [if_neg Bool.false_ne_true]
      have ne : a.cps.toList ≠ [] := fun e => h0 (by rw [← len_list, e]; rfl)
      rw [intText_digits (digs_all hd) ne (by omega)]
      refine .inr ⟨_, rfl, Int.natCast_nonneg _, fun hl => ?_⟩
      match ea : a.cps.toList, ne with
      | c :: r, _ =>
        have ll := len_list a
        rw [ea, List.length_cons] at ll
        have hdig := digs_all hd c (by rw [ea]; exact List.mem_cons_self)
        rw [starts0 ea] at hs
        have nc : c ≠ 48 := fun z => by
          subst z
          rw [decide_eq_true rfl, Bool.true_and] at hs
          have hs : (a == ("0" : Str)) = true := by simpa using hs
          have : a = ("0" : Str) := by simpa using hs
          rw [this] at hl
          exact absurd hl (by decide)
        have : (100 : Nat) ≤ NumText.digitsVal (c :: r) := by
          unfold NumText.digitsVal
          rw [List.foldl_cons]
          refine Nat.le_trans ?_ (val_ge r _)
          have p2 : 10 ^ 2 ≤ 10 ^ r.length := Nat.pow_le_pow_right (by decide) (by omega)
          have p1 : 1 ≤ 0 * 10 + (c - 48) := by omega
          calc 100 = 1 * 10 ^ 2 := rfl
            _ ≤ (0 * 10 + (c - 48)) * 10 ^ r.length := Nat.mul_le_mul p1 p2
        omega
end Dl

set_option synthInstance.maxHeartbeats 2000000
set_option synthInstance.maxSize 100000
namespace Wy
open PySem PySem.Spec PyProof.Rows L2 Dl
local macro_rules | `(tactic| walk_at "dl0") => `(tactic| simp only [startD, iEn, cvs, cv, vS, Sl.dat, Sl.seq, Sl.sq, Sl.fz, dats, dSetI, dAug, wipeD, List.length_cons, List.length_nil, List.length_append, List.length_replicate, Nat.reduceAdd, Nat.reduceSub, Nat.zero_add, List.replicate_succ, List.replicate_zero, List.cons_append, List.nil_append, List.append_nil, List.set_cons_zero, List.set_cons_succ, List.set_nil, List.getElem?_cons_zero, List.getElem?_cons_succ, Option.getD_some, List.map_cons, List.map_nil, Option.bind_some, fI0_c, fI_c, fU_c, fAddX_i, fAddX_t, fAddX_s, fAddX_mm, fAddX_bm, fAddX_mb, fAddX_bb, fAddX_lm, fAddX_ll, fMulX_i, fMulX_m, fSlX_t, fSlX_m, fSlX_b, fSlX_l, fIs_n, fIs_i, fIs_b, fIs_s, fIs_l, fIs_t, fIs_m, fIs_bl, fLen_t, fLen_l, fLen_m, fLen_b, fLen_scr, fIsi_c, fEqD_c, fEqD_mm, fEqD_bm, fEqD_bb, fEqD_dm, fEq_ss, fInt_i, fInt_b, fTuple_m, fTuple_b, fTuple_t, fTuple_l, fList_m, fList_b, fList_t, fList_l, f2I_c, fRepr_c, fRepr_m, fRepr_b, fStr_c, Bool.not_true, Bool.not_false, true_and, netT, Road.dt, reduceIte, Bool.false_eq_true, decide_true, decide_false, tupK, lstK, dNext_c, dBreak_c, dCont_c, dSeq_c, dDrop_c, dRet_c, retK_d, retK_m, retK_r, dRetN_c, dIfS_c, iteS_t, iteS_f, dSet_c, setK_d, setK_m, setK_s, setK_r, dAsg_c, asgK_d, asgK_m, dFz_c, dNever_c, dRaise_c, dC_c, dOp_c, dUn_c, dTst_c, tstK_c, dTru_c, truK_n, truK_b, truK_i, truK_t, truK_l, truK_m, truK_bl, dNot_c, dAnd_c, andK_t, andK_f, dOr_c, orK_t, orK_f, dAndV_c, andV_t, andV_f, dOrV_c, orV_t, orV_f, dNotV_c, dIf_c, iteE_t, iteE_f, dChain_c, chK_t, chK_f, dNil_c, dCons_c, dCB_c, dCall_c, dCall0_c, dTup_c, dLst_c, dFor_c, dLc_c, iTp_c, tpK_c, iLst_c, lsK_d, lsK_m, iSeq_c, sqK_d, sqK_m, sqK_b, dSl_c, dNo_c, dPt_c, ptK_c, dYes_c, dBack_k, backK_c, dTupRg_c, dLstRg_c, dRg1_c, dRg2_c, rg1K_c, rg2K_c, tupRg_c, lstRg_c, dDict0_c, dDict1_c, gdName_c, gdTup_c, gdCons_c, gdNil_c, dApp_c, appK_c, apK_d, apK_m, dVar_c, varK_d, varK_m, varK_b, varK_s, varK_sc, varK_r, dNew_c, varK_mo, varK_bo, setK_mo, retK_mo, dDIn_c, dinK_i, dinK_s, dDGet_c, dDGet1_c, isBo_c, dget1K_i, dDPut_c, dputV_d, dputK_i, val_mo, dOwn0_c, dDispV_c, dispK_i, fRepT_c, fIsB_c, dM0_c, dM1_c, isStr_c, fQ0_c, fQ1_c, fSplit_c, fLenS_c, iEnSD_c, dSetdIf_c, setdB_f, enSK_m, enSK_d, dOrT_c, dAndT_c, orTK_n, dCallK_c, dCallK0_c, dCallD_c, dCallD0_c, dSaid_c, toldK_d, toldK_m, iRg1_c, rgK_c, iRg2_c, rgK2_c, iEnT_c, enK_c, iZp_c, zpK_tt, zpK_mm, zpK_ll, zpK_lm, zpK_ml, dPar_c, parK_im, parK_nm, parK_sm, parK_dd, parK_md])
local macro_rules | `(tactic| walk_at "dl1") => `(tactic| simp only [show ((0 : Nat) ≤ sizeLine) = True from eq_true (by decide), show ((1 : Nat) ≤ sizeLine) = True from eq_true (by decide), show ((2 : Nat) ≤ sizeLine) = True from eq_true (by decide), show ((3 : Nat) ≤ sizeLine) = True from eq_true (by decide), show ((4 : Nat) ≤ sizeLine) = True from eq_true (by decide), show ((5 : Nat) ≤ sizeLine) = True from eq_true (by decide), show ((6 : Nat) ≤ sizeLine) = True from eq_true (by decide), show ((7 : Nat) ≤ sizeLine) = True from eq_true (by decide), show ((8 : Nat) ≤ sizeLine) = True from eq_true (by decide), show ((9 : Nat) ≤ sizeLine) = True from eq_true (by decide), show ((10 : Nat) ≤ sizeLine) = True from eq_true (by decide), show ((11 : Nat) ≤ sizeLine) = True from eq_true (by decide), show ((12 : Nat) ≤ sizeLine) = True from eq_true (by decide), show ((13 : Nat) ≤ sizeLine) = True from eq_true (by decide), show ((14 : Nat) ≤ sizeLine) = True from eq_true (by decide), show ((15 : Nat) ≤ sizeLine) = True from eq_true (by decide), show ((16 : Nat) ≤ sizeLine) = True from eq_true (by decide), show ((17 : Nat) ≤ sizeLine) = True from eq_true (by decide), show ((18 : Nat) ≤ sizeLine) = True from eq_true (by decide), show ((19 : Nat) ≤ sizeLine) = True from eq_true (by decide), show ((20 : Nat) ≤ sizeLine) = True from eq_true (by decide), show ((21 : Nat) ≤ sizeLine) = True from eq_true (by decide), show ((22 : Nat) ≤ sizeLine) = True from eq_true (by decide), show ((23 : Nat) ≤ sizeLine) = True from eq_true (by decide), show ((24 : Nat) ≤ sizeLine) = True from eq_true (by decide), show ((25 : Nat) ≤ sizeLine) = True from eq_true (by decide), show ((26 : Nat) ≤ sizeLine) = True from eq_true (by decide), show ((27 : Nat) ≤ sizeLine) = True from eq_true (by decide), show ((28 : Nat) ≤ sizeLine) = True from eq_true (by decide), show ((29 : Nat) ≤ sizeLine) = True from eq_true (by decide), show ((30 : Nat) ≤ sizeLine) = True from eq_true (by decide), show ((31 : Nat) ≤ sizeLine) = True from eq_true (by decide), show ((32 : Nat) ≤ sizeLine) = True from eq_true (by decide), show ((33 : Nat) ≤ sizeLine) = True from eq_true (by decide), show ((34 : Nat) ≤ sizeLine) = True from eq_true (by decide), show ((35 : Nat) ≤ sizeLine) = True from eq_true (by decide), show ((36 : Nat) ≤ sizeLine) = True from eq_true (by decide), show ((37 : Nat) ≤ sizeLine) = True from eq_true (by decide), show ((38 : Nat) ≤ sizeLine) = True from eq_true (by decide), show ((39 : Nat) ≤ sizeLine) = True from eq_true (by decide), show ((40 : Nat) ≤ sizeLine) = True from eq_true (by decide), true_and])
section
variable {P : Program} {w : World} {K : PySem.W.Frag} {mg : Str → Option Value} {base : Heap} {C : Nat → Addr}
theorem sc__law_net : FnScope ["_law_state_here", "_law_most", "_law_roads", "_law_places", "_law_found", "_law_wide", "_law_turn", "_law_one", "_law_other"] ["_law_state_here", "_law_most", "_law_roads"] (defScope s__law_net) := ⟨rfl, rfl, rfl, by decide +kernel, rfl, by decide +kernel, by decide +kernel⟩
def sd__law_net : SpD := fun ss Qd _ => ∃ m R : Int, ss = [.st, .d (.int m), .d (.int R)] ∧ 0 < m ∧ m ≤ 10 ∧ 0 ≤ R ∧ R ≤ 30 ∧ ∀ (p : Int) (rs : List Road), NetOk p rs → p ≤ m → (rs.length : Int) ≤ R → Qd (.d (netT p rs))
theorem c__law_net (T : Tx P K mg C) : Cb P w K mg base CX0 2 "_law_net" ["_law_state_here", "_law_most", "_law_roads"] (spD K [] sd__law_net) := by
  obtain ⟨f, fd, D⟩ := T.h__law_net
  refine ⟨f, fd, okD (k := 1) D.F sc__law_net (fun ss Qd R h => ?_) (fun cdv A outer s H E hr => ⟨_, (pss_cons (ps_par (i := 3) (j := 4) (by rfl) sc__law_net.nd rfl rfl (by decide) rfl rfl (pa_cons (pe_op (op_addK (K := K) rfl) pe_int (pe_cb (c__law_take (K := K) T) (hr.mono (by decide)) (by rfl) pass0 (pa_cons (pv 0) (pa_cons (pv 1) pa_nil)))) (pa_cons (pe_lst pa_nil) pa_nil)) (by rfl))
    (pss_cons (ps_set (i := 5) sc__law_net.nd rfl (.inl rfl) (pe_ix (ix_seqK (K := K) rfl) (pe_lst (pa_cons pe_int (pa_cons pe_int (pa_cons pe_int pa_nil)))) (pe_cb (c__law_take (K := K) T) (hr.mono (by decide)) (by rfl) pass0 (pa_cons (pv 0) (pa_cons pe_int pa_nil))) (fun _ _ => rfl)))
    (pss_cons (ps_for PassesOwn.never rfl (pi_range1 (by rfl) T.range (pa_cons (pe_ifExp (pt_cmpR op_gt (pv 3) pe_int (nomark _)) (pe_ix (ix_seqK (K := K) rfl) (pe_lst (pa_cons (pv 2) (pa_cons (pe_cb (c__law_take (K := K) T) (hr.mono (by decide)) (by rfl) pass0 (pa_cons (pv 0) (pa_cons (pe_op (op_addK (K := K) rfl) (pv 2) pe_int) pa_nil))) pa_nil))) (pe_cb (c__law_take (K := K) T) (hr.mono (by decide)) (by rfl) pass0 (pa_cons (pv 0) (pa_cons pe_int pa_nil))) (fun _ _ => rfl)) pe_int) pa_nil)) (pg_name (i := 6) sc__law_net.nd rfl (.inl rfl))
    (pss_cons (ps_set (i := 7) sc__law_net.nd rfl (.inl rfl) (pe_cb (c__law_take (K := K) T) (hr.mono (by decide)) (by rfl) pass0 (pa_cons (pv 0) (pa_cons (pv 3) pa_nil))))
    (pss_cons (ps_set (i := 8) sc__law_net.nd rfl (.inl rfl) (pe_op op_mod (pe_op (op_addK (K := K) rfl) (pe_op (op_addK (K := K) rfl) (pv 7) pe_int) (pe_cb (c__law_take (K := K) T) (hr.mono (by decide)) (by rfl) pass0 (pa_cons (pv 0) (pa_cons (pe_op op_sub (pv 3) pe_int) pa_nil)))) (pv 3)))
    (pss_cons (ps_if (PW.pt (pw_and (pt_cmpR (op_eqK (K := K) rfl hr.units) (pe_cb (c__law_take (K := K) T) (hr.mono (by decide)) (by rfl) pass0 (pa_cons (pv 0) (pa_cons pe_int pa_nil))) pe_int (nomark _)) (pw_and1 (pt_cmpR (op_neK (K := K) rfl hr.units) (pv 4) (pe_lst pa_nil) (nomark _))))) (pss_one (ps_asg (pe_slice (sl_anyK (K := K) rfl) (pe_ix (ix_seqK (K := K) rfl) (pv 4) (pe_un un_neg pe_int) (fun _ _ => rfl)) po_none (po_some pe_int)) (pg_tupK (n := 2) (K := K) rfl (by rfl) (pgs_cons (pg_name (i := 7) sc__law_net.nd rfl (.inl rfl)) (pgs_cons (pg_name (i := 8) sc__law_net.nd rfl (.inl rfl)) pgs_nil))))) pss_nil)
    (pss_one (ps_expr (pe_bmK (K := K) rfl PySem.F.plainAttrs_list PySem.F.slot_list_append PySem.F.type_list_append mt_append (pv 4) (pa_cons (pe_tup (pa_cons (pv 7) (pa_cons (pv 8) (pa_cons (pe_op (op_addK (K := K) rfl) pe_int (pe_cb (c__law_take (K := K) T) (hr.mono (by decide)) (by rfl) pass0 (pa_cons (pv 0) (pa_cons (pv 5) pa_nil)))) (pa_cons (pe_cb (c__law_take (K := K) T) (hr.mono (by decide)) (by rfl) pass0 (pa_cons (pv 0) (pa_cons (pe_ix (ix_seqK (K := K) rfl) (pe_lst (pa_cons pe_int (pa_cons pe_int pa_nil))) (pe_cb (c__law_take (K := K) T) (hr.mono (by decide)) (by rfl) pass0 (pa_cons (pv 0) (pa_cons pe_int pa_nil))) (fun _ _ => rfl)) pa_nil))) pa_nil))))) pa_nil))))))))
    (pss_one (ps_ret (pe_tup (pa_cons (pv 3) (pa_cons (pe_callTy (call_tupleK (K := K) rfl) (by rfl) T.tuple (by decide +kernel) (pa_cons (pv 4) pa_nil)) pa_nil)))))))), ?_⟩), D.g, D.F.kp, D.b⟩
  · obtain ⟨_, _, rfl, _⟩ := h
    rfl
  · refine ⟨_, fun τ => inferInstance, fun ss Qd R h => ?_⟩
    obtain ⟨m, R', rfl, hm0, hm1, hR0, hR1, q⟩ := h
    try walk_at "dl0"
    refine ⟨m, rfl, hm0, by omega, fun n n0 n1 => ?_⟩
    try walk_at "dl0"
    try walk_at "dl1"
    refine ⟨3, rfl, by decide, by decide, fun a a0 a1 => ?_⟩
    refine fIx_num (lo := 2) (hi := 99) a0 a1 (fun d hd => ?_) fun wide w0 w1 => ?_
    · simp only [List.mem_cons, List.not_mem_nil, or_false] at hd
      rcases hd with rfl | rfl | rfl
      · exact ⟨_, rfl, by decide, by decide⟩
      · exact ⟨_, rfl, by decide, by decide⟩
      · exact ⟨_, rfl, by decide, by decide⟩
    try walk_at "dl0"
    obtain ⟨p, hp⟩ : ∃ p : Int, p = 1 + n := ⟨_, rfl⟩
    rw [← hp]
    by_cases hp1 : 1 < p
    · rw [decide_eq_true hp1]
      try walk_at "dl0"
      refine ⟨R' + 1, rfl, by omega, by omega, fun c c0 c1 => ?_⟩
      try walk_at "dl0"
      try walk_at "dl1"
      refine ⟨2, rfl, by decide, by decide, fun b b0 b1 => ?_⟩
      refine fIx_num (lo := 0) (hi := R') b0 b1 (fun d hd => ?_) fun t t0 t1 => ?_
      · simp only [List.mem_cons, List.not_mem_nil, or_false] at hd
        rcases hd with rfl | rfl
        · exact ⟨_, rfl, hR0, Int.le_refl _⟩
        · exact ⟨_, rfl, c0, by omega⟩
      try walk_at "dl0"
      refine ⟨by omega, by omega, ?_⟩
      refine forD_by (fun i ρ => ∃ y6 y7 y8 rs, ρ = [.st, .d (.int m), .d (.int R'), .d (.int p), .ml (rs.map Road.dt), .d (.int wide), y6, y7, y8] ∧ rs.length = i ∧ ∀ q ∈ rs, RoadOk p q) ⟨_, _, _, [], rfl, rfl, fun _ h => nomatch h⟩ (fun i d ρ N hd h hN => ?_) (fun ρ h => ?_)
      · obtain ⟨y6, y7, y8, rs, rfl, hl, hok⟩ := h
        obtain ⟨hi, rfl⟩ := rangeD_get hd
        have fin : ∀ one other : Int, 0 ≤ one → one ≤ p - 1 → 0 ≤ other → other ≤ p - 1 → one ≠ other → ∀ cost time : Int, 1 ≤ cost → cost ≤ 99 → 0 ≤ time → time ≤ 99 → N [.st, .d (.int m), .d (.int R'), .d (.int p), .ml (rs.map Road.dt ++ [.tuple [.int one, .int other, .int cost, .int time]]), .d (.int wide), .d (.int (0 + (i : Int))), .d (.int one), .d (.int other)] := fun one other o0 o1 u0 u1 ne cost time k0 k1 m0 m1 => by
          refine hN _ ⟨.d (.int (0 + (i : Int))), .d (.int one), .d (.int other), rs ++ [⟨one, other, cost, time⟩], ?_, by rw [List.length_append, hl]; rfl, fun q hq => ?_⟩
          · rw [List.map_append]
            rfl
          · rcases List.mem_append.mp hq with z | z
            · exact hok q z
            · rw [List.mem_singleton.mp z]
              exact ⟨o0, o1, u0, u1, ne, k0, k1, m0, m1⟩
        try walk_at "dl0"
        refine ⟨p, rfl, by omega, by omega, fun one o0 o1 => ?_⟩
        try walk_at "dl0"
        refine ⟨p - 1, rfl, by omega, by omega, fun far f0 f1 => ?_⟩
        try walk_at "dl0"
        obtain ⟨u0, u1, ne⟩ := other_ok (p := p) o0 o1 f0 f1
        obtain ⟨other, eo⟩ : ∃ other : Int, other = (one + 1 + far) % p := ⟨_, rfl⟩
        rw [← eo] at u0 u1 ne ⊢
        refine ⟨by omega, 5, rfl, by decide, by decide, fun five v0 v1 => ?_⟩
        try walk_at "dl0"
        refine ⟨sh_int _, sh_int _, ?_⟩
        rw [eqv_int]
        cases decide (five = 0) with
        | false =>
          try walk_at "dl0"
          refine ⟨wide, rfl, by omega, by omega, fun k k0 k1 => ?_⟩
          try walk_at "dl0"
          try walk_at "dl1"
          refine ⟨2, rfl, by decide, by decide, fun b b0 b1 => ?_⟩
          refine fIx_num (lo := 3) (hi := 100) b0 b1 (fun d hd => ?_) fun far2 g0 g1 => ?_
          · simp only [List.mem_cons, List.not_mem_nil, or_false] at hd
            rcases hd with rfl | rfl
            · exact ⟨_, rfl, by decide, by decide⟩
            · exact ⟨_, rfl, by decide, by decide⟩
          try walk_at "dl0"
          refine ⟨far2, rfl, by omega, by omega, fun time m0 m1 => ?_⟩
          try walk_at "dl0"
          try walk_at "dl1"
          refine ⟨line_1000 (by rw [List.length_map]; omega), ?_⟩
          exact fin one other o0 (by omega) u0 u1 ne (1 + k) time (by omega) (by omega) m0 (by omega)
        | true =>
          try walk_at "dl0"
          try walk_at "dl1"
          refine ⟨(lay_lst (n := 1) fun x hx => by
            obtain ⟨q, _, rfl⟩ := List.mem_map.mp hx
            exact lay_road q).sh (by decide), by decide +kernel, ?_⟩
          have e0 : PyData.eqv (.list (rs.map Road.dt)) (.list []) = rs.isEmpty := by cases rs <;> simp [PyData.eqv, PyData.eqvAll]
          rw [e0]
          cases er : rs.isEmpty with
          | true =>
            try walk_at "dl0"
            refine ⟨wide, rfl, by omega, by omega, fun k k0 k1 => ?_⟩
            try walk_at "dl0"
            try walk_at "dl1"
            refine ⟨2, rfl, by decide, by decide, fun b b0 b1 => ?_⟩
            refine fIx_num (lo := 3) (hi := 100) b0 b1 (fun d hd => ?_) fun far2 g0 g1 => ?_
            · simp only [List.mem_cons, List.not_mem_nil, or_false] at hd
              rcases hd with rfl | rfl
              · exact ⟨_, rfl, by decide, by decide⟩
              · exact ⟨_, rfl, by decide, by decide⟩
            try walk_at "dl0"
            refine ⟨far2, rfl, by omega, by omega, fun time m0 m1 => ?_⟩
            try walk_at "dl0"
            try walk_at "dl1"
            refine ⟨line_1000 (by rw [List.length_map]; omega), ?_⟩
            exact fin one other o0 (by omega) u0 u1 ne (1 + k) time (by omega) (by omega) m0 (by omega)
          | false =>
            try walk_at "dl0"
            obtain ⟨init, last, el⟩ : ∃ init last, rs = init ++ [last] := by
              refine ⟨rs.dropLast, rs.getLast (fun z => ?_), (List.dropLast_concat_getLast _).symm⟩
              rw [z] at er
              cases er
            have lok := hok last (by rw [el]; simp)
            have em : rs.map Road.dt = init.map Road.dt ++ [last.dt] := by rw [el, List.map_append]; rfl
            refine fIxB_last em ?_
            try walk_at "dl0"
            rw [show cutD [PyData.int last.one, .int last.other, .int last.cost, .int last.time] none (some 2) = [.int last.one, .int last.other] from rfl]
            try walk_at "dl0"
            refine ⟨wide, rfl, by omega, by omega, fun k k0 k1 => ?_⟩
            try walk_at "dl0"
            try walk_at "dl1"
            refine ⟨2, rfl, by decide, by decide, fun b b0 b1 => ?_⟩
            refine fIx_num (lo := 3) (hi := 100) b0 b1 (fun d hd => ?_) fun far2 g0 g1 => ?_
            · simp only [List.mem_cons, List.not_mem_nil, or_false] at hd
              rcases hd with rfl | rfl
              · exact ⟨_, rfl, by decide, by decide⟩
              · exact ⟨_, rfl, by decide, by decide⟩
            try walk_at "dl0"
            refine ⟨far2, rfl, by omega, by omega, fun time m0 m1 => ?_⟩
            try walk_at "dl0"
            try walk_at "dl1"
            refine ⟨line_1000 (by rw [List.length_map]; omega), ?_⟩
            exact fin last.one last.other lok.o1 lok.o2 lok.t1 lok.t2 lok.ne (1 + k) time (by omega) (by omega) m0 (by omega)
      · obtain ⟨y6, y7, y8, rs, rfl, hl, hok⟩ := h
        rw [rangeD_len] at hl
        try walk_at "dl0"
        refine ⟨by decide, ?_⟩
        exact q p rs ⟨by omega, by omega, by omega, hok⟩ (by omega) (by omega)
    · rw [decide_eq_false hp1]
      try walk_at "dl0"
      refine ⟨by decide, by decide, ?_⟩
      refine forD_by (fun _ ρ => ∃ y6 y7 y8, ρ = [.st, .d (.int m), .d (.int R'), .d (.int p), .ml [], .d (.int wide), y6, y7, y8]) ⟨_, _, _, rfl⟩ (fun i d ρ N hd h hN => ?_) (fun ρ h => ?_)
      · obtain ⟨hi, rfl⟩ := rangeD_get hd
        exact absurd hi (Nat.not_lt_zero _)
      · obtain ⟨y6, y7, y8, rfl⟩ := h
        try walk_at "dl0"
        refine ⟨by decide, ?_⟩
        exact q p [] ⟨by omega, by omega, by decide, fun _ h => nomatch h⟩ (by omega) (by show (0 : Int) ≤ R'; omega)
def oddM : List PyData := [.none, .bool true, .bool false, .int 0, .int 1, .int (-1), .int 99, .int 100, .int (10 ^ 29), .str "", .str "0", .str "roads", .tuple [], .list [], .dict [], .tuple [.int 0], .list [.int 0], .tuple [.int 0, .int 1], .tuple [.bool true], .tuple [.tuple []], .dict [(.int 0, .int 1)], .tuple [.int 1, .tuple []], .list [.int 1, .tuple []], .tuple [.none, .int 0], .tuple [.str "bound"], .tuple [.tuple [.int 0, .int 1]]]
theorem sc__law_odd : FnScope ["_law_state_here", "_law_some"] ["_law_state_here"] (defScope s__law_odd) := ⟨rfl, rfl, rfl, by decide +kernel, rfl, by decide +kernel, by decide +kernel⟩
def sd__law_odd : SpD := fun ss Qd _ => ss = [.st] ∧ ∀ d ∈ oddM, Qd (.d d)
theorem c__law_odd (T : Tx P K mg C) : Cb P w K mg base CX0 2 "_law_odd" ["_law_state_here"] (spD K [] sd__law_odd) := by
  obtain ⟨f, fd, D⟩ := T.h__law_odd
  refine ⟨f, fd, okD (k := 1) D.F sc__law_odd (fun ss Qd R h => ?_) (fun cdv A outer s H E hr => ⟨_, (pss_cons (ps_set (i := 1) sc__law_odd.nd rfl (.inl rfl) (pe_lst (pa_cons pe_non (pa_cons pe_bl (pa_cons pe_bl (pa_cons pe_int (pa_cons pe_int (pa_cons (pe_un un_neg pe_int) (pa_cons pe_int (pa_cons pe_int (pa_cons (pe_op op_pow pe_int pe_int) (pa_cons pe_str (pa_cons pe_str (pa_cons pe_str (pa_cons (pe_tup pa_nil) (pa_cons (pe_lst pa_nil) (pa_cons pe_dnewK (pa_cons (pe_tup (pa_cons pe_int pa_nil)) (pa_cons (pe_lst (pa_cons pe_int pa_nil)) (pa_cons (pe_tup (pa_cons pe_int (pa_cons pe_int pa_nil))) (pa_cons (pe_tup (pa_cons pe_bl pa_nil)) pa_nil)))))))))))))))))))))
    (pss_one (ps_ret (pe_ix (ix_seqK (K := K) rfl) (pe_op (op_addK (K := K) rfl) (pv 1) (pe_lst (pa_cons (pe_tup (pa_cons (pe_tup pa_nil) pa_nil)) (pa_cons (pe_disp (pps_cons pe_int pe_int pps_nil) (by rfl) (by rfl) (fun z => by cases z) (by decide)) (pa_cons (pe_tup (pa_cons pe_int (pa_cons (pe_tup pa_nil) pa_nil))) (pa_cons (pe_lst (pa_cons pe_int (pa_cons (pe_tup pa_nil) pa_nil))) (pa_cons (pe_tup (pa_cons pe_non (pa_cons pe_int pa_nil))) (pa_cons (pe_tup (pa_cons pe_str pa_nil)) (pa_cons (pe_tup (pa_cons (pe_tup (pa_cons pe_int (pa_cons pe_int pa_nil))) pa_nil)) pa_nil))))))))) (pe_cb (c__law_take (K := K) T) (hr.mono (by decide)) (by rfl) pass0 (pa_cons (pv 0) (pa_cons pe_int pa_nil))) (fun _ _ => rfl))))), ?_⟩), D.g, D.F.kp, D.b⟩
  · obtain ⟨rfl, _⟩ := h
    rfl
  · refine ⟨_, fun τ => inferInstance, fun ss Qd R h => ?_⟩
    obtain ⟨rfl, q⟩ := h
    try walk_at "dl0"
    try walk_at "dl1"
    refine ⟨⟨by decide, by decide, by decide⟩, 26, rfl, by decide, by decide, fun b b0 b1 => ?_⟩
    exact fIx_pick b0 b1 q
end
end Wy

set_option synthInstance.maxHeartbeats 2000000
set_option synthInstance.maxSize 100000
namespace Wy
open PySem PySem.Spec PyProof.Rows L2 Dl
section
variable {P : Program} {w : World} {K : PySem.W.Frag} {mg : Str → Option Value} {base : Heap} {C : Nat → Addr}
theorem sc_is_whole : FnScope ["thing"] ["thing"] (defScope s_is_whole) := ⟨rfl, rfl, rfl, by decide +kernel, rfl, by decide +kernel, by decide +kernel⟩
def sd_is_whole : SpD := fun ss Qd _ => ∃ x, ss = [.d x] ∧ Qd (.d (.bool (wholeD x)))
theorem c_is_whole (T : Tx P K mg C) : Cb P w K mg base CX0 1 "is_whole" ["thing"] (spD K [] sd_is_whole) := by
  obtain ⟨f, fd, D⟩ := T.h_is_whole
  refine ⟨f, fd, okD (k := 0) D.F sc_is_whole (fun ss Qd R h => ?_) (fun cdv A outer s H E hr => ⟨_, (pss_one (ps_ret (pe_and (pe_callB (call_isiQ (K := K) rfl) (by rfl) T.isinstance (by decide +kernel) (pa_cons (pv 0) (pa_cons (pe_bltn (v := .ty "int") (by rfl) T.int (by decide +kernel) rfl) pa_nil))) (pe_one (pe_not (pe_callB (call_isiQ (K := K) rfl) (by rfl) T.isinstance (by decide +kernel) (pa_cons (pv 0) (pa_cons (pe_bltn (v := .ty "bool") (by rfl) T.bool (by decide +kernel) rfl) pa_nil)))))))), ?_⟩), D.g, D.F.kp, D.b⟩
  · obtain ⟨_, rfl, _⟩ := h
    rfl
  · refine ⟨_, fun τ => inferInstance, fun ss Qd R h => ?_⟩
    obtain ⟨x, rfl, q⟩ := h
    cases x with
    | int i => exact ⟨.inl rfl, .inr (.inl rfl), q⟩
    | bool b => exact ⟨.inl rfl, .inr (.inl rfl), q⟩
    | _ => exact ⟨.inl rfl, q⟩
theorem sc_is_within : FnScope ["thing", "low", "high"] ["thing", "low", "high"] (defScope s_is_within) := ⟨rfl, rfl, rfl, by decide +kernel, rfl, by decide +kernel, by decide +kernel⟩
def sd_is_within : SpD := fun ss Qd _ => ∃ x, ∃ lo hi : Int, ss = [.d x, .d (.int lo), .d (.int hi)] ∧ Qd (.d (.bool (withinD lo hi x)))
theorem c_is_within (T : Tx P K mg C) : Cb P w K mg base CX0 2 "is_within" ["thing", "low", "high"] (spD K [] sd_is_within) := by
  obtain ⟨f, fd, D⟩ := T.h_is_within
  refine ⟨f, fd, okD (k := 1) D.F sc_is_within (fun ss Qd R h => ?_) (fun cdv A outer s H E hr => ⟨_, (pss_one (ps_ret (pe_and (pe_cb (c_is_whole (K := K) T) (hr.mono (by decide)) (by rfl) pass0 (pa_cons (pv 0) pa_nil)) (pe_one (pe_chain op_le op_le (pv 1) (pv 0) (pv 2)))))), ?_⟩), D.g, D.F.kp, D.b⟩
  · obtain ⟨_, _, _, rfl, _⟩ := h
    rfl
  · refine ⟨_, fun τ => inferInstance, fun ss Qd R h => ?_⟩
    obtain ⟨x, lo, hi, rfl, q⟩ := h
    refine ⟨x, rfl, ?_⟩
    cases x with
    | int i =>
      have e : withinD lo hi (.int i) = (decide (lo ≤ i) && decide (i ≤ hi)) := rfl
      rw [e] at q
      show (match decide (lo ≤ i) with | true => _ | false => _)
      cases h1 : decide (lo ≤ i) with
      | true =>
        rw [h1] at q
        exact q
      | false =>
        rw [h1] at q
        exact q
    | _ => exact q
theorem sc_is_tuple_of : FnScope ["thing", "many"] ["thing", "many"] (defScope s_is_tuple_of) := ⟨rfl, rfl, rfl, by decide +kernel, rfl, by decide +kernel, by decide +kernel⟩
def sd_is_tuple_of : SpD := fun ss Qd _ => ∃ x, ∃ n : Int, ss = [.d x, .d (.int n)] ∧ Qd (.d (.bool (tupD n x)))
theorem c_is_tuple_of (T : Tx P K mg C) : Cb P w K mg base CX0 1 "is_tuple_of" ["thing", "many"] (spD K [] sd_is_tuple_of) := by
  obtain ⟨f, fd, D⟩ := T.h_is_tuple_of
  refine ⟨f, fd, okD (k := 0) D.F sc_is_tuple_of (fun ss Qd R h => ?_) (fun cdv A outer s H E hr => ⟨_, (pss_one (ps_ret (pe_and (pe_callB (call_isiQ (K := K) rfl) (by rfl) T.isinstance (by decide +kernel) (pa_cons (pv 0) (pa_cons (pe_bltn (v := .ty "tuple") (by rfl) T.tuple (by decide +kernel) rfl) pa_nil))) (pe_one (pe_cmpR (op_eqK (K := K) rfl hr.units) (pe_callB (call_lenK (K := K) rfl) (by rfl) T.len PySem.boot_len (pa_cons (pv 0) pa_nil)) (pv 1) (nomark _)))))), ?_⟩), D.g, D.F.kp, D.b⟩
  · obtain ⟨_, _, rfl, _⟩ := h
    rfl
  · refine ⟨_, fun τ => inferInstance, fun ss Qd R h => ?_⟩
    obtain ⟨x, n, rfl, q⟩ := h
    cases x with
    | tuple xs =>
      refine ⟨.inr (.inr (.inl rfl)), sh_int _, sh_int _, ?_⟩
      rw [eqv_int]
      exact q
    | _ => exact ⟨.inr (.inr (.inl rfl)), q⟩
theorem sc_is_road_among : FnScope ["places", "thing", "one", "other", "cost", "time"] ["places", "thing"] (defScope s_is_road_among) := ⟨rfl, rfl, rfl, by decide +kernel, rfl, by decide +kernel, by decide +kernel⟩
def sd_is_road_among : SpD := fun ss Qd _ => ∃ x, ∃ p : Int, ss = [.d (.int p), .d x] ∧ Qd (.d (.bool (roadD p x)))
theorem c_is_road_among (T : Tx P K mg C) : Cb P w K mg base CX0 3 "is_road_among" ["places", "thing"] (spD K [] sd_is_road_among) := by
  obtain ⟨f, fd, D⟩ := T.h_is_road_among
  refine ⟨f, fd, okD (k := 2) D.F sc_is_road_among (fun ss Qd R h => ?_) (fun cdv A outer s H E hr => ⟨_, (pss_cons (ps_if (pt_not (pt_val (pe_cb (c_is_tuple_of (K := K) T) (hr.mono (by decide)) (by rfl) pass0 (pa_cons (pv 1) (pa_cons pe_int pa_nil))))) (pss_one (ps_ret pe_bl)) pss_nil)
    (pss_cons (ps_asg (pv 1) (pg_tupK (n := 4) (K := K) rfl (by rfl) (pgs_cons (pg_name (i := 2) sc_is_road_among.nd rfl (.inl rfl)) (pgs_cons (pg_name (i := 3) sc_is_road_among.nd rfl (.inl rfl)) (pgs_cons (pg_name (i := 4) sc_is_road_among.nd rfl (.inl rfl)) (pgs_cons (pg_name (i := 5) sc_is_road_among.nd rfl (.inl rfl)) pgs_nil))))))
    (pss_cons (ps_if (PW.pt (pw_or (pt_not (pt_val (pe_cb (c_is_within (K := K) T) (hr.mono (by decide)) (by rfl) pass0 (pa_cons (pv 2) (pa_cons pe_int (pa_cons (pe_op op_sub (pv 0) pe_int) pa_nil)))))) (pw_or1 (pt_not (pt_val (pe_cb (c_is_within (K := K) T) (hr.mono (by decide)) (by rfl) pass0 (pa_cons (pv 3) (pa_cons pe_int (pa_cons (pe_op op_sub (pv 0) pe_int) pa_nil))))))))) (pss_one (ps_ret pe_bl)) pss_nil)
    (pss_one (ps_ret (pe_and (pe_cmpR (op_neK (K := K) rfl hr.units) (pv 2) (pv 3) (nomark _)) (pe_and (pe_cb (c_is_within (K := K) T) (hr.mono (by decide)) (by rfl) pass0 (pa_cons (pv 4) (pa_cons (pe_glob (v := .int 1) (by rfl) (T.c_LEAST_COST).choose_spec ⟨_, rfl⟩) (pa_cons (pe_glob (v := .int 99) (by rfl) (T.c_MOST_COST).choose_spec ⟨_, rfl⟩) pa_nil)))) (pe_one (pe_cb (c_is_within (K := K) T) (hr.mono (by decide)) (by rfl) pass0 (pa_cons (pv 5) (pa_cons pe_int (pa_cons (pe_glob (v := .int 99) (by rfl) (T.c_MOST_TIME).choose_spec ⟨_, rfl⟩) pa_nil)))))))))))), ?_⟩), D.g, D.F.kp, D.b⟩
  · obtain ⟨_, _, rfl, _⟩ := h
    rfl
  · refine ⟨_, fun τ => inferInstance, fun ss Qd R h => ?_⟩
    obtain ⟨x, p, rfl, q⟩ := h
    refine ⟨x, 4, rfl, ?_⟩
    cases e4 : tupD 4 x with
    | false =>
      have e : roadD p x = false := by
        unfold roadD
        split
        · cases e4
        · rfl
      rw [e] at q
      exact q
    | true =>
      obtain ⟨a, b, c, t, rfl⟩ : ∃ a b c t, x = .tuple [a, b, c, t] := by
        cases x with
        | tuple xs =>
          have hl : (xs.length : Int) = 4 := of_decide_eq_true e4
          match xs, hl with
          | [a, b, c, t], _ => exact ⟨a, b, c, t, rfl⟩
          | [], hl => simp at hl
          | [_], hl => simp at hl
          | [_, _], hl => simp at hl
          | [_, _, _], hl => simp at hl
          | _ :: _ :: _ :: _ :: _ :: _, hl => simp at hl; omega
        | _ => cases e4
      refine ⟨rfl, a, 0, p - 1, rfl, ?_⟩
      have e : roadD p (.tuple [a, b, c, t]) = (withinD 0 (p - 1) a && (withinD 0 (p - 1) b && (neI a b && (withinD 1 99 c && withinD 0 99 t)))) := rfl
      rw [e] at q
      cases ea : withinD 0 (p - 1) a with
      | false =>
        rw [ea] at q
        exact q
      | true =>
        rw [ea] at q
        refine ⟨b, 0, p - 1, rfl, ?_⟩
        cases eb : withinD 0 (p - 1) b with
        | false =>
          rw [eb] at q
          exact q
        | true =>
          rw [eb] at q
          obtain ⟨i, rfl, _, _⟩ := withinD_true ea
          obtain ⟨j, rfl, _, _⟩ := withinD_true eb
          refine ⟨sh_int _, sh_int _, ?_⟩
          rw [eqv_int]
          have en : neI (.int i) (.int j) = !decide (i = j) := rfl
          rw [en] at q
          cases ed : decide (i = j) with
          | true =>
            rw [ed] at q
            exact q
          | false =>
            rw [ed] at q
            refine ⟨c, 1, 99, rfl, ?_⟩
            cases ec : withinD 1 99 c with
            | false =>
              rw [ec] at q
              exact q
            | true =>
              rw [ec] at q
              exact ⟨t, 0, 99, rfl, q⟩
theorem sc_is_net : FnScope ["thing", "places", "roads", "road"] ["thing"] (defScope s_is_net) := ⟨rfl, rfl, rfl, by decide +kernel, rfl, by decide +kernel, by decide +kernel⟩
def sd_is_net : SpD := fun ss Qd _ => ∃ x, ss = [.d x] ∧ (∀ a rs, x = .tuple [a, .tuple rs] → rs.length ≤ 1000) ∧ Qd (.d (.bool (netD x)))
theorem c_is_net (T : Tx P K mg C) : Cb P w K mg base CX0 4 "is_net" ["thing"] (spD K [] sd_is_net) := by
  obtain ⟨f, fd, D⟩ := T.h_is_net
  refine ⟨f, fd, okD (k := 3) D.F sc_is_net (fun ss Qd R h => ?_) (fun cdv A outer s H E hr => ⟨_, (pss_cons (ps_if (pt_not (pt_val (pe_cb (c_is_tuple_of (K := K) T) (hr.mono (by decide)) (by rfl) pass0 (pa_cons (pv 0) (pa_cons pe_int pa_nil))))) (pss_one (ps_ret pe_bl)) pss_nil)
    (pss_cons (ps_asg (pv 0) (pg_tupK (n := 2) (K := K) rfl (by rfl) (pgs_cons (pg_name (i := 1) sc_is_net.nd rfl (.inr rfl)) (pgs_cons (pg_name (i := 2) sc_is_net.nd rfl (.inl rfl)) pgs_nil))))
    (pss_cons (ps_if (pt_not (pt_val (pe_cb (c_is_within (K := K) T) (hr.mono (by decide)) (by rfl) pass0 (pa_cons (pv 1) (pa_cons pe_int (pa_cons (pe_glob (v := .int 10) (by rfl) (T.c_MOST_PLACES).choose_spec ⟨_, rfl⟩) pa_nil)))))) (pss_one (ps_ret pe_bl)) pss_nil)
    (pss_cons (ps_if (PW.pt (pw_or (pt_not (pt_val (pe_callB (call_isiQ (K := K) rfl) (by rfl) T.isinstance (by decide +kernel) (pa_cons (pv 2) (pa_cons (pe_bltn (v := .ty "tuple") (by rfl) T.tuple (by decide +kernel) rfl) pa_nil))))) (pw_or1 (pt_cmpR op_gt (pe_callB (call_lenK (K := K) rfl) (by rfl) T.len PySem.boot_len (pa_cons (pv 2) pa_nil)) (pe_glob (v := .int 30) (by rfl) (T.c_MOST_ROADS).choose_spec ⟨_, rfl⟩) (nomark _))))) (pss_one (ps_ret pe_bl)) pss_nil)
    (pss_one (ps_ret (pe_callB (cr_allK (K := K) rfl rfl) (by rfl) T.all (by decide +kernel) (pa_cons (pe_lc (own := [("road", 3)]) (g := (gName 3)) (tt := tYes) (by rfl) sc_is_net.nd (pi_tupK (K := K) rfl (pv 2))
      (blkOk_by (own := [("road", 3)]) (N := ["thing", "places", "roads", "road"]) (sc := defScope s_is_net) (by decide +kernel)) (fun _ _ _ _ _ => (pg_name (i := 3) sc_is_net.nd rfl (.inl rfl))) (fun _ _ _ _ _ => pts_nil) (fun _ _ _ _ _ => (pe_cb (c_is_road_among (K := K) T) (hr.mono (by decide)) (by rfl) pass0 (pa_cons (pv 1) (pa_cons (pv 3) pa_nil))))) pa_nil)))))))), ?_⟩), D.g, D.F.kp, D.b⟩
  · obtain ⟨_, rfl, _⟩ := h
    rfl
  · refine ⟨_, fun τ => inferInstance, fun ss Qd R h => ?_⟩
    obtain ⟨x, rfl, hl, q⟩ := h
    refine ⟨x, 2, rfl, ?_⟩
    cases e2 : tupD 2 x with
    | false =>
      have e : netD x = false := by
        unfold netD
        split
        · cases e2
        · rfl
      rw [e] at q
      exact q
    | true =>
      obtain ⟨a, r, rfl⟩ : ∃ a r, x = .tuple [a, r] := by
        cases x with
        | tuple xs =>
          have hl : (xs.length : Int) = 2 := of_decide_eq_true e2
          match xs, hl with
          | [a, b], _ => exact ⟨a, b, rfl⟩
          | [], hl => simp at hl
          | [_], hl => simp at hl
          | _ :: _ :: _ :: _, hl => simp at hl; omega
        | _ => cases e2
      refine ⟨rfl, a, 1, 10, rfl, ?_⟩
      cases ea : withinD 1 10 a with
      | false =>
        have e : netD (.tuple [a, r]) = false := by
          unfold netD
          split
          · rename_i p rs h
            cases h
            rw [ea, Bool.false_and]
          · rfl
        rw [e] at q
        exact q
      | true =>
        obtain ⟨p, rfl, _, _⟩ := withinD_true ea
        cases r with
        | tuple rs =>
          have e : netD (.tuple [.int p, .tuple rs]) = (decide (rs.length ≤ 30) && rs.all (roadD p)) := by
            show (withinD 1 10 (.int p) && _) = _
            rw [ea, Bool.true_and]
          rw [e] at q
          refine ⟨.inr (.inr (.inl rfl)), ?_⟩
          show (match decide ((30 : Int) < (rs.length : Int)) with | true => _ | false => _)
          cases e30 : decide ((30 : Int) < (rs.length : Int)) with
          | true =>
            have h30 := of_decide_eq_true e30
            rw [decide_eq_false (show ¬ (rs.length ≤ 30) by omega), Bool.false_and] at q
            exact q
          | false =>
            have h30 := of_decide_eq_false e30
            rw [decide_eq_true (show rs.length ≤ 30 by omega), Bool.true_and] at q
            refine lcD_map (fun d => .bool (roadD p d)) rs [] (fun d _ acc N ha hN => ⟨d, p, rfl, ha, hN⟩) (by rw [List.length_nil]; omega) ?_
            show fBools gAll [.ml (rs.map fun d => .bool (roadD p d))] _
            have eb : (Sl.ml (rs.map fun d => PyData.bool (roadD p d))).seq.bind (oAll dbool) = some (rs.map (roadD p)) := by
              show oAll dbool (rs.map fun d => .bool (roadD p d)) = _
              rw [show (rs.map fun d => PyData.bool (roadD p d)) = (rs.map (roadD p)).map PyData.bool by rw [List.map_map]; rfl]
              exact bools_of _
            unfold fBools
            dsimp only
            rw [eb]
            show Qd (.d (.bool ((rs.map (roadD p)).all id)))
            rw [List.all_map]
            exact q
        | _ => exact ⟨.inr (.inr (.inl rfl)), q⟩
theorem sc_check_net : FnScope ["thing"] ["thing"] (defScope s_check_net) := ⟨rfl, rfl, rfl, by decide +kernel, rfl, by decide +kernel, by decide +kernel⟩
def sd_check_net (C : Nat → Addr) : SpD := fun ss Qd R => ∃ x, ss = [.d x] ∧ (∀ a rs, x = .tuple [a, .tuple rs] → rs.length ≤ 1000) ∧ (netD x = true → Qd (.d .none)) ∧ (netD x = false → R (C 0, []))
theorem c_check_net (T : Tx P K mg C) : Cb P w K mg base (L2.CX P w) 5 "check_net" ["thing"] (spD K [] (sd_check_net C)) := by
  obtain ⟨f, fd, D⟩ := T.h_check_net
  refine ⟨f, fd, okX (k := 4) D.F sc_check_net (fun ss Qd R h => ?_) (fun cdv A outer s H E hr => ⟨_, (pss_one (ps_if (pt_not (pt_val (pe_cb (c_is_net (K := K) T) (hr.mono (by decide)) (by rfl) pass0 (pa_cons (pv 0) pa_nil)))) (pss_one (ps_raiseD rfl (takes_of rfl rfl rfl rfl) (pmk_own PySem.F.excBase_ValueError T.e_NoNet.x T.e_NoNet.g T.e_NoNet.k (raises_own T.e_NoNet.b T.e_NoNet.t) rfl))) pss_nil)), ?_⟩), D.g, D.F.kp, D.b⟩
  · obtain ⟨_, rfl, _⟩ := h
    rfl
  · refine ⟨_, fun τ => inferInstance, fun ss Qd R h => ?_⟩
    obtain ⟨x, rfl, hl, q1, q2⟩ := h
    refine ⟨x, rfl, hl, ?_⟩
    cases e : netD x with
    | true => exact q1 e
    | false => exact q2 e
end
end Wy

set_option synthInstance.maxHeartbeats 2000000
set_option synthInstance.maxSize 100000
namespace Wy
open PySem PySem.Spec PyProof.Rows L2 Dl
local macro_rules | `(tactic| walk_at "dl0") => `(tactic| simp only [startD, iEn, cvs, cv, vS, Sl.dat, Sl.seq, Sl.sq, Sl.fz, dats, dSetI, dAug, wipeD, List.length_cons, List.length_nil, List.length_append, List.length_replicate, Nat.reduceAdd, Nat.reduceSub, Nat.zero_add, List.replicate_succ, List.replicate_zero, List.cons_append, List.nil_append, List.append_nil, List.set_cons_zero, List.set_cons_succ, List.set_nil, List.getElem?_cons_zero, List.getElem?_cons_succ, Option.getD_some, List.map_cons, List.map_nil, Option.bind_some, fI0_c, fI_c, fU_c, fAddX_i, fAddX_t, fAddX_s, fAddX_mm, fAddX_bm, fAddX_mb, fAddX_bb, fAddX_lm, fAddX_ll, fMulX_i, fMulX_m, fSlX_t, fSlX_m, fSlX_b, fSlX_l, fIs_n, fIs_i, fIs_b, fIs_s, fIs_l, fIs_t, fIs_m, fIs_bl, fLen_t, fLen_l, fLen_m, fLen_b, fLen_scr, fIsi_c, fEqD_c, fEqD_mm, fEqD_bm, fEqD_bb, fEqD_dm, fEq_ss, fInt_i, fInt_b, fTuple_m, fTuple_b, fTuple_t, fTuple_l, fList_m, fList_b, fList_t, fList_l, f2I_c, fRepr_c, fRepr_m, fRepr_b, fStr_c, Bool.not_true, Bool.not_false, true_and, netT, Road.dt, reduceIte, Bool.false_eq_true, decide_true, decide_false, tupK, lstK, dNext_c, dBreak_c, dCont_c, dSeq_c, dDrop_c, dRet_c, retK_d, retK_m, retK_r, dRetN_c, dIfS_c, iteS_t, iteS_f, dSet_c, setK_d, setK_m, setK_s, setK_r, dAsg_c, asgK_d, asgK_m, dFz_c, dNever_c, dRaise_c, dC_c, dOp_c, dUn_c, dTst_c, tstK_c, dTru_c, truK_n, truK_b, truK_i, truK_t, truK_l, truK_m, truK_bl, dNot_c, dAnd_c, andK_t, andK_f, dOr_c, orK_t, orK_f, dAndV_c, andV_t, andV_f, dOrV_c, orV_t, orV_f, dNotV_c, dIf_c, iteE_t, iteE_f, dChain_c, chK_t, chK_f, dNil_c, dCons_c, dCB_c, dCall_c, dCall0_c, dTup_c, dLst_c, dFor_c, dLc_c, iTp_c, tpK_c, iLst_c, lsK_d, lsK_m, iSeq_c, sqK_d, sqK_m, sqK_b, dSl_c, dNo_c, dPt_c, ptK_c, dYes_c, dBack_k, backK_c, dTupRg_c, dLstRg_c, dRg1_c, dRg2_c, rg1K_c, rg2K_c, tupRg_c, lstRg_c, dDict0_c, dDict1_c, gdName_c, gdTup_c, gdCons_c, gdNil_c, dApp_c, appK_c, apK_d, apK_m, dVar_c, varK_d, varK_m, varK_b, varK_s, varK_sc, varK_r, dNew_c, varK_mo, varK_bo, setK_mo, retK_mo, dDIn_c, dinK_i, dinK_s, dDGet_c, dDGet1_c, isBo_c, dget1K_i, dDPut_c, dputV_d, dputK_i, val_mo, dOwn0_c, dDispV_c, dispK_i, fRepT_c, fIsB_c, dM0_c, dM1_c, isStr_c, fQ0_c, fQ1_c, fSplit_c, fLenS_c, iEnSD_c, dSetdIf_c, setdB_f, enSK_m, enSK_d, dOrT_c, dAndT_c, orTK_n, dCallK_c, dCallK0_c, dCallD_c, dCallD0_c, dSaid_c, toldK_d, toldK_m, iRg1_c, rgK_c, iRg2_c, rgK2_c, iEnT_c, enK_c, iZp_c, zpK_tt, zpK_mm, zpK_ll, zpK_lm, zpK_ml, dPar_c, parK_im, parK_nm, parK_sm, parK_dd, parK_md])
section
variable {P : Program} {w : World} {K : PySem.W.Frag} {mg : Str → Option Value} {base : Heap} {C : Nat → Addr}
theorem sc_number_of_figures : FnScope ["word", "most"] ["word", "most"] (defScope s_number_of_figures) := ⟨rfl, rfl, rfl, by decide +kernel, rfl, by decide +kernel, by decide +kernel⟩
def sd_number_of_figures : SpD := fun ss Qd _ => ∃ (a : Str) (most : Int), ss = [.d (.str a), .d (.int most)] ∧ most ≤ 600 ∧ a.length ≤ 10000 ∧ Qd (.d (figD most a))
theorem c_number_of_figures (T : Tx P K mg C) : Cb P w K mg base CX0 1 "number_of_figures" ["word", "most"] (spD K [] sd_number_of_figures) := by
  obtain ⟨f, fd, D⟩ := T.h_number_of_figures
  refine ⟨f, fd, okD (k := 0) D.F sc_number_of_figures (fun ss Qd R h => ?_) (fun cdv A outer s H E hr => ⟨_, (pss_cons (ps_if (PW.pt (pw_or (pt_cmpR op_gt (pe_callB call_len_str (by rfl) T.len PySem.boot_len (pa_cons (pv 0) pa_nil)) (pv 1) (nomark _)) (pw_or (pt_not (pt_val (pe_isascii (pv 0)))) (pw_or1 (pt_not (pt_val (pe_isdigit (pv 0)))))))) (pss_one (ps_ret pe_non)) pss_nil)
    (pss_cons (ps_if (PW.pt (pw_and (pt_val (pe_startswith (pv 0) pe_str)) (pw_and1 (pt_cmpR op_ne (pv 0) pe_str (nomark _))))) (pss_one (ps_ret pe_non)) pss_nil)
    (pss_one (ps_ret (pe_callTy call_int_str (by rfl) T.int (by decide +kernel) (pa_cons (pv 0) pa_nil)))))), ?_⟩), D.g, D.F.kp, D.b⟩
  · obtain ⟨_, _, rfl, _⟩ := h
    rfl
  · refine ⟨_, fun τ => inferInstance, fun ss Qd R h => ?_⟩
    obtain ⟨a, most, rfl, hm, hl, q⟩ := h
    unfold figD at q
    try walk_at "dl0"
    refine ⟨Nat.le_of_lt (line_1000 (by omega)), ?_⟩
    cases e1 : decide (most < (a.length : Int)) with
    | true =>
      rw [e1] at q
      try walk_at "dl0"
      exact q
    | false =>
      have el := of_decide_eq_false e1
      rw [e1] at q
      try walk_at "dl0"
      cases e2 : Txt.isascii a with
      | false =>
        rw [e2] at q
        try walk_at "dl0"
        exact q
      | true =>
        rw [e2] at q
        try walk_at "dl0"
        cases e3 : Txt.isdigit a with
        | false =>
          rw [e3] at q
          try walk_at "dl0"
          exact q
        | true =>
          rw [e3] at q
          obtain ⟨n, en⟩ := fig_int e2 e3 (by omega)
          rw [en] at q
          try walk_at "dl0"
          cases e4 : Txt.startswith a "0" with
          | false =>
            rw [e4] at q
            try walk_at "dl0"
            exact fIntS_i en (by omega) q
          | true =>
            rw [e4] at q
            try walk_at "dl0"
            cases e5 : (a == ("0" : Str)) with
            | true =>
              rw [e5] at q
              have e6 : a = "0" := eq_of_beq e5
              subst e6
              try walk_at "dl0"
              exact fIntS_i en (by omega) q
            | false =>
              rw [e5] at q
              have e6 : ¬ a = "0" := fun z => by
                rw [z] at e5
                exact absurd e5 (by decide +kernel)
              rw [decide_eq_false (show ¬ V.str a = V.str "0" from fun z => e6 (V.str.inj z))]
              try walk_at "dl0"
              exact q
theorem sc_parts_of_line : FnScope ["line", "word"] ["line"] (defScope s_parts_of_line) := ⟨rfl, rfl, rfl, by decide +kernel, rfl, by decide +kernel, by decide +kernel⟩
def sd_parts_of_line : SpD := fun ss Qd _ => ∃ a : Str, ss = [.d (.str a)] ∧ a.length ≤ 10000 ∧ (∀ w ∈ Txt.split a " ", w.length ≤ 10000) ∧ (Txt.split a " ").length ≤ 10000 ∧ Qd (.d (.tuple ((Txt.split a " ").map (figD 2))))
theorem c_parts_of_line (T : Tx P K mg C) : Cb P w K mg base CX0 2 "parts_of_line" ["line"] (spD K [] sd_parts_of_line) := by
  obtain ⟨f, fd, D⟩ := T.h_parts_of_line
  refine ⟨f, fd, okD (k := 1) D.F sc_parts_of_line (fun ss Qd R h => ?_) (fun cdv A outer s H E hr => ⟨_, (pss_one (ps_ret (pe_callTy (call_tupleK (K := K) rfl) (by rfl) T.tuple (by decide +kernel) (pa_cons (pe_lc (own := [("word", 1)]) (g := (gName 1)) (tt := tYes) (by rfl) sc_parts_of_line.nd (pi_listK (K := K) rfl (pe_splitK (pv 0) pe_str))
      (blkOk_by (own := [("word", 1)]) (N := ["line", "word"]) (sc := defScope s_parts_of_line) (by decide +kernel)) (fun _ _ _ _ _ => (pg_name (i := 1) sc_parts_of_line.nd rfl (.inl rfl))) (fun _ _ _ _ _ => pts_nil) (fun _ _ _ _ _ => (pe_cb (c_number_of_figures (K := K) T) (hr.mono (by decide)) (by rfl) pass0 (pa_cons (pv 1) (pa_cons (pe_glob (v := .int 2) (by rfl) (T.c_MOST_FIGURES).choose_spec ⟨_, rfl⟩) pa_nil))))) pa_nil)))), ?_⟩), D.g, D.F.kp, D.b⟩
  · obtain ⟨_, rfl, _⟩ := h
    rfl
  · refine ⟨_, fun τ => inferInstance, fun ss Qd R h => ?_⟩
    obtain ⟨a, rfl, hl, hw, hn, q⟩ := h
    try walk_at "dl0"
    refine ⟨by decide +kernel, Nat.le_of_lt (line_1000 (by omega)), ?_⟩
    refine lcD_each PyData.str (figD 2) (Txt.split a " ") (fun w hm acc N ha hN => ?_) (by omega) ?_
    · unfold lcStep
      try walk_at "dl0"
      exact ⟨w, 2, rfl, by decide, hw w hm, ha, hN⟩
    try walk_at "dl0"
    exact q
end
end Wy

set_option synthInstance.maxHeartbeats 2000000
set_option synthInstance.maxSize 100000
namespace Wy
open PySem PySem.Spec PyProof.Rows L2 Dl
local macro_rules | `(tactic| walk_at "dl0") => `(tactic| simp only [startD, iEn, cvs, cv, vS, Sl.dat, Sl.seq, Sl.sq, Sl.fz, dats, dSetI, dAug, wipeD, List.length_cons, List.length_nil, List.length_append, List.length_replicate, Nat.reduceAdd, Nat.reduceSub, Nat.zero_add, List.replicate_succ, List.replicate_zero, List.cons_append, List.nil_append, List.append_nil, List.set_cons_zero, List.set_cons_succ, List.set_nil, List.getElem?_cons_zero, List.getElem?_cons_succ, Option.getD_some, List.map_cons, List.map_nil, Option.bind_some, fI0_c, fI_c, fU_c, fAddX_i, fAddX_t, fAddX_s, fAddX_mm, fAddX_bm, fAddX_mb, fAddX_bb, fAddX_lm, fAddX_ll, fMulX_i, fMulX_m, fSlX_t, fSlX_m, fSlX_b, fSlX_l, fIs_n, fIs_i, fIs_b, fIs_s, fIs_l, fIs_t, fIs_m, fIs_bl, fLen_t, fLen_l, fLen_m, fLen_b, fLen_scr, fIsi_c, fEqD_c, fEqD_mm, fEqD_bm, fEqD_bb, fEqD_dm, fEq_ss, fInt_i, fInt_b, fTuple_m, fTuple_b, fTuple_t, fTuple_l, fList_m, fList_b, fList_t, fList_l, f2I_c, fRepr_c, fRepr_m, fRepr_b, fStr_c, Bool.not_true, Bool.not_false, true_and, netT, Road.dt, reduceIte, Bool.false_eq_true, decide_true, decide_false, tupK, lstK, dNext_c, dBreak_c, dCont_c, dSeq_c, dDrop_c, dRet_c, retK_d, retK_m, retK_r, dRetN_c, dIfS_c, iteS_t, iteS_f, dSet_c, setK_d, setK_m, setK_s, setK_r, dAsg_c, asgK_d, asgK_m, dFz_c, dNever_c, dRaise_c, dC_c, dOp_c, dUn_c, dTst_c, tstK_c, dTru_c, truK_n, truK_b, truK_i, truK_t, truK_l, truK_m, truK_bl, dNot_c, dAnd_c, andK_t, andK_f, dOr_c, orK_t, orK_f, dAndV_c, andV_t, andV_f, dOrV_c, orV_t, orV_f, dNotV_c, dIf_c, iteE_t, iteE_f, dChain_c, chK_t, chK_f, dNil_c, dCons_c, dCB_c, dCall_c, dCall0_c, dTup_c, dLst_c, dFor_c, dLc_c, iTp_c, tpK_c, iLst_c, lsK_d, lsK_m, iSeq_c, sqK_d, sqK_m, sqK_b, dSl_c, dNo_c, dPt_c, ptK_c, dYes_c, dBack_k, backK_c, dTupRg_c, dLstRg_c, dRg1_c, dRg2_c, rg1K_c, rg2K_c, tupRg_c, lstRg_c, dDict0_c, dDict1_c, gdName_c, gdTup_c, gdCons_c, gdNil_c, dApp_c, appK_c, apK_d, apK_m, dVar_c, varK_d, varK_m, varK_b, varK_s, varK_sc, varK_r, dNew_c, varK_mo, varK_bo, setK_mo, retK_mo, dDIn_c, dinK_i, dinK_s, dDGet_c, dDGet1_c, isBo_c, dget1K_i, dDPut_c, dputV_d, dputK_i, val_mo, dOwn0_c, dDispV_c, dispK_i, fRepT_c, fIsB_c, dM0_c, dM1_c, isStr_c, fQ0_c, fQ1_c, fSplit_c, fLenS_c, iEnSD_c, dSetdIf_c, setdB_f, enSK_m, enSK_d, dOrT_c, dAndT_c, orTK_n, dCallK_c, dCallK0_c, dCallD_c, dCallD0_c, dSaid_c, toldK_d, toldK_m, iRg1_c, rgK_c, iRg2_c, rgK2_c, iEnT_c, enK_c, iZp_c, zpK_tt, zpK_mm, zpK_ll, zpK_lm, zpK_ml, dPar_c, parK_im, parK_nm, parK_sm, parK_dd, parK_md])
section
variable {P : Program} {w : World} {K : PySem.W.Frag} {mg : Str → Option Value} {base : Heap} {C : Nat → Addr}
theorem sig_in (c : Nat) : decide (c ∈ ("0123456789" : Str).cps.toList) = (decide (48 ≤ c) && decide (c ≤ 57)) := by
  have e : ("0123456789" : Str).cps.toList = [48, 49, 50, 51, 52, 53, 54, 55, 56, 57] := by decide +kernel
  rw [e]
  by_cases h : 48 ≤ c ∧ c ≤ 57
  · rw [decide_eq_true h.1, decide_eq_true h.2, Bool.and_true]
    refine decide_eq_true ?_
    simp only [List.mem_cons, List.not_mem_nil, or_false]
    omega
  · rw [decide_eq_false (show ¬ c ∈ [48, 49, 50, 51, 52, 53, 54, 55, 56, 57] from fun z => h (by
      simp only [List.mem_cons, List.not_mem_nil, or_false] at z
      omega))]
    by_cases h1 : 48 ≤ c
    · rw [decide_eq_false (show ¬ c ≤ 57 from fun z => h ⟨h1, z⟩), Bool.and_false]
    · rw [decide_eq_false h1, Bool.false_and]
theorem none_sig (cs : List Nat) : ((cs.filter fun c => !(decide (48 ≤ c) && decide (c ≤ 57))).map sigD).isEmpty = cs.all fun c => decide (48 ≤ c) && decide (c ≤ 57) := by
  induction cs with
  | nil => rfl
  | cons x r ih =>
    rw [List.filter_cons, List.all_cons]
    cases decide (48 ≤ x) && decide (x ≤ 57) with
    | true => exact ih
    | false => rfl
theorem lay_sigs (cs : List Nat) (h : ∀ c ∈ cs, c < 1114112) : Lay (.list (cs.map sigD)) 1 := lay_lst (n := 0) fun d hd => by
  obtain ⟨c, hc, rfl⟩ := List.mem_map.mp hd
  refine lay_str ?_ 0
  unfold PyData.strOk
  have := h c hc
  simp [this]
theorem str_none {a : Str} (h : a.length = 0) : a = ("" : Str) := by
  obtain ⟨cps⟩ := a
  have : cps.size = 0 := h
  rw [Array.eq_empty_of_size_eq_zero this]
  rfl
theorem sc__law_figures : FnScope ["_law_word_here", "_law_sign"] ["_law_word_here"] (defScope s__law_figures) := ⟨rfl, rfl, rfl, by decide +kernel, rfl, by decide +kernel, by decide +kernel⟩
def sd__law_figures : SpD := fun ss Qd _ => ∃ a : Str, ss = [.d (.str a)] ∧ a.length ≤ 10000 ∧ (∀ c ∈ a.cps.toList, c < 128) ∧ Qd (.d (figL a))
theorem c__law_figures (T : Tx P K mg C) : Cb P w K mg base CX0 1 "_law_figures" ["_law_word_here"] (spD K [] sd__law_figures) := by
  obtain ⟨f, fd, D⟩ := T.h__law_figures
  refine ⟨f, fd, okD (k := 0) D.F sc__law_figures (fun ss Qd R h => ?_) (fun cdv A outer s H E hr => ⟨_, (pss_cons (ps_if (PW.pt (pw_or (pt_cmpR op_eq (pv 0) pe_str (nomark _)) (pw_or (pt_cmpR (op_neK (K := K) rfl hr.units) (pe_lc (own := [("_law_sign", 1)]) (g := (gName 1)) (by rfl) sc__law_figures.nd (pi_str (pv 0))
      (blkOk_by (own := [("_law_sign", 1)]) (N := ["_law_word_here", "_law_sign"]) (sc := defScope s__law_figures) (by decide +kernel)) (fun _ _ _ _ _ => (pg_name (i := 1) sc__law_figures.nd rfl (.inl rfl))) (fun _ _ _ _ _ => (pts_one (pt_cmpR op_notSign (pv 1) pe_str (by rfl)))) (fun _ _ _ _ _ => (pv 1))) (pe_lst pa_nil) (nomark _)) (pw_or1 (pt_cmpR op_gt (pe_callB call_len_str (by rfl) T.len PySem.boot_len (pa_cons (pv 0) pa_nil)) pe_int (nomark _)))))) (pss_one (ps_ret pe_non)) pss_nil)
    (pss_one (ps_ret (pe_ifExp (PW.pt (pw_or (pt_cmpR op_eq (pv 0) pe_str (nomark _)) (pw_or1 (pt_cmpR op_ne (pe_ix ix_str (pv 0) pe_int (fun _ _ => rfl)) pe_str (nomark _))))) (pe_callTy call_int_str (by rfl) T.int (by decide +kernel) (pa_cons (pv 0) pa_nil)) pe_non)))), ?_⟩), D.g, D.F.kp, D.b⟩
  · obtain ⟨_, rfl, _⟩ := h
    rfl
  · refine ⟨_, fun τ => inferInstance, fun ss Qd R h => ?_⟩
    obtain ⟨a, rfl, hl, ha, q⟩ := h
    try walk_at "dl0"
    by_cases z : a.length = 0
    · have e := str_none z
      subst e
      rw [decide_eq_true (show V.str "" = V.str (Str.ofString "") from rfl)]
      try walk_at "dl0"
      exact q
    rw [decide_eq_false (show ¬ V.str a = V.str (Str.ofString "") from fun e => z (by rw [V.str.inj e]; rfl))]
    unfold figL at q
    rw [decide_eq_false z, Bool.false_or] at q
    try walk_at "dl0"
    refine lcD_those sigD sigD (fun c => !(decide (48 ≤ c) && decide (c ≤ 57))) a.cps.toList (fun c hc acc N ha hT hF => ?_) (by rw [Dl.len_list]; omega) ?_
    · unfold lcStep
      try walk_at "dl0"
      refine ⟨c, rfl, ?_⟩
      rw [sig_in]
      cases e : decide (48 ≤ c) && decide (c ≤ 57) with
      | true =>
        rw [e] at hF
        try walk_at "dl0"
        exact hF rfl
      | false =>
        rw [e] at hT
        try walk_at "dl0"
        exact ⟨ha, hT rfl⟩
    try walk_at "dl0"
    try simp only [show ((0 : Nat) ≤ sizeLine) = True from eq_true (by decide), show ((1 : Nat) ≤ sizeLine) = True from eq_true (by decide), show ((2 : Nat) ≤ sizeLine) = True from eq_true (by decide), show ((3 : Nat) ≤ sizeLine) = True from eq_true (by decide), show ((4 : Nat) ≤ sizeLine) = True from eq_true (by decide), show ((5 : Nat) ≤ sizeLine) = True from eq_true (by decide), show ((6 : Nat) ≤ sizeLine) = True from eq_true (by decide), show ((7 : Nat) ≤ sizeLine) = True from eq_true (by decide), show ((8 : Nat) ≤ sizeLine) = True from eq_true (by decide), show ((9 : Nat) ≤ sizeLine) = True from eq_true (by decide), show ((10 : Nat) ≤ sizeLine) = True from eq_true (by decide), show ((11 : Nat) ≤ sizeLine) = True from eq_true (by decide), show ((12 : Nat) ≤ sizeLine) = True from eq_true (by decide), show ((13 : Nat) ≤ sizeLine) = True from eq_true (by decide), show ((14 : Nat) ≤ sizeLine) = True from eq_true (by decide), show ((15 : Nat) ≤ sizeLine) = True from eq_true (by decide), show ((16 : Nat) ≤ sizeLine) = True from eq_true (by decide), show ((17 : Nat) ≤ sizeLine) = True from eq_true (by decide), show ((18 : Nat) ≤ sizeLine) = True from eq_true (by decide), show ((19 : Nat) ≤ sizeLine) = True from eq_true (by decide), show ((20 : Nat) ≤ sizeLine) = True from eq_true (by decide), show ((21 : Nat) ≤ sizeLine) = True from eq_true (by decide), show ((22 : Nat) ≤ sizeLine) = True from eq_true (by decide), show ((23 : Nat) ≤ sizeLine) = True from eq_true (by decide), show ((24 : Nat) ≤ sizeLine) = True from eq_true (by decide), show ((25 : Nat) ≤ sizeLine) = True from eq_true (by decide), show ((26 : Nat) ≤ sizeLine) = True from eq_true (by decide), show ((27 : Nat) ≤ sizeLine) = True from eq_true (by decide), show ((28 : Nat) ≤ sizeLine) = True from eq_true (by decide), show ((29 : Nat) ≤ sizeLine) = True from eq_true (by decide), show ((30 : Nat) ≤ sizeLine) = True from eq_true (by decide), show ((31 : Nat) ≤ sizeLine) = True from eq_true (by decide), show ((32 : Nat) ≤ sizeLine) = True from eq_true (by decide), show ((33 : Nat) ≤ sizeLine) = True from eq_true (by decide), show ((34 : Nat) ≤ sizeLine) = True from eq_true (by decide), show ((35 : Nat) ≤ sizeLine) = True from eq_true (by decide), show ((36 : Nat) ≤ sizeLine) = True from eq_true (by decide), show ((37 : Nat) ≤ sizeLine) = True from eq_true (by decide), show ((38 : Nat) ≤ sizeLine) = True from eq_true (by decide), show ((39 : Nat) ≤ sizeLine) = True from eq_true (by decide), show ((40 : Nat) ≤ sizeLine) = True from eq_true (by decide), true_and]
    refine ⟨(lay_sigs _ fun c hc => by have := ha c (List.mem_filter.mp hc).1; omega).sh (by decide), by decide +kernel, ?_⟩
    rw [eqv_nil]
    rw [none_sig]
    have eb : (a.cps.toList.all fun c => decide (48 ≤ c) && decide (c ≤ 57)) = digsB a := rfl
    rw [eb]
    cases hd : digsB a with
    | false =>
      rw [hd] at q
      try walk_at "dl0"
      exact q
    | true =>
      rw [hd] at q
      try walk_at "dl0"
      refine ⟨Nat.le_of_lt (line_1000 (by omega)), ?_⟩
      by_cases h30 : 30 < a.length
      · rw [decide_eq_true (show (30 : Int) < (a.length : Int) by omega)]
        rw [decide_eq_true h30] at q
        try walk_at "dl0"
        exact q
      · rw [decide_eq_false (show ¬ (30 : Int) < (a.length : Int) by omega)]
        rw [decide_eq_false h30] at q
        try walk_at "dl0"
        have ne : a.cps.toList ≠ [] := fun e => z (by rw [← Dl.len_list, e]; rfl)
        have en := intText_digits (digs_all hd) ne (by omega)
        rw [en] at q
        match ea : a.cps.toList, ne with
        | c :: r, _ =>
          rw [starts0 ea] at q
          by_cases e5 : a = ("0" : Str)
          · rw [decide_eq_true (show V.str a = V.str (Str.ofString "0") from congrArg V.str e5)]
            rw [show (a == ("0" : Str)) = true from by rw [e5]; rfl, Bool.not_true, Bool.and_false] at q
            try walk_at "dl0"
            exact fIntS_i en (by omega) q
          · rw [decide_eq_false (show ¬ V.str a = V.str (Str.ofString "0") from fun e => e5 (V.str.inj e))]
            rw [show (a == ("0" : Str)) = false from beq_eq_false_iff_ne.mpr e5, Bool.not_false, Bool.and_true] at q
            try walk_at "dl0"
            refine ⟨Nat.le_of_lt (line_1000 (by omega)), c, by rw [ea]; exact L2.atI_nat (j := 0) (xs := c :: r) (v := c) rfl, ?_⟩
            rw [show sigD c = PyData.str ⟨#[c]⟩ from rfl]
            try walk_at "dl0"
            by_cases e6 : c = 48
            · subst e6
              rw [show decide (V.str ⟨#[48]⟩ = V.str (Str.ofString "0")) = true from by decide +kernel]
              try walk_at "dl0"
              exact q
            · rw [decide_eq_false (show ¬ V.str ⟨#[c]⟩ = V.str (Str.ofString "0") from fun e => e6 (by
                have e : (⟨#[c]⟩ : Str) = ("0" : Str) := V.str.inj e
                have e2 := congrArg (fun x : Str => x.cps.toList) e
                have e3 : [c] = [48] := e2
                simpa using e3))]
              rw [decide_eq_false e6] at q
              try walk_at "dl0"
              exact fIntS_i en (by omega) q
end
end Wy

set_option synthInstance.maxHeartbeats 2000000
set_option synthInstance.maxSize 100000
namespace Wy
open PySem PySem.Spec PyProof.Rows L2 Dl
local macro_rules | `(tactic| walk_at "dl0") => `(tactic| simp only [startD, iEn, cvs, cv, vS, Sl.dat, Sl.seq, Sl.sq, Sl.fz, dats, dSetI, dAug, wipeD, List.length_cons, List.length_nil, List.length_append, List.length_replicate, Nat.reduceAdd, Nat.reduceSub, Nat.zero_add, List.replicate_succ, List.replicate_zero, List.cons_append, List.nil_append, List.append_nil, List.set_cons_zero, List.set_cons_succ, List.set_nil, List.getElem?_cons_zero, List.getElem?_cons_succ, Option.getD_some, List.map_cons, List.map_nil, Option.bind_some, fI0_c, fI_c, fU_c, fAddX_i, fAddX_t, fAddX_s, fAddX_mm, fAddX_bm, fAddX_mb, fAddX_bb, fAddX_lm, fAddX_ll, fMulX_i, fMulX_m, fSlX_t, fSlX_m, fSlX_b, fSlX_l, fIs_n, fIs_i, fIs_b, fIs_s, fIs_l, fIs_t, fIs_m, fIs_bl, fLen_t, fLen_l, fLen_m, fLen_b, fLen_scr, fIsi_c, fEqD_c, fEqD_mm, fEqD_bm, fEqD_bb, fEqD_dm, fEq_ss, fInt_i, fInt_b, fTuple_m, fTuple_b, fTuple_t, fTuple_l, fList_m, fList_b, fList_t, fList_l, f2I_c, fRepr_c, fRepr_m, fRepr_b, fStr_c, Bool.not_true, Bool.not_false, true_and, netT, Road.dt, reduceIte, Bool.false_eq_true, decide_true, decide_false, tupK, lstK, dNext_c, dBreak_c, dCont_c, dSeq_c, dDrop_c, dRet_c, retK_d, retK_m, retK_r, dRetN_c, dIfS_c, iteS_t, iteS_f, dSet_c, setK_d, setK_m, setK_s, setK_r, dAsg_c, asgK_d, asgK_m, dFz_c, dNever_c, dRaise_c, dC_c, dOp_c, dUn_c, dTst_c, tstK_c, dTru_c, truK_n, truK_b, truK_i, truK_t, truK_l, truK_m, truK_bl, dNot_c, dAnd_c, andK_t, andK_f, dOr_c, orK_t, orK_f, dAndV_c, andV_t, andV_f, dOrV_c, orV_t, orV_f, dNotV_c, dIf_c, iteE_t, iteE_f, dChain_c, chK_t, chK_f, dNil_c, dCons_c, dCB_c, dCall_c, dCall0_c, dTup_c, dLst_c, dFor_c, dLc_c, iTp_c, tpK_c, iLst_c, lsK_d, lsK_m, iSeq_c, sqK_d, sqK_m, sqK_b, dSl_c, dNo_c, dPt_c, ptK_c, dYes_c, dBack_k, backK_c, dTupRg_c, dLstRg_c, dRg1_c, dRg2_c, rg1K_c, rg2K_c, tupRg_c, lstRg_c, dDict0_c, dDict1_c, gdName_c, gdTup_c, gdCons_c, gdNil_c, dApp_c, appK_c, apK_d, apK_m, dVar_c, varK_d, varK_m, varK_b, varK_s, varK_sc, varK_r, dNew_c, varK_mo, varK_bo, setK_mo, retK_mo, dDIn_c, dinK_i, dinK_s, dDGet_c, dDGet1_c, isBo_c, dget1K_i, dDPut_c, dputV_d, dputK_i, val_mo, dOwn0_c, dDispV_c, dispK_i, fRepT_c, fIsB_c, dM0_c, dM1_c, isStr_c, fQ0_c, fQ1_c, fSplit_c, fLenS_c, iEnSD_c, dSetdIf_c, setdB_f, enSK_m, enSK_d, dOrT_c, dAndT_c, orTK_n, dCallK_c, dCallK0_c, dCallD_c, dCallD0_c, dSaid_c, toldK_d, toldK_m, iRg1_c, rgK_c, iRg2_c, rgK2_c, iEnT_c, enK_c, iZp_c, zpK_tt, zpK_mm, zpK_ll, zpK_lm, zpK_ml, dPar_c, parK_im, parK_nm, parK_sm, parK_dd, parK_md])
section
variable {P : Program} {w : World} {K : PySem.W.Frag} {mg : Str → Option Value} {base : Heap} {C : Nat → Addr}
theorem fig_within {a : Str} {lo hi : Int} (h : hi ≤ 99) : withinD lo hi (figD 2 a) = withinD lo hi (figL a) := by
  by_cases z : a.length ≤ 2
  · rw [figD_L z]
  · rw [figD_big (by omega)]
    rcases figL_nn a with e | ⟨n, e, _, hb⟩
    · rw [e]
    · rw [e]
      have := hb (by omega)
      show false = (decide (lo ≤ n) && decide (n ≤ hi))
      rw [decide_eq_false (show ¬ n ≤ hi by omega), Bool.and_false]
/-- the road that a line writes -/
def roadL (p : Int) (ws : List Str) : PyData := if roadD p (.tuple (ws.map (figD 2))) then .tuple (ws.map (figD 2)) else .none
theorem fig_same {a : Str} {lo hi : Int} (h : hi ≤ 99) (w : withinD lo hi (figL a) = true) : figD 2 a = figL a := by
  by_cases z : a.length ≤ 2
  · exact figD_L z
  · obtain ⟨n, e, _, n2⟩ := withinD_true w
    rcases figL_nn a with e' | ⟨m, e', _, hb⟩
    · rw [e'] at e
      cases e
    · rw [e'] at e
      cases e
      have := hb (by omega)
      omega
theorem roadL_4 {p : Int} (hp : p ≤ 10) (w0 w1 w2 w3 : Str) : roadL p [w0, w1, w2, w3] = if roadD p (.tuple [figL w0, figL w1, figL w2, figL w3]) then .tuple [figL w0, figL w1, figL w2, figL w3] else .none := by
  have key : roadD p (.tuple [figD 2 w0, figD 2 w1, figD 2 w2, figD 2 w3]) = roadD p (.tuple [figL w0, figL w1, figL w2, figL w3]) ∧ (roadD p (.tuple [figL w0, figL w1, figL w2, figL w3]) = true → figD 2 w0 = figL w0 ∧ figD 2 w1 = figL w1 ∧ figD 2 w2 = figL w2 ∧ figD 2 w3 = figL w3) := by
    show (withinD 0 (p - 1) (figD 2 w0) && (withinD 0 (p - 1) (figD 2 w1) && (neI (figD 2 w0) (figD 2 w1) && (withinD 1 99 (figD 2 w2) && withinD 0 99 (figD 2 w3))))) = (withinD 0 (p - 1) (figL w0) && (withinD 0 (p - 1) (figL w1) && (neI (figL w0) (figL w1) && (withinD 1 99 (figL w2) && withinD 0 99 (figL w3))))) ∧ ((withinD 0 (p - 1) (figL w0) && (withinD 0 (p - 1) (figL w1) && (neI (figL w0) (figL w1) && (withinD 1 99 (figL w2) && withinD 0 99 (figL w3))))) = true → _)
    rw [fig_within (a := w0) (show p - 1 ≤ 99 by omega), fig_within (a := w1) (show p - 1 ≤ 99 by omega), fig_within (a := w2) (Int.le_refl 99), fig_within (a := w3) (Int.le_refl 99)]
    cases e0 : withinD 0 (p - 1) (figL w0) with
    | false => exact ⟨rfl, fun z => by cases z⟩
    | true =>
      rw [fig_same (by omega) e0]
      cases e1 : withinD 0 (p - 1) (figL w1) with
      | false => exact ⟨rfl, fun z => by cases z⟩
      | true =>
        rw [fig_same (by omega) e1]
        refine ⟨rfl, fun z => ?_⟩
        simp only [Bool.true_and, Bool.and_eq_true] at z
        exact ⟨rfl, rfl, fig_same (Int.le_refl 99) z.2.1, fig_same (Int.le_refl 99) z.2.2⟩
  unfold roadL
  show (if roadD p (.tuple [figD 2 w0, figD 2 w1, figD 2 w2, figD 2 w3]) = true then PyData.tuple [figD 2 w0, figD 2 w1, figD 2 w2, figD 2 w3] else .none) = _
  rw [key.1]
  cases e : roadD p (.tuple [figL w0, figL w1, figL w2, figL w3]) with
  | false => rfl
  | true =>
    obtain ⟨a, b, c, d⟩ := key.2 e
    rw [a, b, c, d]
theorem fIxB_at {xs : List PyData} {n : Nat} {d : PyData} {Qd : Sl → Prop} (e : xs[n]? = some d) (h : Qd (.d d)) : fIx (.bl xs) (.d (.int (n : Int))) Qd := fIxL_at (s := .bl xs) rfl e h
theorem fIn_no4 {a0 a1 a2 a3 : Int} {Qd : Sl → Prop} (h : Qd (.d (.bool false))) : fIn false (.d .none) (.bl [.int a0, .int a1, .int a2, .int a3]) Qd := h
theorem max2 {a b : Int} {Qd : Sl → Prop} (h : Qd (.d (.int (if a < b then b else a)))) : fInts gMax [.ml [.int a, .int b]] Qd := by
  refine ⟨by show 0 < 2; decide, fun m hm hy => ?_⟩
  have e : m = if a < b then b else a := by
    have h1 := hy a (by simp)
    have h2 := hy b (by simp)
    simp only [List.mem_cons, List.not_mem_nil, or_false] at hm
    split <;> omega
  rw [e]
  exact h
theorem sc__law_road_in : FnScope ["_law_line", "_law_spots", "_law_parts", "_law_word_here"] ["_law_line", "_law_spots"] (defScope s__law_road_in) := ⟨rfl, rfl, rfl, by decide +kernel, rfl, by decide +kernel, by decide +kernel⟩
def sd__law_road_in : SpD := fun ss Qd _ => ∃ (a : Str) (p : Int), ss = [.d (.str a), .d (.int p)] ∧ a.length ≤ 10000 ∧ (∀ w ∈ Txt.split a " ", w.length ≤ 10000 ∧ ∀ c ∈ w.cps.toList, c < 128) ∧ (Txt.split a " ").length ≤ 10000 ∧ 1 ≤ p ∧ p ≤ 10 ∧ Qd (.d (roadL p (Txt.split a " ")))
theorem c__law_road_in (T : Tx P K mg C) : Cb P w K mg base CX0 2 "_law_road_in" ["_law_line", "_law_spots"] (spD K [] sd__law_road_in) := by
  obtain ⟨f, fd, D⟩ := T.h__law_road_in
  refine ⟨f, fd, okD (k := 1) D.F sc__law_road_in (fun ss Qd R h => ?_) (fun cdv A outer s H E hr => ⟨_, (pss_cons (ps_setLc (i := 2) (own := [("_law_word_here", 3)]) (g := (gName 3)) (tt := tYes) (by rfl) sc__law_road_in.nd rfl rfl (sw_true rfl rfl rfl (by decide +kernel)) (pi_listK (K := K) rfl (pe_splitK (pv 0) pe_str))
      (blkOk_by (own := [("_law_word_here", 3)]) (N := ["_law_line", "_law_spots", "_law_parts", "_law_word_here"]) (sc := defScope s__law_road_in) (by decide +kernel)) (fun _ _ _ _ _ => (pg_name (i := 3) sc__law_road_in.nd rfl (.inl rfl))) (fun _ _ _ _ _ => pts_nil) (fun _ _ _ _ _ => (pe_cb (c__law_figures (K := K) T) (hr.mono (by decide)) (by rfl) pass0 (pa_cons (pv 3) pa_nil))))
    (pss_cons (ps_if (PW.pt (pw_or (pt_cmpR (op_neK (K := K) rfl hr.units) (pe_callB (call_lenK (K := K) rfl) (by rfl) T.len PySem.boot_len (pa_cons (pv 2) pa_nil)) pe_int (nomark _)) (pw_or (pt_cmpR (op_inK (K := K) rfl) pe_non (pv 2) (by rfl)) (pw_or (pt_cmpR (op_eqK (K := K) rfl hr.units) (pe_ix (ix_seqK (K := K) rfl) (pv 2) pe_int (fun _ _ => rfl)) (pe_ix (ix_seqK (K := K) rfl) (pv 2) pe_int (fun _ _ => rfl)) (nomark _)) (pw_or1 (pt_cmpR op_ge (pe_callB (cr_maxK (K := K) rfl rfl) (by rfl) T.max (by decide +kernel) (pa_cons (pe_slice (sl_anyK (K := K) rfl) (pv 2) po_none (po_some pe_int)) pa_nil)) (pv 1) (nomark _))))))) (pss_one (ps_ret pe_non)) pss_nil)
    (pss_one (ps_ret (pe_ifExp (PW.pt (pw_and (pt_chain op_le op_le pe_int (pe_ix (ix_seqK (K := K) rfl) (pv 2) pe_int (fun _ _ => rfl)) pe_int) (pw_and1 (pt_cmpR op_le (pe_ix (ix_seqK (K := K) rfl) (pv 2) pe_int (fun _ _ => rfl)) pe_int (nomark _))))) (pe_callTy (call_tupleK (K := K) rfl) (by rfl) T.tuple (by decide +kernel) (pa_cons (pv 2) pa_nil)) pe_non))))), ?_⟩), D.g, D.F.kp, D.b⟩
  · obtain ⟨_, _, rfl, _⟩ := h
    rfl
  · refine ⟨_, fun τ => inferInstance, fun ss Qd R h => ?_⟩
    obtain ⟨a, p, rfl, hl, h1, h2, p1, p2, q⟩ := h
    try walk_at "dl0"
    refine ⟨by decide +kernel, Nat.le_of_lt (line_1000 (by omega)), ?_⟩
    refine lcD_each PyData.str figL (Txt.split a " ") (fun w hw acc N ha hN => ?_) (by omega) ?_
    · unfold lcStep
      try walk_at "dl0"
      exact ⟨w, rfl, (h1 w hw).1, (h1 w hw).2, ha, hN⟩
    generalize Txt.split a " " = ws at h1 h2 q ⊢
    refine ⟨sh_int _, sh_int _, ?_⟩
    rw [eqv_int, List.length_map]
    by_cases e4 : ws.length = 4
    · match ws, e4, q with
      | [w0, w1, w2, w3], _, q =>
        rw [roadL_4 p2] at q
        rw [decide_eq_true (show (([w0, w1, w2, w3].length : Nat) : Int) = 4 from rfl)]
        try walk_at "dl0"
        have n0 := figL_nn w0
        have n1 := figL_nn w1
        have n2 := figL_nn w2
        have n3 := figL_nn w3
        generalize figL w0 = f0 at n0 q ⊢
        generalize figL w1 = f1 at n1 q ⊢
        generalize figL w2 = f2 at n2 q ⊢
        generalize figL w3 = f3 at n3 q ⊢
        rcases n0 with rfl | ⟨a0, rfl, z0, _⟩
        · rw [show roadD p (.tuple [.none, f1, f2, f3]) = false from rfl] at q
          rcases n1 with rfl | ⟨a1, rfl, z1, _⟩ <;> rcases n2 with rfl | ⟨a2, rfl, z2, _⟩ <;> rcases n3 with rfl | ⟨a3, rfl, z3, _⟩ <;> exact q
        rcases n1 with rfl | ⟨a1, rfl, z1, _⟩
        · rw [show roadD p (.tuple [.int a0, .none, f2, f3]) = false from by simp [roadD, withinD]] at q
          rcases n2 with rfl | ⟨a2, rfl, z2, _⟩ <;> rcases n3 with rfl | ⟨a3, rfl, z3, _⟩ <;> exact q
        rcases n2 with rfl | ⟨a2, rfl, z2, _⟩
        · rw [show roadD p (.tuple [.int a0, .int a1, .none, f3]) = false from by simp [roadD, withinD]] at q
          rcases n3 with rfl | ⟨a3, rfl, z3, _⟩ <;> exact q
        rcases n3 with rfl | ⟨a3, rfl, z3, _⟩
        · rw [show roadD p (.tuple [.int a0, .int a1, .int a2, .none]) = false from by simp [roadD, withinD]] at q
          exact q
        refine fIn_no4 ?_
        try walk_at "dl0"
        refine fIxB_at (n := 0) rfl ?_
        refine fIxB_at (n := 1) rfl ?_
        refine ⟨sh_int _, sh_int _, ?_⟩
        rw [eqv_int, if_neg Bool.false_ne_true]
        have er : roadD p (.tuple [.int a0, .int a1, .int a2, .int a3]) = decide (a0 ≤ p - 1 ∧ a1 ≤ p - 1 ∧ a0 ≠ a1 ∧ 1 ≤ a2 ∧ a2 ≤ 99 ∧ a3 ≤ 99) := by
          show ((decide (0 ≤ a0) && decide (a0 ≤ p - 1)) && ((decide (0 ≤ a1) && decide (a1 ≤ p - 1)) && (!decide (a0 = a1) && ((decide (1 ≤ a2) && decide (a2 ≤ 99)) && (decide (0 ≤ a3) && decide (a3 ≤ 99)))))) = _
          rw [decide_eq_true z0, decide_eq_true z1, decide_eq_true z3]
          by_cases h : a0 ≤ p - 1 ∧ a1 ≤ p - 1 ∧ a0 ≠ a1 ∧ 1 ≤ a2 ∧ a2 ≤ 99 ∧ a3 ≤ 99
          · obtain ⟨b1, b2, b3, b4, b5, b6⟩ := h
            simp [b1, b2, b3, b4, b5, b6]
          · rw [decide_eq_false h]
            simp only [Bool.true_and, Bool.and_eq_false_iff, decide_eq_false_iff_not, Bool.not_eq_false', decide_eq_true_eq]
            omega
        rw [er] at q
        by_cases e01 : a0 = a1
        · rw [decide_eq_true e01]
          rw [decide_eq_false (fun z => z.2.2.1 e01)] at q
          try walk_at "dl0"
          exact q
        · rw [decide_eq_false e01]
          try walk_at "dl0"
          refine max2 ?_
          try walk_at "dl0"
          by_cases em : p ≤ (if a0 < a1 then a1 else a0)
          · rw [decide_eq_true em]
            rw [decide_eq_false (fun z => by split at em <;> omega)] at q
            try walk_at "dl0"
            exact q
          · rw [decide_eq_false em]
            have b1 : a0 ≤ p - 1 ∧ a1 ≤ p - 1 := by split at em <;> omega
            try walk_at "dl0"
            refine fIxB_at (n := 2) rfl ?_
            try walk_at "dl0"
            by_cases g1 : 1 ≤ a2
            · rw [decide_eq_true g1]
              try walk_at "dl0"
              by_cases g2 : a2 ≤ 99
              · rw [decide_eq_true g2]
                try walk_at "dl0"
                refine fIxB_at (n := 3) rfl ?_
                try walk_at "dl0"
                by_cases g3 : a3 ≤ 99
                · rw [decide_eq_true g3]
                  rw [decide_eq_true ⟨b1.1, b1.2, e01, g1, g2, g3⟩] at q
                  try walk_at "dl0"
                  exact q
                · rw [decide_eq_false g3]
                  rw [decide_eq_false (fun z => g3 z.2.2.2.2.2)] at q
                  try walk_at "dl0"
                  exact q
              · rw [decide_eq_false g2]
                rw [decide_eq_false (fun z => g2 z.2.2.2.2.1)] at q
                try walk_at "dl0"
                exact q
            · rw [decide_eq_false g1]
              rw [decide_eq_false (fun z => g1 z.2.2.2.1)] at q
              try walk_at "dl0"
              exact q
    · rw [decide_eq_false (show ¬ ((ws.length : Int) = 4) by omega)]
      try walk_at "dl0"
      have e : roadL p ws = .none := by
        unfold roadL
        rw [if_neg]
        intro z
        match ws, z with
        | [_, _, _, _], _ => exact e4 rfl
      rw [e] at q
      exact q
end
end Wy

set_option synthInstance.maxHeartbeats 2000000
set_option synthInstance.maxSize 100000
namespace Wy
open PySem PySem.Spec PyProof.Rows L2 Dl
local macro_rules | `(tactic| walk_at "dl0") => `(tactic| simp only [startD, iEn, cvs, cv, vS, Sl.dat, Sl.seq, Sl.sq, Sl.fz, dats, dSetI, dAug, wipeD, List.length_cons, List.length_nil, List.length_append, List.length_replicate, Nat.reduceAdd, Nat.reduceSub, Nat.zero_add, List.replicate_succ, List.replicate_zero, List.cons_append, List.nil_append, List.append_nil, List.set_cons_zero, List.set_cons_succ, List.set_nil, List.getElem?_cons_zero, List.getElem?_cons_succ, Option.getD_some, List.map_cons, List.map_nil, Option.bind_some, fI0_c, fI_c, fU_c, fAddX_i, fAddX_t, fAddX_s, fAddX_mm, fAddX_bm, fAddX_mb, fAddX_bb, fAddX_lm, fAddX_ll, fMulX_i, fMulX_m, fSlX_t, fSlX_m, fSlX_b, fSlX_l, fIs_n, fIs_i, fIs_b, fIs_s, fIs_l, fIs_t, fIs_m, fIs_bl, fLen_t, fLen_l, fLen_m, fLen_b, fLen_scr, fIsi_c, fEqD_c, fEqD_mm, fEqD_bm, fEqD_bb, fEqD_dm, fEq_ss, fInt_i, fInt_b, fTuple_m, fTuple_b, fTuple_t, fTuple_l, fList_m, fList_b, fList_t, fList_l, f2I_c, fRepr_c, fRepr_m, fRepr_b, fStr_c, Bool.not_true, Bool.not_false, true_and, netT, Road.dt, reduceIte, Bool.false_eq_true, decide_true, decide_false, tupK, lstK, dNext_c, dBreak_c, dCont_c, dSeq_c, dDrop_c, dRet_c, retK_d, retK_m, retK_r, dRetN_c, dIfS_c, iteS_t, iteS_f, dSet_c, setK_d, setK_m, setK_s, setK_r, dAsg_c, asgK_d, asgK_m, dFz_c, dNever_c, dRaise_c, dC_c, dOp_c, dUn_c, dTst_c, tstK_c, dTru_c, truK_n, truK_b, truK_i, truK_t, truK_l, truK_m, truK_bl, dNot_c, dAnd_c, andK_t, andK_f, dOr_c, orK_t, orK_f, dAndV_c, andV_t, andV_f, dOrV_c, orV_t, orV_f, dNotV_c, dIf_c, iteE_t, iteE_f, dChain_c, chK_t, chK_f, dNil_c, dCons_c, dCB_c, dCall_c, dCall0_c, dTup_c, dLst_c, dFor_c, dLc_c, iTp_c, tpK_c, iLst_c, lsK_d, lsK_m, iSeq_c, sqK_d, sqK_m, sqK_b, dSl_c, dNo_c, dPt_c, ptK_c, dYes_c, dBack_k, backK_c, dTupRg_c, dLstRg_c, dRg1_c, dRg2_c, rg1K_c, rg2K_c, tupRg_c, lstRg_c, dDict0_c, dDict1_c, gdName_c, gdTup_c, gdCons_c, gdNil_c, dApp_c, appK_c, apK_d, apK_m, dVar_c, varK_d, varK_m, varK_b, varK_s, varK_sc, varK_r, dNew_c, varK_mo, varK_bo, setK_mo, retK_mo, dDIn_c, dinK_i, dinK_s, dDGet_c, dDGet1_c, isBo_c, dget1K_i, dDPut_c, dputV_d, dputK_i, val_mo, dOwn0_c, dDispV_c, dispK_i, fRepT_c, fIsB_c, dM0_c, dM1_c, isStr_c, fQ0_c, fQ1_c, fSplit_c, fLenS_c, iEnSD_c, dSetdIf_c, setdB_f, enSK_m, enSK_d, dOrT_c, dAndT_c, orTK_n, dCallK_c, dCallK0_c, dCallD_c, dCallD0_c, dSaid_c, toldK_d, toldK_m, iRg1_c, rgK_c, iRg2_c, rgK2_c, iEnT_c, enK_c, iZp_c, zpK_tt, zpK_mm, zpK_ll, zpK_lm, zpK_ml, dPar_c, parK_im, parK_nm, parK_sm, parK_dd, parK_md])
section
variable {P : Program} {w : World} {K : PySem.W.Frag} {mg : Str → Option Value} {base : Heap} {C : Nat → Addr}
theorem fIx_l {xs : List PyData} {n : Nat} {d : PyData} {Qd : Sl → Prop} (e : xs[n]? = some d) (h : Qd (.d d)) : fIx (.d (.list xs)) (.d (.int (n : Int))) Qd := fIxL_at (s := .d (.list xs)) rfl e h
/-- a line whose signs are plain; a text of such lines -/
structure LineOk (l : Str) : Prop where
  len : l.length ≤ 10000
  sig : ∀ c ∈ l.cps.toList, c < 128
  wds : ∀ w ∈ Txt.split l " ", w.length ≤ 10000 ∧ ∀ c ∈ w.cps.toList, c < 128
  num : (Txt.split l " ").length ≤ 10000
structure TextOk (a : Str) : Prop where
  len : a.length ≤ 10000
  lns : ∀ l ∈ Txt.split a "\n", LineOk l
  num : (Txt.split a "\n").length ≤ 10000
  ne : Txt.split a "\n" ≠ []
/-- what lines write: the place where they break, or the roads -/
def scanL (p : Int) : Nat → List Str → List PyData → Int ⊕ PyData
  | _, [], acc => .inr (.tuple [.int p, .tuple acc])
  | i, l :: r, acc => if roadD p (.tuple ((Txt.split l " ").map (figD 2))) = false ∨ 30 < i then .inl i else scanL p (i + 1) r (acc ++ [.tuple ((Txt.split l " ").map (figD 2))])
def readL : List Str → Int ⊕ PyData
  | [] => .inl 0
  | l :: r => match figD 2 l with
    | .int p => if 1 ≤ p ∧ p ≤ 10 then scanL p 1 r [] else .inl 0
    | _ => .inl 0
def toldL : Int ⊕ PyData → PyData
  | .inl i => .tuple [.str "text", .int i]
  | .inr d => .tuple [.str "told", d]
def readD : PyData → Int ⊕ PyData
  | .str a => readL (Txt.split a "\n")
  | _ => .inl (-1)
theorem readL_c (l0 : Str) (ls : List Str) : readL (l0 :: ls) = match figL l0 with
    | .int p => if 1 ≤ p ∧ p ≤ 10 then scanL p 1 ls [] else .inl 0
    | _ => .inl 0 := by
  have key := fig_within (a := l0) (lo := 1) (hi := 10) (by decide)
  show (match figD 2 l0 with
    | .int p => if 1 ≤ p ∧ p ≤ 10 then scanL p 1 ls [] else .inl 0
    | _ => .inl 0) = _
  by_cases z : l0.length ≤ 2
  · rw [figD_L z]
  · rw [figD_big (by omega)]
    rcases figL_nn l0 with e | ⟨n, e, _, hb⟩
    · rw [e]
    · rw [e]
      have := hb (by omega)
      show Sum.inl 0 = if 1 ≤ n ∧ n ≤ 10 then scanL n 1 ls [] else .inl 0
      rw [if_neg (by omega)]
theorem fIs_none {Qd : Sl → Prop} (h : Qd (.d (.bool true))) : fIs false (.d .none) (.d .none) Qd := h
theorem fIs_int {n : Int} {Qd : Sl → Prop} (h : Qd (.d (.bool false))) : fIs false (.d (.int n)) (.d .none) Qd := h
theorem fIs_tup {xs : List PyData} {Qd : Sl → Prop} (h : Qd (.d (.bool false))) : fIs false (.d (.tuple xs)) (.d .none) Qd := h
theorem sc__law_read : FnScope ["_law_text", "_law_lines", "_law_roads", "_law_spots", "_law_at", "_law_road"] ["_law_text"] (defScope s__law_read) := ⟨rfl, rfl, rfl, by decide +kernel, rfl, by decide +kernel, by decide +kernel⟩
def sd__law_read : SpD := fun ss Qd _ => ∃ x, ss = [.d x] ∧ (∀ a, x = .str a → TextOk a) ∧ Qd (.d (toldL (readD x)))
theorem c__law_read (T : Tx P K mg C) : Cb P w K mg base CX0 3 "_law_read" ["_law_text"] (spD K [] sd__law_read) := by
  obtain ⟨f, fd, D⟩ := T.h__law_read
  refine ⟨f, fd, okD (k := 2) D.F sc__law_read (fun ss Qd R h => ?_) (fun cdv A outer s H E hr => ⟨_, (pss_cons (ps_if (pt_not (pt_val (pe_callB (call_isiQ (K := K) rfl) (by rfl) T.isinstance (by decide +kernel) (pa_cons (pv 0) (pa_cons (pe_bltn (v := .ty "str") (by rfl) T.str (by decide +kernel) rfl) pa_nil))))) (pss_one (ps_ret (pe_tup (pa_cons pe_str (pa_cons (pe_un un_neg pe_int) pa_nil))))) pss_nil)
    (pss_cons (show PS _ _ (tParE 1 2 _) from (ps_par (i := 1) (j := 2) (by rfl) sc__law_read.nd rfl rfl (by decide) rfl rfl (pa_cons (pe_splitK (pv 0) pe_str) (pa_cons (pe_lst pa_nil) pa_nil)) (by rfl)))
    (pss_cons (ps_set (i := 3) sc__law_read.nd rfl (.inl rfl) (pe_cb (c__law_figures (K := K) T) (hr.mono (by decide)) (by rfl) pass0 (pa_cons (pe_ix (ix_seqK (K := K) rfl) (pv 1) pe_int (fun _ _ => rfl)) pa_nil)))
    (pss_cons (ps_if (PW.pt (pw_or (pt_cmpR op_isN (pv 3) pe_non (nomark _)) (pw_or1 (pt_not (pt_chain op_le op_le pe_int (pv 3) pe_int))))) (pss_one (ps_ret (pe_tup (pa_cons pe_str (pa_cons pe_int pa_nil))))) pss_nil)
    (pss_cons (ps_for PassesOwn.never rfl (pi_range2 (by rfl) T.range (pa_cons pe_int (pa_cons (pe_callB (call_lenK (K := K) rfl) (by rfl) T.len PySem.boot_len (pa_cons (pv 1) pa_nil)) pa_nil))) (pg_name (i := 4) sc__law_read.nd rfl (.inl rfl))
    (pss_cons (ps_set (i := 5) sc__law_read.nd rfl (.inl rfl) (pe_cb (c__law_road_in (K := K) T) (hr.mono (by decide)) (by rfl) pass0 (pa_cons (pe_ix (ix_seqK (K := K) rfl) (pv 1) (pv 4) (fun _ _ => rfl)) (pa_cons (pv 3) pa_nil))))
    (pss_cons (ps_if (PW.pt (pw_or (pt_cmpR op_isN (pv 5) pe_non (nomark _)) (pw_or1 (pt_cmpR op_gt (pv 4) pe_int (nomark _))))) (pss_one (ps_ret (pe_tup (pa_cons pe_str (pa_cons (pv 4) pa_nil))))) pss_nil)
    (pss_one (ps_expr (pe_bmK (K := K) rfl PySem.F.plainAttrs_list PySem.F.slot_list_append PySem.F.type_list_append mt_append (pv 2) (pa_cons (pv 5) pa_nil)))))))
    (pss_one (ps_ret (pe_tup (pa_cons pe_str (pa_cons (pe_tup (pa_cons (pv 3) (pa_cons (pe_callTy (call_tupleK (K := K) rfl) (by rfl) T.tuple (by decide +kernel) (pa_cons (pv 2) pa_nil)) pa_nil))) pa_nil)))))))))), ?_⟩), D.g, D.F.kp, D.b⟩
  · obtain ⟨_, rfl, _⟩ := h
    rfl
  · refine ⟨_, fun τ => inferInstance, fun ss Qd R h => ?_⟩
    obtain ⟨x, rfl, hx, q⟩ := h
    cases x with
    | str a =>
      have ok := hx a rfl
      try walk_at "dl0"
      refine ⟨.inr (.inr (.inr (.inr (.inl rfl)))), ?_⟩
      rw [show isiD (tyD (PyData.str a)) "str" = true from rfl]
      try walk_at "dl0"
      rw [dParE_c]
      try walk_at "dl0"
      refine ⟨by decide +kernel, Nat.le_of_lt (line_1000 (by have := ok.len; omega)), ?_⟩
      rw [parEK_m]
      have hl := ok.lns
      have hn := ok.num
      have ne := ok.ne
      have q : Qd (.d (toldL (readL (Txt.split a "\n")))) := q
      generalize Txt.split a "\n" = ls at hl hn ne q ⊢
      cases ls with
      | nil => exact absurd rfl ne
      | cons l0 ls =>
        have k0 := hl l0 List.mem_cons_self
        try walk_at "dl0"
        refine fIx_l (n := 0) rfl ?_
        refine ⟨l0, rfl, k0.len, k0.sig, ?_⟩
        try walk_at "dl0"
        rw [readL_c] at q
        have nn := figL_nn l0
        generalize figL l0 = f0 at nn q ⊢
        rcases nn with rfl | ⟨p, rfl, z0, _⟩
        · refine fIs_none ?_
          try walk_at "dl0"
          exact ⟨by decide, q⟩
        refine fIs_int ?_
        try walk_at "dl0"
        have q : Qd (.d (toldL (if 1 ≤ p ∧ p ≤ 10 then scanL p 1 ls [] else .inl 0))) := q
        by_cases p1 : 1 ≤ p
        · rw [decide_eq_true p1]
          try walk_at "dl0"
          by_cases p2 : p ≤ 10
          · rw [decide_eq_true p2]
            rw [if_pos ⟨p1, p2⟩] at q
            try walk_at "dl0"
            rw [List.length_map] 
            have hnl : ls.length ≤ 10000 := by
              rw [List.length_cons] at hn
              omega
            refine ⟨⟨by decide, by decide, by omega, by omega⟩, ?_⟩
            have el : (((ls.length + 1 : Nat) : Int) - 1).toNat = ls.length := by omega
            rw [el]
            generalize hS : scanL p 1 ls [] = S at q
            refine forD_by (fun i ρ => ∃ acc y4 y5, ρ = [.d (.str a), .d (.list (.str l0 :: ls.map PyData.str)), .ml acc, .d (.int p), y4, y5] ∧ acc.length ≤ i ∧ scanL p (1 + i) (ls.drop i) acc = S) ⟨_, _, _, rfl, Nat.le_refl _, hS⟩ (fun i d ρ N hd h hN => ?_) (fun ρ h => ?_)
            · obtain ⟨acc, y4, y5, rfl, ha, hs⟩ := h
              obtain ⟨hi, rfl⟩ := rangeD_get hd
              obtain ⟨l, el⟩ : ∃ l, ls[i]? = some l := ⟨ls[i], List.getElem?_eq_getElem hi⟩
              have kl := hl l (List.mem_cons_of_mem _ (List.mem_of_getElem? el))
              rw [show ls.drop i = l :: ls.drop (i + 1) from by rw [List.drop_eq_getElem_cons hi]; congr 1; exact Option.some.inj ((List.getElem?_eq_getElem hi).symm.trans el)] at hs
              rw [show (1 : Int) + (i : Int) = ((i + 1 : Nat) : Int) from by omega]
              try walk_at "dl0"
              refine fIx_l (n := i + 1) (by rw [List.getElem?_cons_succ, List.getElem?_map, el]; rfl) ?_
              refine ⟨l, p, rfl, kl.len, kl.wds, kl.num, p1, p2, ?_⟩
              have hs : (if roadD p (.tuple ((Txt.split l " ").map (figD 2))) = false ∨ 30 < 1 + i then Sum.inl (((1 + i : Nat) : Int)) else scanL p (1 + i + 1) (ls.drop (i + 1)) (acc ++ [.tuple ((Txt.split l " ").map (figD 2))])) = S := hs
              unfold roadL
              try walk_at "dl0"
              cases er : roadD p (.tuple ((Txt.split l " ").map (figD 2))) with
              | false =>
                rw [if_pos (.inl er)] at hs
                rw [if_neg Bool.false_ne_true]
                refine fIs_none ?_
                try walk_at "dl0"
                rw [← hs] at q
                refine ⟨by decide, ?_⟩
                rw [show i + 1 = 1 + i from by omega]
                exact q
              | true =>
                rw [if_pos rfl]
                refine fIs_tup ?_
                try walk_at "dl0"
                by_cases h30 : 30 < 1 + i
                · rw [if_pos (.inr h30)] at hs
                  rw [decide_eq_true (show (30 : Int) < ((i + 1 : Nat) : Int) by omega)]
                  try walk_at "dl0"
                  rw [← hs] at q
                  refine ⟨by decide, ?_⟩
                  rw [show i + 1 = 1 + i from by omega]
                  exact q
                · rw [if_neg (fun z => z.elim (fun z => by rw [er] at z; cases z) h30)] at hs
                  rw [decide_eq_false (show ¬ (30 : Int) < ((i + 1 : Nat) : Int) by omega)]
                  try walk_at "dl0"
                  refine ⟨line_1000 (by omega), hN _ ⟨_, _, _, rfl, by rw [List.length_append, List.length_singleton]; omega, hs⟩⟩
            · obtain ⟨acc, y4, y5, rfl, ha, hs⟩ := h
              rw [rangeD_len, List.drop_length] at hs
              rw [← hs] at q
              try walk_at "dl0"
              exact ⟨by decide, by decide, q⟩
          · rw [decide_eq_false p2]
            rw [if_neg (fun z => p2 z.2)] at q
            try walk_at "dl0"
            exact ⟨by decide, q⟩
        · rw [decide_eq_false p1]
          rw [if_neg (fun z => p1 z.1)] at q
          try walk_at "dl0"
          exact ⟨by decide, q⟩
    | _ =>
      try walk_at "dl0"
      refine ⟨.inr (.inr (.inr (.inr (.inl rfl)))), ?_⟩
      try walk_at "dl0"
      exact ⟨by decide, q⟩
end
end Wy

set_option synthInstance.maxHeartbeats 2000000
set_option synthInstance.maxSize 100000
namespace Wy
open PySem PySem.Spec PyProof.Rows L2 Dl
section
variable {P : Program} {w : World} {K : PySem.W.Frag} {mg : Str → Option Value} {base : Heap} {C : Nat → Addr}
theorem rai_NoText {C0 : Addr} (I : InX.IniX P K mg "NoText" "NoText.__init__" C0 si_NoText ["at"]) : InX.RaiC P w K mg base "NoText" "at" C0 := by
  obtain ⟨fI, cda, cc, fd, B, h1, h2⟩ := I.fn
  obtain ⟨oc, od, doc, pm, ct, osl, efd, lk⟩ := id B.ex
  refine ⟨I.sup.oex, I.g, fI, fd, h1, h2, ?_, ?_⟩
  · exact InX.init1_ok (N := ["self", "at", "__class__"]) I.sup B (NdefX.nscope_by (show NdefX.nscB ["self", "at", "__class__"] ["self", "at"] ["__class__"] (C8.fnScope si_NoText) = true by decide +kernel)) rfl rfl rfl (show (C8.fnScope si_NoText).names.lookup ("super" : Str) = some .globalImplicit by decide +kernel) I.hs (fun {X} => pa_cons pe_str pa_nil) (fun _ => rfl) (fun _ => ⟨_, rfl⟩) (fun _ => rfl) (I.no _ List.mem_cons_self) (fun _ _ _ _ _ => pv 0) (fun _ _ _ _ _ => pv 1) (fun _ => rfl)
  · rw [efd]
    exact .all fun us hl => match us, hl with | [_, _], _ => rfl
end
end Wy

/-! errors that are caught, with fields or without: isinstance, reading a field, defs that are handed them, what is said of a call -/
namespace Dl
open PySem PySem.Spec PyProof.Rows L2 LamX
/-- the dict of such an error is a dict of fields -/
def HasF (H : Hp) (x : Option Addr) : Prop := ∀ dd, x = some dd → ∃ fs, H dd = some (.xd fs)
theorem HasF.same {H H' : Hp} {x : Option Addr} (h : HasF H x) (s : Same H H') : HasF H' x := fun dd e => by
  obtain ⟨fs, q⟩ := h dd e
  exact ⟨fs, s _ _ q⟩
def ErrX (D : Addr) (o : Obj) : Prop := o.cls = .ref D ∧ ∃ vs, o.data = .fields vs
def rIsX (K : PySem.W.Frag) (D a : Addr) (x : Option Addr) : List V → Hp → VK → Prop := fun xs H Q => ∃ (c : V) (cv : Value) (b : Bool), xs = [.ref a, c] ∧ (∀ u, RelV c u → u = cv) ∧ PySem.W.kitOne K (.ref D) cv = some b ∧ HasF H x ∧ Q (.bl b) H
theorem instX {X : Cx} {pins : List (Addr × Obj)} {s : Shared} {σ : L2.St} {H : Hp} {D : Addr} {p : Addr × Obj} (I : L2.Inv X pins σ H s) (hp : p ∈ X.pn) (hz : ErrX D p.2) (hx : HasF H p.2.dict) : ∃ od, PySem.W.InstAt s.heap p.1 p.2 D od ∧ (∀ dd, p.2.dict = some dd → ∃ o, od = some o ∧ s.heap.get? dd = some o) := by
  obtain ⟨got, _⟩ := I.pin p (List.mem_append.mpr (.inl hp))
  obtain ⟨h1, vs, hv⟩ := hz
  have hn : PySem.W.notCls p.2 := by unfold PySem.W.notCls; rw [hv] <;> rfl
  cases e : p.2.dict with
  | none => exact ⟨none, ⟨got, h1, hn, by rw [e]; trivial⟩, fun dd z => nomatch z⟩
  | some dd =>
    obtain ⟨fs, q⟩ := hx dd e
    have hx : ObjOk X.prog X.w H s.heap dd (.xd fs) := I.hok dd _ q
    obtain ⟨mA, hns, hr⟩ := hx
    obtain ⟨od, ho, hl⟩ := lookIn_ns hns
    exact ⟨some od, ⟨got, h1, hn, by rw [e]; exact ho⟩, fun dd' z => ⟨od, rfl, by rw [← Option.some.inj z]; exact ho⟩⟩
theorem call_isX {X : Cx} {p : Addr × Obj} {D : Addr} (C : ExcC X.K D) (hp : p ∈ X.pn) (hz : ErrX D p.2) : CallR X (.builtin "isinstance") (rIsX X.K D p.1 p.2.dict) := by
  intro pins s σ H xs us Q I r h
  obtain ⟨c, cv, b, rfl, hc, e, hx, q⟩ := h
  cases r with
  | cons rx rr =>
    cases rr with
    | cons rt rn =>
      cases rn
      cases rx
      have ec := hc _ rt
      subst ec
      obtain ⟨od, J, _⟩ := instX I hp hz hx
      have hcl : (PySem.W.clsIn X.K D).isSome = true := by
        obtain ⟨cd, hcd, _⟩ := PySem.W.any_some C.hd
        rw [hcd]
        rfl
      exact PySem.W.kia_one (PySem.W.kitx_exc hcl C.hg C.hk C.hs C.ha C.hn C.ht C.hm) I.kIn J e (fun z => nomatch z) fun tk => ⟨.bl b, H, I.kept (t' := tk) fun _ _ z => z, rfl, q⟩
/-- a field of it -/
theorem pe_xfP {X : Cx} {p : Addr × Obj} {C : Addr} {e : Expr} {te : TE} {pos : Pos} {n : Str} (T : XfC X.K C) (hno : PySem.W.findIn X.K (.ref C) n = some none) (hp : p ∈ X.pn) (hz : ErrX C p.2) (he : PE X e te)
    (hb : attributeBase e n X.env (eval e X.env) = eval e X.env := by rfl) :
    PE X (.Attribute e n pos) (fun σ H Q => te σ H fun x H1 => x = .ref p.1 ∧ ∃ (dd : Addr) (fs : List (Str × V)) (v : V), p.2.dict = some dd ∧ H1 dd = some (.xd fs) ∧ fs.lookup n = some v ∧ Q v H1) := by
  refine ⟨fun pins s σ H Q I h => ?_⟩
  refine attr_of hb (thn (he.run pins s σ H _ I h) fun u s1 hh => ?_)
  obtain ⟨x, H1, I1, rx, ex, dd, fs, v, ed, ea, l, q⟩ := hh
  subst ex
  obtain rfl : u = Value.ref p.1 := rx
  obtain ⟨ha, _⟩ := I1.pin p (List.mem_append_left _ hp)
  obtain ⟨h1, vs, hd⟩ := hz
  have hx : ObjOk X.prog X.w H1 s1.heap dd (.xd fs) := I1.hok dd _ ea
  obtain ⟨mA, hns, hr⟩ := hx
  obtain ⟨od, ho, hl⟩ := lookIn_ns hns
  obtain ⟨u, hu, ru⟩ := RelO.some_of (v := v) (o := mA n) (by rw [← l]; exact hr n)
  have J : PySem.W.InstAt s1.heap p.1 p.2 C (some od) := ⟨ha, h1, by unfold PySem.W.notCls; rw [hd] <;> rfl, by rw [ed]; exact ho⟩
  exact HandSPX.exc_get I1.kIn J T.ga T.gg T.exC (PySem.W.findObj_own T.hdC hno rfl (by rw [hl, hu])) (handed_of ru) ⟨v, H1, I1.tok _, ru, q⟩
/-- what a def promises that is called with the error of class D while it is handled -/
structure FnX (P : Program) (w : World) (K : PySem.W.Frag) (mg : Str → Option Value) (base : Heap) (k : Nat) (f : Addr) (fd : FuncData) (ps : List Str) (D : Addr) (sp : Addr → Option Addr → List V → Hp → VK → Prop) : Prop where
  len : ∀ a x vs H Q, sp a x vs H Q → vs.length = ps.length
  run : ∀ (A : Around) (outer : List Env) (s : Shared) (H : Hp) (args : Args) (us : List Value) (vs : List V) (Q : VK) (p : Addr × Obj), L2H.RoomH k A → L2H.PinOk outer H s p → ErrX D p.2 → Env0 P w K mg base A outer s H → BindsTo s fd args (ps.zip us) → Vals vs us → sp p.1 p.2.dict vs H Q →
    codeAny (model P w) A (.call (.ref f) args) (CR CX0 outer P w H s Q E0) s
theorem fnX_of {P : Program} {w : World} {K : PySem.W.Frag} {mg : Str → Option Value} {base : Heap} {x : Str} {st : Stmt} {f D : Addr} {fd : FuncData} {N ps : List Str} {k : Nat} {sp : Addr → Option Addr → List V → Hp → VK → Prop} (F : Fun K x x st f fd) (S : FnScope N ps (defScope st)) (len : ∀ a x vs H Q, sp a x vs H Q → vs.length = ps.length)
    (body : ∀ (cdv : Value) (A : Around) (outer : List Env) (s : Shared) (H : Hp) (vs : List V) (Q : VK) (p : Addr × Obj), L2H.RoomH k (A.deeper (envOfC x (defScope st) s.heap.objs.size f cdv)) → ErrX D p.2 → sp p.1 p.2.dict vs H Q →
      ∃ t, PSs (L2H.cxH CX0 P w K mg base N x (defScope st) f cdv A outer s H E0 p).nox (defBody st) t ∧ t { nx := fun _ G => Q .non G, rt := Q } (L2.start N vs) H) : FnX P w K mg base (k + 1) f fd ps D sp := by
  obtain ⟨oc, od, kV, doc, pm, an, cdv, ct, osl, rfl, lk, hcd⟩ := F.ex
  refine ⟨len, fun A outer s H args us vs Q p hr pin err e0 bnd rv hsp => ?_⟩
  have inK : K.In s.heap := e0.mod.kin.keeps fun b o e => (e0.bs b o e).1
  refine codeAny_call_function hr.depth (inK _ _ lk) rfl S.co S.gen rfl (PySem.W.codeRec_of inK hcd) (bnd _ _ _ _ ?_)
  refine wpAny_newFunctionEnv_cells S.kind (fun y hy => ?_) fun env he s1 inC => ?_
  · rcases S.par y.1 (List.of_mem_zip (show (y.1, y.2) ∈ ps.zip us from hy)).1 with z | z
    · exact .inl z
    · exact .inr ⟨z, PySem.W.cellsFrom_some _ _ _ (.inl z)⟩
  · subst he
    refine ⟨(e0.mod.nolimit.keeps fun b o e => (e0.bs b o e).1).keeps inC.toInCall.keep, codeAny_func ?_⟩
    obtain ⟨t, ht, hq⟩ := body cdv A outer s H vs Q p (hr.deeper _) err hsp
    have J : L2.Inv (L2H.cxH CX0 P w K mg base N x (defScope st) f cdv A outer s H E0 p) [] (L2.start N vs) H s1 := L2H.inv_startH S pin e0 (len _ _ _ _ _ hsp) rv inC
    refine wpAny_mono (ht.nox.run [] s1 (L2.start N vs) H _ J hq) (fun fl s' hs => ?_) fun e s' hs => hs
    cases fl with
    | ret u =>
      obtain ⟨v, σ', H', J', rv', q⟩ := hs
      exact ⟨v, H', J'.os, J'.bare, J'.base, J'.hok, rv', q⟩
    | next =>
      obtain ⟨σ', H', J', q⟩ := hs
      exact ⟨.non, H', J'.os, J'.bare, J'.base, J'.hok, rfl, q⟩
    | brk =>
      obtain ⟨_, _, _, q⟩ := hs
      exact q.elim
    | cont =>
      obtain ⟨_, _, _, q⟩ := hs
      exact q.elim
theorem pe_callX {X : Cx} {k : Nat} {f D : Addr} {fd : FuncData} {ps : List Str} {sp : Addr → Option Addr → List V → Hp → VK → Prop} {x : Str} {u1 u2 : Pos} {e : Expr} {es : List Expr} {t : TA} {p : Addr × Obj} (F : FnX X.prog X.w X.K X.mg X.base k f fd ps D sp) (hr : L2H.RoomH k X.A) (hp : p ∈ X.pn) (hz : ErrX D p.2) (hg : Gl X x) (hm : X.mg x = some (.ref f))
    (hk : PySem.W.keepIn X.K (.ref f) = true) (hb : L2.Binds X.K fd ps []) (ha : PA X (e :: es) t) (hdb : (x == ("__debug__" : Str)) = false := by decide) (he : starEach (e :: es) X.env = (false, eval e X.env) :: starEach es X.env := by rfl) (hpl : (backTo u2 (starEach es X.env)).any (·.1) = false := by rfl) :
    PE X (.Call (.Name x u1) (e :: es) [] u2) (fun σ H Q => t σ H fun vs G => sp p.1 p.2.dict vs G Q) := by
  refine ⟨fun pins s σ H Q I h => wpAny_Call_Name_kw (ld_glob I hg hm ?_ hdb)⟩
  refine PySem.W.callWith_K (h₀ := X.base) I.ok.mod.kin hk (thn (ha.run u2 pins s σ H _ I h) fun us t1 ⟨vs, G, J, rv, q⟩ => ⟨J.kIn, ?_⟩) he hpl
  have hl : us.length = ps.length := by
    rw [← rv.length]
    exact F.len _ _ _ _ _ q
  have bnd := hb t1 us J.kIn (by rw [List.append_nil]; exact hl)
  rw [List.append_nil] at bnd
  have pp := J.pin p (List.mem_append_left _ hp)
  have pin : L2H.PinOk X.stack G t1 p := ⟨pp.1, pp.2.1, fun hm => (List.mem_cons.mp (J.stkSub p.1 hm)).elim pp.2.2.1 pp.2.2.2.1, pp.2.2.2.2⟩
  refine wpAny_call (codeAny_mono (F.run X.A X.stack t1 G ⟨us, []⟩ us vs Q p hr pin hz J.env0 bnd rv q) fun r s' hq => ?_)
  cases r with
  | error e => exact (show False from hq).elim
  | ok fl =>
    cases fl with
    | ret u => exact J.after hq
    | next => exact (show False from hq).elim
    | brk => exact (show False from hq).elim
    | cont => exact (show False from hq).elim
theorem ps_raiseF1K {X : Cx} {K : PySem.W.Frag} {E : XK} {x fld : Str} {C : Addr} {e : Expr} {t : TA} {p pos pos2 : Pos} (hK : X.K = K) (hc : X.calm = true) (tk : Takes X (fun cls d _ H => E cls d H)) (Z : InX.RaiC X.prog X.w X.K X.mg X.base x fld C) (hr : Room 2 X.A) (hg : Gl X x) (ha : PA X [e] t)
    (hdb : (x == ("__debug__" : Str)) = false := by decide) (he : starEach [e] X.env = (false, eval e X.env) :: starEach [] X.env := by rfl) (hpl : (backTo pos (starEach [] X.env)).any (·.1) = false := by rfl) :
    PS X (.Raise (some (.Call (.Name x p) [e] [] pos)) none pos2) (InX.tRaiseF1 K C fld E t) := by
  subst hK
  exact InX.ps_raiseF1 hc tk Z hr hg ha hdb he hpl
section
variable {K : PySem.W.Frag} {τ : List (Addr × Str)} {E : XK}
/-- what is said of a call: told, or the refusal's word with what it holds -/
def TSaidF (C : Nat → Addr) (ms : List Nat) (wd : Nat → Str) (fl : Nat → List Str) : (XK → Hp → VK → Prop) → Hp → VK → Prop := fun tl H Q =>
  tl (fun cls d H' => ∃ m vs, m ∈ ms ∧ cls = .ref (C m) ∧ vs.length = (fl m).length ∧ ((fl m = [] ∧ d = none) ∨ ∃ dd, d = some dd ∧ H' dd = some (.xd ((fl m).zip vs))) ∧ ∀ G t, Same H' G → H' t = none → G t = some (.tup (.str (wd m) :: vs)) → Q (.ref t) G) H fun v G => ([V.str "told", v] : List V).length ≤ sizeLine ∧ ∀ p, G p = none → Q (.ref p) (upd G p (.tup [.str "told", v]))
def dSaidF (C : Nat → Addr) (ms : List Nat) (wd : Nat → Str) (fl : Nat → List Str) (f : TD) : TD := fun ρ Qd _ => f ρ (fun s => match s.dat with
  | some x => Qd (.d (.tuple [.str "told", x]))
  | none => False) fun er => ∃ m, m ∈ ms ∧ er.1 = C m ∧ er.2.map (·.1) = fl m ∧ Qd (.d (.tuple (.str (wd m) :: er.2.map (·.2))))
theorem rpAll_len {A : Addr → Prop} {H : Hp} : ∀ {vs : List V} {ds : List PyData}, RpAll K A H vs ds → vs.length = ds.length
  | _, _, .nil => rfl
  | _, _, .cons _ t => congrArg (· + 1) (rpAll_len t)
instance {C : Nat → Addr} {ms : List Nat} {wd : Nat → Str} {fl : Nat → List Str} {t : XK → TE} {f : TD} [ht : ∀ E', RefE K τ E' (t E') f] : RefE K τ E (tLam τ (TSaidF C ms wd fl) t) (dSaidF C ms wd fl f) := ⟨fun W A H σ ρ Qd R Q a h w => by
  refine ⟨W.tab H a.bs.inv, fun H1 e1 t1 => ?_⟩
  have f1 : Fr W.B H H1 := fr_ext e1
  have i1 := W.tbI H H1 a.bs.inv e1 t1
  have a1 := a.fr f1 i1
  have w1 := w.back f1
  refine (ht _).go W A H1 σ ρ _ _ _ ⟨a1.bs, a1.env, fun er x H' f' i' z r => ?_⟩ h fun v H' s f' i' r q => ?_
  · obtain ⟨m, hm, h1, h2, q⟩ := r
    have fin : ∀ vs : List V, RpAll K A H' vs (er.2.map (·.2)) → ∀ G t, Same H' G → H' t = none → G t = some (.tup (.str (wd m) :: vs)) → Q (.ref t) G := fun vs rv G t sm nt et => by
      have b' := a1.bs.fr f' i'
      exact w1 (.ref t) G (.d (.tuple (.str (wd m) :: er.2.map (·.2)))) (f'.trans (Fr.of sm)) (W.stay _ _ sm i') (Rp.tup ⟨et, b'.nA (nob nt)⟩ (.cons (.str _) (rv.go fun b o e _ n => ⟨sm _ _ e, n⟩))) q
    rcases z with ⟨z1, z2⟩ | ⟨z1, dd, vs, z2, z3, z4⟩
    · refine ⟨m, [], hm, by rw [h1], ?_, .inl ⟨?_, z2⟩, fin [] (by rw [z1]; exact .nil)⟩
      · rw [← h2, z1]
        rfl
      · rw [← h2, z1]
        rfl
    · refine ⟨m, vs, hm, by rw [h1], ?_, .inr ⟨dd, z2, by rw [← h2]; exact z3⟩, fin vs z4⟩
      rw [← h2, rpAll_len z4, List.length_map, List.length_map]
  · obtain ⟨x, ex, q⟩ := dat_iff (P := fun x => Qd (.d (.tuple [.str "told", x]))) q
    exact ⟨by show 2 ≤ sizeLine; decide, Want.tup (a1.bs.fr f' i') (w1.back f') (.cons (.str _) (.cons (r.dat a1.bs ex) .nil)) q⟩⟩
theorem dSaidF_c {C : Nat → Addr} {ms : List Nat} {wd : Nat → Str} {fl : Nat → List Str} {f : TD} {ρ : List Sl} {Qd : Sl → Prop} {R : Er → Prop} : dSaidF C ms wd fl f ρ Qd R = f ρ (fun s => match s.dat with
  | some x => Qd (.d (.tuple [.str "told", x]))
  | none => False) (fun er => ∃ m, m ∈ ms ∧ er.1 = C m ∧ er.2.map (·.1) = fl m ∧ Qd (.d (.tuple (.str (wd m) :: er.2.map (·.2))))) := rfl
end
end Dl

set_option synthInstance.maxHeartbeats 2000000
set_option synthInstance.maxSize 100000
namespace Wy
open PySem PySem.Spec PyProof.Rows L2 Dl
local macro_rules | `(tactic| walk_at "dl2") => `(tactic| simp only [startD, iEn, cvs, cv, vS, Sl.dat, Sl.seq, Sl.sq, Sl.fz, dats, dSetI, dAug, wipeD, List.length_cons, List.length_nil, List.length_append, List.length_replicate, Nat.reduceAdd, Nat.reduceSub, Nat.zero_add, List.replicate_succ, List.replicate_zero, List.cons_append, List.nil_append, List.append_nil, List.set_cons_zero, List.set_cons_succ, List.set_nil, List.getElem?_cons_zero, List.getElem?_cons_succ, Option.getD_some, List.map_cons, List.map_nil, Option.bind_some, fI0_c, fI_c, fU_c, fAddX_i, fAddX_t, fAddX_s, fAddX_mm, fAddX_bm, fAddX_mb, fAddX_bb, fAddX_lm, fAddX_ll, fMulX_i, fMulX_m, fSlX_t, fSlX_m, fSlX_b, fSlX_l, fIs_n, fIs_i, fIs_b, fIs_s, fIs_l, fIs_t, fIs_m, fIs_bl, fLen_t, fLen_l, fLen_m, fLen_b, fLen_scr, fIsi_c, fEqD_c, fEqD_mm, fEqD_bm, fEqD_bb, fEqD_dm, fEq_ss, fInt_i, fInt_b, fTuple_m, fTuple_b, fTuple_t, fTuple_l, fList_m, fList_b, fList_t, fList_l, f2I_c, fRepr_c, fRepr_m, fRepr_b, fStr_c, Bool.not_true, Bool.not_false, true_and, netT, Road.dt, reduceIte, Bool.false_eq_true, decide_true, decide_false, tupK, lstK, dNext_c, dBreak_c, dCont_c, dSeq_c, dDrop_c, dRet_c, retK_d, retK_m, retK_r, dRetN_c, dIfS_c, iteS_t, iteS_f, dSet_c, setK_d, setK_m, setK_s, setK_r, dAsg_c, asgK_d, asgK_m, dFz_c, dNever_c, dRaise_c, dC_c, dOp_c, dUn_c, dTst_c, tstK_c, dTru_c, truK_n, truK_b, truK_i, truK_t, truK_l, truK_m, truK_bl, dNot_c, dAnd_c, andK_t, andK_f, dOr_c, orK_t, orK_f, dAndV_c, andV_t, andV_f, dOrV_c, orV_t, orV_f, dNotV_c, dIf_c, iteE_t, iteE_f, dChain_c, chK_t, chK_f, dNil_c, dCons_c, dCB_c, dCall_c, dCall0_c, dTup_c, dLst_c, dFor_c, dLc_c, iTp_c, tpK_c, iLst_c, lsK_d, lsK_m, iSeq_c, sqK_d, sqK_m, sqK_b, dSl_c, dNo_c, dPt_c, ptK_c, dYes_c, dBack_k, backK_c, dTupRg_c, dLstRg_c, dRg1_c, dRg2_c, rg1K_c, rg2K_c, tupRg_c, lstRg_c, dDict0_c, dDict1_c, gdName_c, gdTup_c, gdCons_c, gdNil_c, dApp_c, appK_c, apK_d, apK_m, dVar_c, varK_d, varK_m, varK_b, varK_s, varK_sc, varK_r, dNew_c, varK_mo, varK_bo, setK_mo, retK_mo, dDIn_c, dinK_i, dinK_s, dDGet_c, dDGet1_c, isBo_c, dget1K_i, dDPut_c, dputV_d, dputK_i, val_mo, dOwn0_c, dDispV_c, dispK_i, fRepT_c, fIsB_c, dM0_c, dM1_c, isStr_c, fQ0_c, fQ1_c, fSplit_c, fLenS_c, iEnSD_c, dSetdIf_c, setdB_f, enSK_m, enSK_d, dOrT_c, dAndT_c, orTK_n, dCallK_c, dCallK0_c, dCallD_c, dCallD0_c, dSaid_c, toldK_d, toldK_m, iRg1_c, rgK_c, iRg2_c, rgK2_c, iEnT_c, enK_c, iZp_c, zpK_tt, zpK_mm, zpK_ll, zpK_lm, zpK_ml, dPar_c, parK_im, parK_nm, parK_sm, parK_dd, parK_md, dRaiseF1_c])
local macro_rules | `(tactic| walk_at "dl1") => `(tactic| simp only [show ((0 : Nat) ≤ sizeLine) = True from eq_true (by decide), show ((1 : Nat) ≤ sizeLine) = True from eq_true (by decide), show ((2 : Nat) ≤ sizeLine) = True from eq_true (by decide), show ((3 : Nat) ≤ sizeLine) = True from eq_true (by decide), show ((4 : Nat) ≤ sizeLine) = True from eq_true (by decide), show ((5 : Nat) ≤ sizeLine) = True from eq_true (by decide), show ((6 : Nat) ≤ sizeLine) = True from eq_true (by decide), show ((7 : Nat) ≤ sizeLine) = True from eq_true (by decide), show ((8 : Nat) ≤ sizeLine) = True from eq_true (by decide), show ((9 : Nat) ≤ sizeLine) = True from eq_true (by decide), show ((10 : Nat) ≤ sizeLine) = True from eq_true (by decide), show ((11 : Nat) ≤ sizeLine) = True from eq_true (by decide), show ((12 : Nat) ≤ sizeLine) = True from eq_true (by decide), show ((13 : Nat) ≤ sizeLine) = True from eq_true (by decide), show ((14 : Nat) ≤ sizeLine) = True from eq_true (by decide), show ((15 : Nat) ≤ sizeLine) = True from eq_true (by decide), show ((16 : Nat) ≤ sizeLine) = True from eq_true (by decide), show ((17 : Nat) ≤ sizeLine) = True from eq_true (by decide), show ((18 : Nat) ≤ sizeLine) = True from eq_true (by decide), show ((19 : Nat) ≤ sizeLine) = True from eq_true (by decide), show ((20 : Nat) ≤ sizeLine) = True from eq_true (by decide), show ((21 : Nat) ≤ sizeLine) = True from eq_true (by decide), show ((22 : Nat) ≤ sizeLine) = True from eq_true (by decide), show ((23 : Nat) ≤ sizeLine) = True from eq_true (by decide), show ((24 : Nat) ≤ sizeLine) = True from eq_true (by decide), show ((25 : Nat) ≤ sizeLine) = True from eq_true (by decide), show ((26 : Nat) ≤ sizeLine) = True from eq_true (by decide), show ((27 : Nat) ≤ sizeLine) = True from eq_true (by decide), show ((28 : Nat) ≤ sizeLine) = True from eq_true (by decide), show ((29 : Nat) ≤ sizeLine) = True from eq_true (by decide), show ((30 : Nat) ≤ sizeLine) = True from eq_true (by decide), show ((31 : Nat) ≤ sizeLine) = True from eq_true (by decide), show ((32 : Nat) ≤ sizeLine) = True from eq_true (by decide), show ((33 : Nat) ≤ sizeLine) = True from eq_true (by decide), show ((34 : Nat) ≤ sizeLine) = True from eq_true (by decide), show ((35 : Nat) ≤ sizeLine) = True from eq_true (by decide), show ((36 : Nat) ≤ sizeLine) = True from eq_true (by decide), show ((37 : Nat) ≤ sizeLine) = True from eq_true (by decide), show ((38 : Nat) ≤ sizeLine) = True from eq_true (by decide), show ((39 : Nat) ≤ sizeLine) = True from eq_true (by decide), show ((40 : Nat) ≤ sizeLine) = True from eq_true (by decide), true_and])
section
variable {P : Program} {w : World} {K : PySem.W.Frag} {mg : Str → Option Value} {base : Heap} {C : Nat → Addr}
theorem fig2_nn (a : Str) : figD 2 a = .none ∨ ∃ p : Int, figD 2 a = .int p := by
  by_cases z : a.length ≤ 2
  · rw [figD_L z]
    rcases figL_nn a with e | ⟨n, e, _⟩
    · exact .inl e
    · exact .inr ⟨n, e⟩
  · exact .inl (figD_big (by omega))
/-- told, or refused at a line -/
def endsT (c : Addr) (Qd : Sl → Prop) (R : Er → Prop) : Int ⊕ PyData → Prop
  | .inl n => R (c, [("at", .int n)])
  | .inr d => Qd (.d d)
theorem sc_net_of_lines : FnScope ["lines", "places", "roads", "at", "line", "road"] ["lines"] (defScope s_net_of_lines) := ⟨rfl, rfl, rfl, by decide +kernel, rfl, by decide +kernel, by decide +kernel⟩
def sd_net_of_lines (C : Nat → Addr) : SpD := fun ss Qd R => ∃ ls : List Str, ss = [.d (.list (ls.map PyData.str))] ∧ ls ≠ [] ∧ (∀ l ∈ ls, LineOk l) ∧ ls.length ≤ 10000 ∧ endsT (C 13) Qd R (readL ls)
theorem c_net_of_lines (T : Tx P K mg C) : Cb P w K mg base (L2.CX P w) 4 "net_of_lines" ["lines"] (spD K [] (sd_net_of_lines C)) := by
  obtain ⟨f, fd, D⟩ := T.h_net_of_lines
  refine ⟨f, fd, okX (k := 3) D.F sc_net_of_lines (fun ss Qd R h => ?_) (fun cdv A outer s H E hr => ⟨_, (pss_cons (ps_set (i := 1) sc_net_of_lines.nd rfl (.inl rfl) (pe_cb (c_number_of_figures (K := K) T) (hr.mono (by decide)) (by rfl) pass0 (pa_cons (pe_ix (ix_seqK (K := K) rfl) (pv 0) pe_int (fun _ _ => rfl)) (pa_cons (pe_glob (v := .int 2) (by rfl) (T.c_MOST_FIGURES).choose_spec ⟨_, rfl⟩) pa_nil))))
    (pss_cons (ps_if (pt_not (pt_val (pe_cb (c_is_within (K := K) T) (hr.mono (by decide)) (by rfl) pass0 (pa_cons (pv 1) (pa_cons pe_int (pa_cons (pe_glob (v := .int 10) (by rfl) (T.c_MOST_PLACES).choose_spec ⟨_, rfl⟩) pa_nil)))))) (pss_one (ps_raiseF1K (K := K) rfl rfl (takes_of rfl rfl rfl rfl) (rai_NoText T.r_NoText) (hr.mono (by decide)) (by rfl) (pa_cons pe_int pa_nil))) pss_nil)
    (pss_cons (ps_set (i := 2) sc_net_of_lines.nd rfl (.inl rfl) (pe_lst pa_nil))
    (pss_cons (ps_for (passes_of rfl) rfl (pi_enumS (K := K) rfl (by decide) (by decide) (by rfl) T.enumerate (pa_cons (pe_slice (sl_anyK (K := K) rfl) (pv 0) (po_some pe_int) po_none) pa_nil) pe_int) (pg_tupK (n := 2) (K := K) rfl (by rfl) (pgs_cons (pg_name (i := 3) sc_net_of_lines.nd rfl (.inl rfl)) (pgs_cons (pg_name (i := 4) sc_net_of_lines.nd rfl (.inl rfl)) pgs_nil)))
    (pss_cons (ps_set (i := 5) sc_net_of_lines.nd rfl (.inl rfl) (pe_cb (c_parts_of_line (K := K) T) (hr.mono (by decide)) (by rfl) pass0 (pa_cons (pv 4) pa_nil)))
    (pss_cons (ps_if (PW.pt (pw_or (pt_cmpR op_gt (pv 3) (pe_glob (v := .int 30) (by rfl) (T.c_MOST_ROADS).choose_spec ⟨_, rfl⟩) (nomark _)) (pw_or1 (pt_not (pt_val (pe_cb (c_is_road_among (K := K) T) (hr.mono (by decide)) (by rfl) pass0 (pa_cons (pv 1) (pa_cons (pv 5) pa_nil)))))))) (pss_one (ps_raiseF1K (K := K) rfl rfl (takes_of rfl rfl rfl rfl) (rai_NoText T.r_NoText) (hr.mono (by decide)) (by rfl) (pa_cons (pv 3) pa_nil))) pss_nil)
    (pss_one (ps_expr (pe_bmK (K := K) rfl PySem.F.plainAttrs_list PySem.F.slot_list_append PySem.F.type_list_append mt_append (pv 2) (pa_cons (pv 5) pa_nil)))))))
    (pss_one (ps_ret (pe_tup (pa_cons (pv 1) (pa_cons (pe_callTy (call_tupleK (K := K) rfl) (by rfl) T.tuple (by decide +kernel) (pa_cons (pv 2) pa_nil)) pa_nil))))))))), ?_⟩), D.g, D.F.kp, D.b⟩
  · obtain ⟨_, rfl, _⟩ := h
    rfl
  · refine ⟨_, fun τ => inferInstance, fun ss Qd R h => ?_⟩
    obtain ⟨ls, rfl, ne, hl, hn, h⟩ := h
    cases ls with
    | nil => exact absurd rfl ne
    | cons l0 ls =>
      have k0 := hl l0 List.mem_cons_self
      try walk_at "dl2"
      refine fIx_l (n := 0) rfl ?_
      try walk_at "dl2"
      refine ⟨l0, 2, rfl, by decide, k0.len, ?_⟩
      try walk_at "dl2"
      refine ⟨figD 2 l0, 1, 10, rfl, ?_⟩
      have h : endsT (C 13) Qd R (match figD 2 l0 with
        | .int p => if 1 ≤ p ∧ p ≤ 10 then scanL p 1 ls [] else .inl 0
        | _ => .inl 0) := h
      rcases fig2_nn l0 with e | ⟨p, e⟩
      · rw [e] at h ⊢
        rw [show withinD 1 10 PyData.none = false from rfl]
        try walk_at "dl2"
        exact ⟨_, rfl, h⟩
      rw [e] at h ⊢
      by_cases hp : 1 ≤ p ∧ p ≤ 10
      · have h : endsT (C 13) Qd R (if 1 ≤ p ∧ p ≤ 10 then scanL p 1 ls [] else .inl 0) := h
        rw [if_pos hp] at h
        rw [withinD_of hp.1 hp.2]
        try walk_at "dl2"
        try walk_at "dl1"
        rw [show cutD (PyData.str l0 :: ls.map PyData.str) (some 1) none = ls.map PyData.str from by
          rw [show (some (1 : Int)) = some (((1 : Nat) : Int)) from rfl, cutD_drop (by simp)]
          rfl]
        have hnl : ls.length ≤ 10000 := by
          rw [List.length_cons] at hn
          omega
        generalize hS : scanL p 1 ls [] = S at h
        refine forD_by (fun i ρ => ∃ acc y3 y4 y5, ρ = [.d (.list (PyData.str l0 :: ls.map PyData.str)), .d (.int p), .ml acc, y3, y4, y5] ∧ acc.length ≤ i ∧ scanL p (1 + i) (ls.drop i) acc = S) ⟨_, _, _, _, rfl, Nat.le_refl _, hS⟩ (fun i d ρ N hd h2 hN => ?_) (fun ρ h2 => ?_)
        · obtain ⟨acc, y3, y4, y5, rfl, ha, hs⟩ := h2
          obtain ⟨x, ex, rfl⟩ := enumFrom_get hd
          rw [List.getElem?_map] at ex
          obtain ⟨l, el, rfl⟩ := Option.map_eq_some_iff.mp ex
          have kl := hl l (List.mem_cons_of_mem _ (List.mem_of_getElem? el))
          have hi : i < ls.length := (List.getElem?_eq_some_iff.mp el).1
          rw [show ls.drop i = l :: ls.drop (i + 1) from by rw [List.drop_eq_getElem_cons hi]; congr 1; exact Option.some.inj ((List.getElem?_eq_getElem hi).symm.trans el)] at hs
          have hs : (if roadD p (.tuple ((Txt.split l " ").map (figD 2))) = false ∨ 30 < 1 + i then Sum.inl (((1 + i : Nat) : Int)) else scanL p (1 + i + 1) (ls.drop (i + 1)) (acc ++ [.tuple ((Txt.split l " ").map (figD 2))])) = S := hs
          try walk_at "dl2"
          refine ⟨l, rfl, kl.len, fun w hw => (kl.wds w hw).1, kl.num, ?_⟩
          try walk_at "dl2"
          by_cases h30 : 30 < 1 + i
          · rw [if_pos (.inr h30)] at hs
            rw [decide_eq_true (show (30 : Int) < 1 + (i : Int) by omega)]
            try walk_at "dl2"
            rw [← hs] at h
            refine ⟨_, rfl, ?_⟩
            rw [show (1 : Int) + (i : Int) = ((1 + i : Nat) : Int) by omega]
            exact h
          · rw [decide_eq_false (show ¬ ((30 : Int) < 1 + (i : Int)) by omega)]
            try walk_at "dl2"
            refine ⟨_, p, rfl, ?_⟩
            cases er : roadD p (.tuple ((Txt.split l " ").map (figD 2))) with
            | false =>
              rw [if_pos (.inl er)] at hs
              try walk_at "dl2"
              rw [← hs] at h
              refine ⟨_, rfl, ?_⟩
              rw [show (1 : Int) + (i : Int) = ((1 + i : Nat) : Int) by omega]
              exact h
            | true =>
              rw [if_neg (fun z => z.elim (fun z => by rw [er] at z; cases z) h30)] at hs
              try walk_at "dl2"
              refine ⟨line_1000 (by omega), hN _ ⟨_, _, _, _, rfl, by rw [List.length_append, List.length_singleton]; omega, ?_⟩⟩
              rw [show 1 + (i + 1) = 1 + i + 1 from by omega]
              exact hs
        · obtain ⟨acc, y3, y4, y5, rfl, ha, hs⟩ := h2
          rw [enumFrom_len, List.length_map, List.drop_length] at hs
          rw [← hs] at h
          try walk_at "dl2"
          try walk_at "dl1"
          exact h
      · have h : endsT (C 13) Qd R (if 1 ≤ p ∧ p ≤ 10 then scanL p 1 ls [] else .inl 0) := h
        rw [if_neg hp] at h
        rw [show withinD 1 10 (.int p) = false from by
          unfold withinD
          simp only [Bool.and_eq_false_iff, decide_eq_false_iff_not]
          omega]
        try walk_at "dl2"
        exact ⟨_, rfl, h⟩
theorem sc_net_read : FnScope ["text"] ["text"] (defScope s_net_read) := ⟨rfl, rfl, rfl, by decide +kernel, rfl, by decide +kernel, by decide +kernel⟩
def sd_net_read (C : Nat → Addr) : SpD := fun ss Qd R => ∃ x, ss = [.d x] ∧ (∀ a, x = .str a → TextOk a) ∧ endsT (C 13) Qd R (readD x)
theorem c_net_read (T : Tx P K mg C) : Cb P w K mg base (L2.CX P w) 5 "net_read" ["text"] (spD K [] (sd_net_read C)) := by
  obtain ⟨f, fd, D⟩ := T.h_net_read
  refine ⟨f, fd, okX (k := 4) D.F sc_net_read (fun ss Qd R h => ?_) (fun cdv A outer s H E hr => ⟨_, (pss_cons (ps_if (pt_not (pt_val (pe_callB (call_isiQ (K := K) rfl) (by rfl) T.isinstance (by decide +kernel) (pa_cons (pv 0) (pa_cons (pe_bltn (v := .ty "str") (by rfl) T.str (by decide +kernel) rfl) pa_nil))))) (pss_one (ps_raiseF1K (K := K) rfl rfl (takes_of rfl rfl rfl rfl) (rai_NoText T.r_NoText) (hr.mono (by decide)) (by rfl) (pa_cons (pe_un un_neg pe_int) pa_nil))) pss_nil)
    (pss_one (ps_ret (pe_cb (c_net_of_lines (K := K) T) (hr.mono (by decide)) (by rfl) (passes_call (takes_of rfl rfl rfl rfl) fun _ _ _ _ h => h) (pa_cons (pe_splitK (pv 0) pe_str) pa_nil))))), ?_⟩), D.g, D.F.kp, D.b⟩
  · obtain ⟨_, rfl, _⟩ := h
    rfl
  · refine ⟨_, fun τ => inferInstance, fun ss Qd R h => ?_⟩
    obtain ⟨x, rfl, hx, q⟩ := h
    cases x with
    | str a =>
      have ok := hx a rfl
      try walk_at "dl2"
      refine ⟨.inr (.inr (.inr (.inr (.inl rfl)))), ?_⟩
      rw [show isiD (tyD (PyData.str a)) "str" = true from rfl]
      try walk_at "dl2"
      refine ⟨by decide +kernel, Nat.le_of_lt (line_1000 (by have := ok.len; omega)), ?_⟩
      exact ⟨_, rfl, ok.ne, ok.lns, ok.num, q⟩
    | _ =>
      try walk_at "dl2"
      refine ⟨.inr (.inr (.inr (.inr (.inl rfl)))), ?_⟩
      try walk_at "dl2"
      exact ⟨_, rfl, q⟩
end
end Wy

namespace Dl
open PySem PySem.Spec PyProof.Rows L2
/-! ### parts of a text -/
theorem spl_part (S : List Nat) : ∀ (k : Nat) (acc cs p : List Nat), p ∈ TL.spl S k acc cs → (∀ c ∈ p, c ∈ acc ∨ c ∈ cs) ∧ p.length ≤ acc.length + cs.length
  | _, acc, [], p, h => by
    have h : p ∈ [acc] := by
      unfold TL.spl at h
      exact h
    rw [List.mem_singleton.mp h]
    exact ⟨fun c hc => .inl hc, Nat.le_add_right _ _⟩
  | 0, acc, c :: r, p, h => by
    unfold TL.spl at h
    split at h
    · rcases List.mem_cons.mp h with rfl | h
      · exact ⟨fun c hc => .inl hc, Nat.le_add_right _ _⟩
      · obtain ⟨a, b⟩ := spl_part S _ [] r p h
        refine ⟨fun x hx => (a x hx).elim (fun z => nomatch z) (fun z => .inr (List.mem_cons_of_mem _ z)), ?_⟩
        rw [List.length_nil] at b
        rw [List.length_cons]
        omega
    · obtain ⟨a, b⟩ := spl_part S _ (acc ++ [c]) r p h
      refine ⟨fun x hx => ?_, ?_⟩
      · rcases a x hx with z | z
        · rcases List.mem_append.mp z with z | z
          · exact .inl z
          · rw [List.mem_singleton.mp z]
            exact .inr List.mem_cons_self
        · exact .inr (List.mem_cons_of_mem _ z)
      · rw [List.length_append, List.length_singleton] at b
        rw [List.length_cons]
        omega
  | k + 1, acc, c :: r, p, h => by
    unfold TL.spl at h
    obtain ⟨a, b⟩ := spl_part S k acc r p h
    refine ⟨fun x hx => (a x hx).imp id (List.mem_cons_of_mem _), ?_⟩
    rw [List.length_cons]
    omega
theorem spl_num (S : List Nat) : ∀ (k : Nat) (acc cs : List Nat), (TL.spl S k acc cs).length ≤ cs.length + 1 ∧ TL.spl S k acc cs ≠ []
  | _, acc, [] => by
    unfold TL.spl
    exact ⟨Nat.le_refl _, List.cons_ne_nil _ _⟩
  | 0, acc, c :: r => by
    unfold TL.spl
    split
    · have := (spl_num S (S.length - 1) [] r).1
      refine ⟨?_, List.cons_ne_nil _ _⟩
      rw [List.length_cons, List.length_cons]
      omega
    · have := spl_num S 0 (acc ++ [c]) r
      refine ⟨?_, this.2⟩
      rw [List.length_cons]
      have := this.1
      omega
  | k + 1, acc, c :: r => by
    unfold TL.spl
    have := spl_num S k acc r
    refine ⟨?_, this.2⟩
    rw [List.length_cons]
    have := this.1
    omega
theorem kind_1 (a : Str) : 1 ≤ Builtin.Str.strKind a := by
  unfold Builtin.Str.strKind
  split
  · decide
  · split <;> decide
theorem split_eq {a y : Str} (hy : TL.tl y ≠ []) (hk : Builtin.Str.strKind y = 1) : (Txt.split a y).map TL.tl = TL.spl (TL.tl y) 0 [] (TL.tl a) := TL.split_spl a y hy (by have := kind_1 a; omega)
theorem tl_len (a : Str) : (TL.tl a).length = a.length := Array.length_toList
theorem split_part {a y w : Str} (hy : TL.tl y ≠ []) (hk : Builtin.Str.strKind y = 1) (hw : w ∈ Txt.split a y) : (∀ c ∈ TL.tl w, c ∈ TL.tl a) ∧ w.length ≤ a.length := by
  have hm : TL.tl w ∈ TL.spl (TL.tl y) 0 [] (TL.tl a) := by
    rw [← split_eq hy hk]
    exact List.mem_map_of_mem hw
  obtain ⟨h1, h2⟩ := spl_part _ _ _ _ _ hm
  refine ⟨fun c hc => (h1 c hc).elim (fun z => nomatch z) id, ?_⟩
  rw [tl_len, tl_len, List.length_nil] at h2
  omega
theorem split_num {a y : Str} (hy : TL.tl y ≠ []) (hk : Builtin.Str.strKind y = 1) : (Txt.split a y).length ≤ a.length + 1 ∧ Txt.split a y ≠ [] := by
  have h := spl_num (TL.tl y) 0 [] (TL.tl a)
  rw [← split_eq hy hk, List.length_map, tl_len] at h
  exact ⟨h.1, fun z => h.2 (by rw [z]; rfl)⟩
/-- the parts and the signs between them: no more than the text -/
theorem spl_sum (S : List Nat) : ∀ (k : Nat) (acc cs : List Nat), ((TL.spl S k acc cs).map List.length).sum + (TL.spl S k acc cs).length ≤ acc.length + cs.length + 1
  | _, acc, [] => by
    unfold TL.spl
    simp
  | 0, acc, c :: r => by
    unfold TL.spl
    split
    · have := spl_sum S (S.length - 1) [] r
      rw [List.length_nil] at this
      rw [List.map_cons, List.sum_cons, List.length_cons, List.length_cons]
      omega
    · have := spl_sum S 0 (acc ++ [c]) r
      rw [List.length_append, List.length_singleton] at this
      rw [List.length_cons]
      omega
  | k + 1, acc, c :: r => by
    unfold TL.spl
    have := spl_sum S k acc r
    rw [List.length_cons]
    omega
theorem split_sum {a y : Str} (hy : TL.tl y ≠ []) (hk : Builtin.Str.strKind y = 1) : ((Txt.split a y).map Str.length).sum + (Txt.split a y).length ≤ a.length + 1 := by
  have h := spl_sum (TL.tl y) 0 [] (TL.tl a)
  rw [← split_eq hy hk, List.map_map, List.length_map, tl_len, List.length_nil] at h
  rw [show (Txt.split a y).map Str.length = (Txt.split a y).map (List.length ∘ TL.tl) from List.map_congr_left fun w _ => (tl_len w).symm]
  omega
/-- a text of plain signs, at most n of them -/
structure Plain (a : Str) (n : Nat) : Prop where
  sig : ∀ c ∈ TL.tl a, c < 128
  len : a.length ≤ n
theorem Plain.mono {a : Str} {n m : Nat} (h : Plain a n) (l : n ≤ m) : Plain a m := ⟨h.sig, Nat.le_trans h.len l⟩
theorem Plain.cat {a b : Str} {n m : Nat} (h : Plain a n) (g : Plain b m) : Plain (a ++ b) (n + m) := by
  refine ⟨fun c hc => ?_, ?_⟩
  · rw [TL.tl_append] at hc
    exact (List.mem_append.mp hc).elim (h.sig c) (g.sig c)
  · rw [PySem.strLen_append]
    have := h.len
    have := g.len
    omega
theorem Plain.cut {a : Str} {n : Nat} (h : Plain a n) (lo hi : Option Int) : Plain (cutS a lo hi) n := by
  have e : TL.tl (cutS a lo hi) = (a.cps.toList.drop (HT.sIx a.length 0 lo)).take (HT.sIx a.length a.length hi - HT.sIx a.length 0 lo) := by
    show (List.toArray _).toList = _
    rfl
  refine ⟨fun c hc => ?_, ?_⟩
  · rw [e] at hc
    exact h.sig c (List.mem_of_mem_drop (List.mem_of_mem_take hc))
  · rw [← tl_len, e, List.length_take, List.length_drop]
    have h1 : a.cps.toList.length = a.length := Array.length_toList
    have := h.len
    omega
theorem Plain.sign {c : Nat} (h : c < 128) : Plain ⟨#[c]⟩ 1 := ⟨fun x hx => by
  have hx : x ∈ [c] := hx
  rw [List.mem_singleton.mp hx]
  exact h, Nat.le_refl _⟩
theorem plain_text {a : Str} (h : a.cps.toList.all (fun c => decide (c < 128)) = true) : Plain a a.length := ⟨fun c hc => of_decide_eq_true (List.all_eq_true.mp h c hc), Nat.le_refl _⟩
end Dl

set_option synthInstance.maxHeartbeats 2000000
set_option synthInstance.maxSize 100000
namespace Wy
open PySem PySem.Spec PyProof.Rows L2 Dl
section
variable {P : Program} {w : World} {K : PySem.W.Frag} {mg : Str → Option Value} {base : Heap} {C : Nat → Addr}
theorem line_ok {l : Str} (h : ∀ c ∈ TL.tl l, c < 128) (hl : l.length ≤ 9999) : LineOk l := by
  have hy : TL.tl (" " : Str) ≠ [] := by decide +kernel
  have hk : Builtin.Str.strKind (" " : Str) = 1 := by decide +kernel
  refine ⟨by omega, h, fun w hw => ?_, ?_⟩
  · obtain ⟨a, b⟩ := split_part hy hk hw
    exact ⟨by omega, fun c hc => h c (a c hc)⟩
  · have := (split_num (a := l) hy hk).1
    omega
theorem text_ok {l : Str} (h : ∀ c ∈ TL.tl l, c < 128) (hl : l.length ≤ 9999) : TextOk l := by
  have hy : TL.tl ("\n" : Str) ≠ [] := by decide +kernel
  have hk : Builtin.Str.strKind ("\n" : Str) = 1 := by decide +kernel
  refine ⟨by omega, fun w hw => ?_, ?_, (split_num (a := l) hy hk).2⟩
  · obtain ⟨a, b⟩ := split_part hy hk hw
    exact line_ok (fun c hc => h c (a c hc)) (by omega)
  · have := (split_num (a := l) hy hk).1
    omega
end
end Wy

set_option synthInstance.maxHeartbeats 2000000
set_option synthInstance.maxSize 100000
namespace Wy
open PySem PySem.Spec PyProof.Rows L2 Dl
local macro_rules | `(tactic| walk_at "dl2") => `(tactic| simp only [startD, iEn, cvs, cv, vS, Sl.dat, Sl.seq, Sl.sq, Sl.fz, dats, dSetI, dAug, wipeD, List.length_cons, List.length_nil, List.length_append, List.length_replicate, Nat.reduceAdd, Nat.reduceSub, Nat.zero_add, List.replicate_succ, List.replicate_zero, List.cons_append, List.nil_append, List.append_nil, List.set_cons_zero, List.set_cons_succ, List.set_nil, List.getElem?_cons_zero, List.getElem?_cons_succ, Option.getD_some, List.map_cons, List.map_nil, Option.bind_some, fI0_c, fI_c, fU_c, fAddX_i, fAddX_t, fAddX_s, fAddX_mm, fAddX_bm, fAddX_mb, fAddX_bb, fAddX_lm, fAddX_ll, fMulX_i, fMulX_m, fSlX_t, fSlX_m, fSlX_b, fSlX_l, fIs_n, fIs_i, fIs_b, fIs_s, fIs_l, fIs_t, fIs_m, fIs_bl, fLen_t, fLen_l, fLen_m, fLen_b, fLen_scr, fIsi_c, fEqD_c, fEqD_mm, fEqD_bm, fEqD_bb, fEqD_dm, fEq_ss, fInt_i, fInt_b, fTuple_m, fTuple_b, fTuple_t, fTuple_l, fList_m, fList_b, fList_t, fList_l, f2I_c, fRepr_c, fRepr_m, fRepr_b, fStr_c, Bool.not_true, Bool.not_false, true_and, netT, Road.dt, reduceIte, Bool.false_eq_true, decide_true, decide_false, tupK, lstK, dNext_c, dBreak_c, dCont_c, dSeq_c, dDrop_c, dRet_c, retK_d, retK_m, retK_r, dRetN_c, dIfS_c, iteS_t, iteS_f, dSet_c, setK_d, setK_m, setK_s, setK_r, dAsg_c, asgK_d, asgK_m, dFz_c, dNever_c, dRaise_c, dC_c, dOp_c, dUn_c, dTst_c, tstK_c, dTru_c, truK_n, truK_b, truK_i, truK_t, truK_l, truK_m, truK_bl, dNot_c, dAnd_c, andK_t, andK_f, dOr_c, orK_t, orK_f, dAndV_c, andV_t, andV_f, dOrV_c, orV_t, orV_f, dNotV_c, dIf_c, iteE_t, iteE_f, dChain_c, chK_t, chK_f, dNil_c, dCons_c, dCB_c, dCall_c, dCall0_c, dTup_c, dLst_c, dFor_c, dLc_c, iTp_c, tpK_c, iLst_c, lsK_d, lsK_m, iSeq_c, sqK_d, sqK_m, sqK_b, dSl_c, dNo_c, dPt_c, ptK_c, dYes_c, dBack_k, backK_c, dTupRg_c, dLstRg_c, dRg1_c, dRg2_c, rg1K_c, rg2K_c, tupRg_c, lstRg_c, dDict0_c, dDict1_c, gdName_c, gdTup_c, gdCons_c, gdNil_c, dApp_c, appK_c, apK_d, apK_m, dVar_c, varK_d, varK_m, varK_b, varK_s, varK_sc, varK_r, dNew_c, varK_mo, varK_bo, setK_mo, retK_mo, dDIn_c, dinK_i, dinK_s, dDGet_c, dDGet1_c, isBo_c, dget1K_i, dDPut_c, dputV_d, dputK_i, val_mo, dOwn0_c, dDispV_c, dispK_i, fRepT_c, fIsB_c, dM0_c, dM1_c, isStr_c, fQ0_c, fQ1_c, fSplit_c, fLenS_c, iEnSD_c, dSetdIf_c, setdB_f, enSK_m, enSK_d, dOrT_c, dAndT_c, orTK_n, dCallK_c, dCallK0_c, dCallD_c, dCallD0_c, dSaid_c, toldK_d, toldK_m, iRg1_c, rgK_c, iRg2_c, rgK2_c, iEnT_c, enK_c, iZp_c, zpK_tt, zpK_mm, zpK_ll, zpK_lm, zpK_ml, dPar_c, parK_im, parK_nm, parK_sm, parK_dd, parK_md, dRaiseF1_c])
section
variable {P : Program} {w : World} {K : PySem.W.Frag} {mg : Str → Option Value} {base : Heap} {C : Nat → Addr}
theorem fIxD_at {xs : List PyData} {n : Nat} {d : PyData} {Qd : Sl → Prop} (e : xs[n]? = some d) (h : Qd (.d d)) : fIx (.d (.list xs)) (.d (.int (n : Int))) Qd := fIxL_at (s := .d (.list xs)) rfl e h
def numS (n : Int) : Str := Str.ofString (toString n)
def lineS (q : Road) : Str := Txt.join " " [numS q.one, numS q.other, numS q.cost, numS q.time]
def netS (p : Int) (rs : List Road) : Str := Txt.join "\n" (numS p :: rs.map lineS)
theorem num_small : ∀ n : Nat, n < 101 → (numS n).length ≤ 3 ∧ ((n : Int).natAbs.log2 < 1920) := by decide +kernel
theorem num_small2 : ∀ n : Nat, n < 100 → (numS n).length ≤ 2 := by decide +kernel
theorem num_fig : ∀ n : Nat, n < 100 → Txt.isascii (numS n) = true ∧ Txt.isdigit (numS n) = true ∧ (Txt.startswith (numS n) "0" && !(numS n == ("0" : Str))) = false ∧ PySem.intText? (numS n) = some (n : Int) := by decide +kernel
theorem fig_num {n : Int} (h0 : 0 ≤ n) (h1 : n ≤ 99) : figD 2 (numS n) = .int n := by
  obtain ⟨m, rfl⟩ := Int.eq_ofNat_of_zero_le h0
  have hm : m < 100 := by omega
  obtain ⟨a, b, c, d⟩ := num_fig m hm
  have e := num_small2 m hm
  unfold figD
  rw [a, b, c, d, decide_eq_false (by omega)]
  rfl
theorem num_len {n : Int} (h0 : 0 ≤ n) (h1 : n ≤ 100) : (numS n).length ≤ 3 := by
  obtain ⟨m, rfl⟩ := Int.eq_ofNat_of_zero_le h0
  exact (num_small m (by omega)).1
theorem num_log {n : Int} (h0 : 0 ≤ n) (h1 : n ≤ 100) : n.natAbs.log2 < 1920 := by
  obtain ⟨m, rfl⟩ := Int.eq_ofNat_of_zero_le h0
  exact (num_small m (by omega)).2
theorem num_tl {n : Int} (h0 : 0 ≤ n) {s : Nat} (h : s < 48 ∨ 57 < s) : s ∉ TL.tl (numS n) := by
  obtain ⟨m, rfl⟩ := Int.eq_ofNat_of_zero_le h0
  unfold numS
  rw [TL.tl_num]
  exact TL.numL_free h
theorem mem_joinL {S : List Nat} {x : Nat} : ∀ {ps : List (List Nat)}, x ∈ TL.joinL S ps → x ∈ S ∨ ∃ p ∈ ps, x ∈ p
  | [], h => nomatch h
  | [p], h => .inr ⟨p, List.mem_cons_self, h⟩
  | p :: q :: r, h => by
    have h : x ∈ p ++ (S ++ TL.joinL S (q :: r)) := h
    rcases List.mem_append.mp h with h | h
    · exact .inr ⟨p, List.mem_cons_self, h⟩
    · rcases List.mem_append.mp h with h | h
      · exact .inl h
      · exact (mem_joinL h).imp id fun ⟨y, hy, z⟩ => ⟨y, List.mem_cons_of_mem _ hy, z⟩
theorem road_nums {p : Int} {q : Road} (h : RoadOk p q) (hp : p ≤ 10) : ∀ w ∈ [q.one, q.other, q.cost, q.time], 0 ≤ w ∧ w ≤ 99 := fun w hw => by
  have := h.o1
  have := h.o2
  have := h.t1
  have := h.t2
  have := h.c1
  have := h.c2
  have := h.m1
  have := h.m2
  simp only [List.mem_cons, List.not_mem_nil, or_false] at hw
  rcases hw with rfl | rfl | rfl | rfl <;> omega
theorem line_split {p : Int} {q : Road} (h : RoadOk p q) (hp : p ≤ 10) : Txt.split (lineS q) " " = [numS q.one, numS q.other, numS q.cost, numS q.time] := by
  unfold lineS
  refine TL.split_join (s := 32) (S := []) rfl (by decide +kernel) (List.cons_ne_nil _ _) fun w hw => ?_
  have := road_nums h hp
  simp only [List.mem_cons, List.not_mem_nil, or_false] at hw this
  rcases hw with rfl | rfl | rfl | rfl
  · exact num_tl (this _ (.inl rfl)).1 (.inl (by decide))
  · exact num_tl (this _ (.inr (.inl rfl))).1 (.inl (by decide))
  · exact num_tl (this _ (.inr (.inr (.inl rfl)))).1 (.inl (by decide))
  · exact num_tl (this _ (.inr (.inr (.inr rfl)))).1 (.inl (by decide))
theorem line_tl {p : Int} {q : Road} (h : RoadOk p q) (hp : p ≤ 10) : 10 ∉ TL.tl (lineS q) := by
  unfold lineS
  rw [TL.join_eq, TL.tl_join]
  intro hm
  have this := road_nums h hp
  simp only [List.mem_cons, List.not_mem_nil, or_false] at this
  rcases mem_joinL hm with z | ⟨y, hy, z⟩
  · have : (10 : Nat) ∈ [32] := z
    exact absurd this (by decide)
  · simp only [List.map_cons, List.map_nil, List.mem_cons, List.not_mem_nil, or_false] at hy
    rcases hy with rfl | rfl | rfl | rfl
    · exact num_tl (this _ (.inl rfl)).1 (.inl (by decide)) z
    · exact num_tl (this _ (.inr (.inl rfl))).1 (.inl (by decide)) z
    · exact num_tl (this _ (.inr (.inr (.inl rfl)))).1 (.inl (by decide)) z
    · exact num_tl (this _ (.inr (.inr (.inr rfl)))).1 (.inl (by decide)) z
theorem net_split {p : Int} {rs : List Road} (ok : NetOk p rs) : Txt.split (netS p rs) "\n" = numS p :: rs.map lineS := by
  have p1 := ok.p1
  have p2 := ok.p2
  unfold netS
  refine TL.split_join (s := 10) (S := []) rfl (by decide +kernel) (List.cons_ne_nil _ _) fun w hw => ?_
  rcases List.mem_cons.mp hw with rfl | hw
  · exact num_tl (by omega) (.inl (by decide))
  · obtain ⟨q, hq, rfl⟩ := List.mem_map.mp hw
    exact line_tl (ok.all q hq) p2
theorem line_cat (a b c d : Str) : a ++ " " ++ b ++ " " ++ c ++ " " ++ d = Txt.join " " [a, b, c, d] := by
  rw [TL.join_eq]
  have inj : ∀ {x y : Str}, TL.tl x = TL.tl y → x = y := fun {x y} h => by
    have := TL.map_tl_inj (l := [x]) (m := [y]) (by simp [h])
    simpa using this
  refine inj ?_
  rw [TL.tl_join]
  show TL.tl _ = TL.tl a ++ (TL.tl _ ++ (TL.tl b ++ (TL.tl _ ++ (TL.tl c ++ (TL.tl _ ++ TL.tl d)))))
  rw [TL.tl_append, TL.tl_append, TL.tl_append, TL.tl_append, TL.tl_append, TL.tl_append]
  simp only [List.append_assoc]
theorem sum_le {c : Nat} : ∀ {xs : List Nat}, (∀ x ∈ xs, x ≤ c) → xs.sum ≤ xs.length * c
  | [], _ => by simp
  | x :: r, h => by
    have h1 := h x List.mem_cons_self
    have h2 := sum_le (xs := r) fun y hy => h y (List.mem_cons_of_mem _ hy)
    rw [List.sum_cons, List.length_cons, Nat.add_mul, Nat.one_mul]
    omega
theorem line_len {p : Int} {q : Road} (h : RoadOk p q) (hp : p ≤ 10) : (lineS q).length ≤ 15 := by
  have rn := road_nums h hp
  have l1 := num_len (rn q.one (by simp)).1 (by have := (rn q.one (by simp)).2; omega)
  have l2 := num_len (rn q.other (by simp)).1 (by have := (rn q.other (by simp)).2; omega)
  have l3 := num_len (rn q.cost (by simp)).1 (by have := (rn q.cost (by simp)).2; omega)
  have l4 := num_len (rn q.time (by simp)).1 (by have := (rn q.time (by simp)).2; omega)
  unfold lineS
  rw [← line_cat]
  have e1 : ((" " : Str)).length = 1 := rfl
  simp only [PySem.strLen_append, e1]
  omega
theorem net_lens {p : Int} {rs : List Road} (ok : NetOk p rs) : ∀ w ∈ numS p :: rs.map lineS, w.length ≤ 15 := fun w hw => by
  have p1 := ok.p1
  have p2 := ok.p2
  rcases List.mem_cons.mp hw with rfl | hw
  · have := num_len (n := p) (by omega) (by omega)
    omega
  · obtain ⟨q, hq, rfl⟩ := List.mem_map.mp hw
    exact line_len (ok.all q hq) p2
theorem net_sum {p : Int} {rs : List Road} (ok : NetOk p rs) : ((numS p :: rs.map lineS).map (·.length)).sum + (numS p :: rs.map lineS).length * (("\n" : Str)).length ≤ 16777216 := by
  have l30 := ok.len
  have h := sum_le (c := 15) (xs := (numS p :: rs.map lineS).map (·.length)) fun x hx => by
    obtain ⟨w, hw, rfl⟩ := List.mem_map.mp hx
    exact net_lens ok w hw
  have e1 : (("\n" : Str)).length = 1 := rfl
  rw [List.length_map] at h
  have e2 : (numS p :: rs.map lineS).length ≤ 31 := by
    rw [List.length_cons, List.length_map]
    omega
  rw [e1]
  omega
theorem join_len (a : Str) : ∀ ys : List Str, (Txt.join a ys).length ≤ (ys.map (·.length)).sum + ys.length * a.length := fun ys => by
  rw [TL.join_eq]
  have key : ∀ ys : List Str, (Str.join a ys).length ≤ (ys.map (·.length)).sum + ys.length * a.length := by
    intro ys
    induction ys with
    | nil => exact Nat.zero_le _
    | cons y r ih =>
      cases r with
      | nil =>
        show y.length ≤ _
        simp only [List.map_cons, List.map_nil, List.sum_cons, List.sum_nil]
        omega
      | cons z r =>
        show (y ++ a ++ Str.join a (z :: r)).length ≤ _
        rw [PySem.strLen_append, PySem.strLen_append]
        rw [List.map_cons, List.sum_cons, List.length_cons, Nat.add_mul, Nat.one_mul]
        omega
  exact key ys
theorem net_len {p : Int} {rs : List Road} (ok : NetOk p rs) : (netS p rs).length ≤ 1000 := by
  have l30 := ok.len
  have h := join_len "\n" (numS p :: rs.map lineS)
  have h2 := sum_le (c := 15) (xs := (numS p :: rs.map lineS).map (·.length)) fun x hx => by
    obtain ⟨w, hw, rfl⟩ := List.mem_map.mp hx
    exact net_lens ok w hw
  have e1 : (("\n" : Str)).length = 1 := rfl
  rw [List.length_map] at h2
  rw [e1] at h
  have e2 : (numS p :: rs.map lineS).length ≤ 31 := by
    rw [List.length_cons, List.length_map]
    omega
  unfold netS
  omega
theorem num_sig {n : Int} (h0 : 0 ≤ n) : ∀ c ∈ TL.tl (numS n), c < 128 := fun c hc => by
  by_cases z : c < 48 ∨ 57 < c
  · exact absurd hc (num_tl h0 z)
  · omega
theorem join_sig {y : Str} {ps : List Str} (hy : ∀ c ∈ TL.tl y, c < 128) (h : ∀ w ∈ ps, ∀ c ∈ TL.tl w, c < 128) : ∀ c ∈ TL.tl (Txt.join y ps), c < 128 := fun c hc => by
  rw [TL.join_eq, TL.tl_join] at hc
  rcases mem_joinL hc with z | ⟨p, hp, z⟩
  · exact hy c z
  · obtain ⟨w, hw, rfl⟩ := List.mem_map.mp hp
    exact h w hw c z
theorem net_plain {p : Int} {rs : List Road} (ok : NetOk p rs) : Plain (netS p rs) 1000 := by
  have p1 := ok.p1
  refine ⟨join_sig (by decide +kernel) fun w hw => ?_, net_len ok⟩
  rcases List.mem_cons.mp hw with rfl | hw
  · exact num_sig (by omega)
  · obtain ⟨q, hq, rfl⟩ := List.mem_map.mp hw
    have rn := road_nums (ok.all q hq) ok.p2
    refine join_sig (by decide +kernel) fun w hw => ?_
    obtain ⟨n, hn, rfl⟩ : ∃ n, n ∈ [q.one, q.other, q.cost, q.time] ∧ w = numS n := by
      simp only [List.mem_cons, List.not_mem_nil, or_false] at hw
      rcases hw with rfl | rfl | rfl | rfl
      · exact ⟨_, by simp, rfl⟩
      · exact ⟨_, by simp, rfl⟩
      · exact ⟨_, by simp, rfl⟩
      · exact ⟨_, by simp, rfl⟩
    exact num_sig (rn n hn).1
theorem sc_net_text : FnScope ["net", "places", "roads", "part", "road"] ["net"] (defScope s_net_text) := ⟨rfl, rfl, rfl, by decide +kernel, rfl, by decide +kernel, by decide +kernel⟩
def sd_net_text (C : Nat → Addr) : SpD := fun ss Qd R => ∃ x, ss = [.d x] ∧ (∀ a rs, x = .tuple [a, .tuple rs] → rs.length ≤ 1000) ∧ ((netD x = false ∧ R (C 0, [])) ∨ ∃ (p : Int) (rs : List Road), x = netT p rs ∧ NetOk p rs ∧ Qd (.d (.str (netS p rs))))
theorem c_net_text (T : Tx P K mg C) : Cb P w K mg base (L2.CX P w) 6 "net_text" ["net"] (spD K [] (sd_net_text C)) := by
  obtain ⟨f, fd, D⟩ := T.h_net_text
  refine ⟨f, fd, okX (k := 5) D.F sc_net_text (fun ss Qd R h => ?_) (fun cdv A outer s H E hr => ⟨_, (pss_cons (ps_expr (pe_cb (c_check_net (K := K) T) (hr.mono (by decide)) (by rfl) (passes_call (takes_of rfl rfl rfl rfl) fun _ _ _ _ h => h) (pa_cons (pv 0) pa_nil)))
    (pss_cons (ps_asg (pv 0) (pg_tupK (n := 2) (K := K) rfl (by rfl) (pgs_cons (pg_name (i := 1) sc_net_text.nd rfl (.inl rfl)) (pgs_cons (pg_name (i := 2) sc_net_text.nd rfl (.inl rfl)) pgs_nil))))
    (pss_one (ps_ret (pe_joinK (K := K) rfl pe_str (pe_op (op_addK (K := K) rfl) (pe_lst (pa_cons (pe_callTy call_str_int (by rfl) T.str (by decide +kernel) (pa_cons (pv 1) pa_nil)) pa_nil)) (pe_lc (own := [("road", 4)]) (g := (gName 4)) (tt := tYes) (by rfl) sc_net_text.nd (pi_tupK (K := K) rfl (pv 2))
      (blkOk_by (own := [("road", 4)]) (N := ["net", "places", "roads", "part", "road"]) (sc := defScope s_net_text) (by decide +kernel)) (fun _ _ _ _ _ => (pg_name (i := 4) sc_net_text.nd rfl (.inl rfl))) (fun _ _ _ _ _ => pts_nil) (fun _ _ _ _ _ => (pe_joinK (K := K) rfl pe_str (pe_lc (own := [("part", 3)]) (g := (gName 3)) (tt := tYes) (by rfl) sc_net_text.nd (pi_tupK (K := K) rfl (pv 4))
      (blkOk_by (own := [("part", 3)]) (by rfl)) (fun _ _ _ _ _ => (pg_name (i := 3) sc_net_text.nd rfl (.inl rfl))) (fun _ _ _ _ _ => pts_nil) (fun _ _ _ _ _ => (pe_callTy call_str_int (by rfl) T.str (by decide +kernel) (pa_cons (pv 3) pa_nil))))))))))))), ?_⟩), D.g, D.F.kp, D.b⟩
  · obtain ⟨_, rfl, _⟩ := h
    rfl
  · refine ⟨_, fun τ => inferInstance, fun ss Qd R h => ?_⟩
    obtain ⟨x, rfl, hl, h⟩ := h
    rcases h with ⟨hx, q⟩ | ⟨p, rs, rfl, ok, q⟩
    · exact ⟨x, rfl, hl, (fun e => nomatch hx.symm.trans e), fun _ => q⟩
    refine ⟨_, rfl, hl, fun _ => ?_, (fun e => nomatch (netD_ok ok).symm.trans e)⟩
    have p1 := ok.p1
    have p2 := ok.p2
    have l30 := ok.len
    try walk_at "dl2"
    refine ⟨num_log (by omega) (by omega), ?_⟩
    try walk_at "dl2"
    try simp only [show ((0 : Nat) ≤ sizeLine) = True from eq_true (by decide), show ((1 : Nat) ≤ sizeLine) = True from eq_true (by decide), show ((2 : Nat) ≤ sizeLine) = True from eq_true (by decide), show ((3 : Nat) ≤ sizeLine) = True from eq_true (by decide), show ((4 : Nat) ≤ sizeLine) = True from eq_true (by decide), show ((5 : Nat) ≤ sizeLine) = True from eq_true (by decide), show ((6 : Nat) ≤ sizeLine) = True from eq_true (by decide), show ((7 : Nat) ≤ sizeLine) = True from eq_true (by decide), show ((8 : Nat) ≤ sizeLine) = True from eq_true (by decide), show ((9 : Nat) ≤ sizeLine) = True from eq_true (by decide), show ((10 : Nat) ≤ sizeLine) = True from eq_true (by decide), show ((11 : Nat) ≤ sizeLine) = True from eq_true (by decide), show ((12 : Nat) ≤ sizeLine) = True from eq_true (by decide), show ((13 : Nat) ≤ sizeLine) = True from eq_true (by decide), show ((14 : Nat) ≤ sizeLine) = True from eq_true (by decide), show ((15 : Nat) ≤ sizeLine) = True from eq_true (by decide), show ((16 : Nat) ≤ sizeLine) = True from eq_true (by decide), show ((17 : Nat) ≤ sizeLine) = True from eq_true (by decide), show ((18 : Nat) ≤ sizeLine) = True from eq_true (by decide), show ((19 : Nat) ≤ sizeLine) = True from eq_true (by decide), show ((20 : Nat) ≤ sizeLine) = True from eq_true (by decide), show ((21 : Nat) ≤ sizeLine) = True from eq_true (by decide), show ((22 : Nat) ≤ sizeLine) = True from eq_true (by decide), show ((23 : Nat) ≤ sizeLine) = True from eq_true (by decide), show ((24 : Nat) ≤ sizeLine) = True from eq_true (by decide), show ((25 : Nat) ≤ sizeLine) = True from eq_true (by decide), show ((26 : Nat) ≤ sizeLine) = True from eq_true (by decide), show ((27 : Nat) ≤ sizeLine) = True from eq_true (by decide), show ((28 : Nat) ≤ sizeLine) = True from eq_true (by decide), show ((29 : Nat) ≤ sizeLine) = True from eq_true (by decide), show ((30 : Nat) ≤ sizeLine) = True from eq_true (by decide), show ((31 : Nat) ≤ sizeLine) = True from eq_true (by decide), show ((32 : Nat) ≤ sizeLine) = True from eq_true (by decide), show ((33 : Nat) ≤ sizeLine) = True from eq_true (by decide), show ((34 : Nat) ≤ sizeLine) = True from eq_true (by decide), show ((35 : Nat) ≤ sizeLine) = True from eq_true (by decide), show ((36 : Nat) ≤ sizeLine) = True from eq_true (by decide), show ((37 : Nat) ≤ sizeLine) = True from eq_true (by decide), show ((38 : Nat) ≤ sizeLine) = True from eq_true (by decide), show ((39 : Nat) ≤ sizeLine) = True from eq_true (by decide), show ((40 : Nat) ≤ sizeLine) = True from eq_true (by decide), true_and]
    try walk_at "dl2"
    refine lcD_each Road.dt (fun r => .str (lineS r)) rs (fun r hr' acc N ha hN => ?_) (by omega) ?_
    · have rn := road_nums (ok.all r hr') p2
      unfold lcStep
      try walk_at "dl2"
      rw [show [PyData.int r.one, .int r.other, .int r.cost, .int r.time] = [r.one, r.other, r.cost, r.time].map PyData.int from rfl]
      refine lcD_each PyData.int (fun n => .str (numS n)) [r.one, r.other, r.cost, r.time] (fun n hn acc2 N2 ha2 hN2 => ?_) (by show 4 ≤ 100000; decide) ?_
      · have := rn n hn
        unfold lcStep
        try walk_at "dl2"
        exact ⟨num_log this.1 (by omega), ha2, hN2⟩
      · rw [show ([r.one, r.other, r.cost, r.time].map fun n => PyData.str (numS n)) = [numS r.one, numS r.other, numS r.cost, numS r.time].map PyData.str from rfl]
        have l1 := num_len (rn r.one (by simp)).1 (by have := (rn r.one (by simp)).2; omega)
        have l2 := num_len (rn r.other (by simp)).1 (by have := (rn r.other (by simp)).2; omega)
        have l3 := num_len (rn r.cost (by simp)).1 (by have := (rn r.cost (by simp)).2; omega)
        have l4 := num_len (rn r.time (by simp)).1 (by have := (rn r.time (by simp)).2; omega)
        refine fJoin_m ?_ ⟨ha, hN⟩
        have e1 : ((" " : Str)).length = 1 := rfl
        simp only [List.map_cons, List.map_nil, List.sum_cons, List.sum_nil, List.length_cons, List.length_nil, e1]
        omega
    try walk_at "dl2"
    rw [show PyData.str (↑(toString p)) = PyData.str (numS p) from rfl, show (rs.map fun r => PyData.str (lineS r)) = (rs.map lineS).map PyData.str from by rw [List.map_map]; rfl]
    refine ⟨Nat.le_of_lt (line_1000 (by rw [List.length_map, List.length_map]; omega)), ?_⟩
    rw [show PyData.str (numS p) :: (rs.map lineS).map PyData.str = (numS p :: rs.map lineS).map PyData.str from rfl]
    exact fJoin_m (net_sum ok) q
end
end Wy

set_option synthInstance.maxHeartbeats 2000000
set_option synthInstance.maxSize 100000
namespace Wy
open PySem PySem.Spec PyProof.Rows L2 Dl
local macro_rules | `(tactic| walk_at "dl3") => `(tactic| simp only [startD, iEn, cvs, cv, vS, Sl.dat, Sl.seq, Sl.sq, Sl.fz, dats, dSetI, dAug, wipeD, List.length_cons, List.length_nil, List.length_append, List.length_replicate, Nat.reduceAdd, Nat.reduceSub, Nat.zero_add, List.replicate_succ, List.replicate_zero, List.cons_append, List.nil_append, List.append_nil, List.set_cons_zero, List.set_cons_succ, List.set_nil, List.getElem?_cons_zero, List.getElem?_cons_succ, Option.getD_some, List.map_cons, List.map_nil, Option.bind_some, fI0_c, fI_c, fU_c, fAddX_i, fAddX_t, fAddX_s, fAddX_mm, fAddX_bm, fAddX_mb, fAddX_bb, fAddX_lm, fAddX_ll, fMulX_i, fMulX_m, fSlX_t, fSlX_m, fSlX_b, fSlX_l, fIs_n, fIs_i, fIs_b, fIs_s, fIs_l, fIs_t, fIs_m, fIs_bl, fLen_t, fLen_l, fLen_m, fLen_b, fLen_scr, fIsi_c, fEqD_c, fEqD_mm, fEqD_bm, fEqD_bb, fEqD_dm, fEq_ss, fInt_i, fInt_b, fTuple_m, fTuple_b, fTuple_t, fTuple_l, fList_m, fList_b, fList_t, fList_l, f2I_c, fRepr_c, fRepr_m, fRepr_b, fStr_c, Bool.not_true, Bool.not_false, true_and, netT, Road.dt, reduceIte, Bool.false_eq_true, decide_true, decide_false, tupK, lstK, dNext_c, dBreak_c, dCont_c, dSeq_c, dDrop_c, dRet_c, retK_d, retK_m, retK_r, dRetN_c, dIfS_c, iteS_t, iteS_f, dSet_c, setK_d, setK_m, setK_s, setK_r, dAsg_c, asgK_d, asgK_m, dFz_c, dNever_c, dRaise_c, dC_c, dOp_c, dUn_c, dTst_c, tstK_c, dTru_c, truK_n, truK_b, truK_i, truK_t, truK_l, truK_m, truK_bl, dNot_c, dAnd_c, andK_t, andK_f, dOr_c, orK_t, orK_f, dAndV_c, andV_t, andV_f, dOrV_c, orV_t, orV_f, dNotV_c, dIf_c, iteE_t, iteE_f, dChain_c, chK_t, chK_f, dNil_c, dCons_c, dCB_c, dCall_c, dCall0_c, dTup_c, dLst_c, dFor_c, dLc_c, iTp_c, tpK_c, iLst_c, lsK_d, lsK_m, iSeq_c, sqK_d, sqK_m, sqK_b, dSl_c, dNo_c, dPt_c, ptK_c, dYes_c, dBack_k, backK_c, dTupRg_c, dLstRg_c, dRg1_c, dRg2_c, rg1K_c, rg2K_c, tupRg_c, lstRg_c, dDict0_c, dDict1_c, gdName_c, gdTup_c, gdCons_c, gdNil_c, dApp_c, appK_c, apK_d, apK_m, dVar_c, varK_d, varK_m, varK_b, varK_s, varK_sc, varK_r, dNew_c, varK_mo, varK_bo, setK_mo, retK_mo, dDIn_c, dinK_i, dinK_s, dDGet_c, dDGet1_c, isBo_c, dget1K_i, dDPut_c, dputV_d, dputK_i, val_mo, dOwn0_c, dDispV_c, dispK_i, fRepT_c, fIsB_c, dM0_c, dM1_c, isStr_c, fQ0_c, fQ1_c, fSplit_c, fLenS_c, iEnSD_c, dSetdIf_c, setdB_f, enSK_m, enSK_d, dOrT_c, dAndT_c, orTK_n, dCallK_c, dCallK0_c, dCallD_c, dCallD0_c, dSaid_c, toldK_d, toldK_m, iRg1_c, rgK_c, iRg2_c, rgK2_c, iEnT_c, enK_c, iZp_c, zpK_tt, zpK_mm, zpK_ll, zpK_lm, zpK_ml, dPar_c, parK_im, parK_nm, parK_sm, parK_dd, parK_md, dRaiseF1_c, dBackL_k])
section
variable {P : Program} {w : World} {K : PySem.W.Frag} {mg : Str → Option Value} {base : Heap} {C : Nat → Addr}
/-- signs of lines, a break behind each -/
def wgt (ps : List Str) : Nat := (ps.map (·.length)).sum + ps.length
theorem wgt_app (ps qs : List Str) : wgt (ps ++ qs) = wgt ps + wgt qs := by
  unfold wgt
  rw [List.map_append, List.sum_append, List.length_append]
  omega
theorem wgt_sub {ps qs : List Str} (h : qs.Sublist ps) : wgt qs ≤ wgt ps := by
  induction h with
  | slnil => exact Nat.le_refl _
  | cons a _ ih =>
    rename_i l1 l2 _
    have : wgt (a :: l2) = wgt [a] + wgt l2 := wgt_app [a] l2
    omega
  | cons_cons a _ ih =>
    rename_i l1 l2 _
    have h1 : wgt (a :: l2) = wgt [a] + wgt l2 := wgt_app [a] l2
    have h2 : wgt (a :: l1) = wgt [a] + wgt l1 := wgt_app [a] l1
    omega
theorem cut_strs (ps : List Str) (lo hi : Option Int) : ∃ qs : List Str, Dl.cutD (ps.map PyData.str) lo hi = qs.map PyData.str ∧ qs.Sublist ps := by
  refine ⟨_, by unfold Dl.cutD; rw [← List.map_drop, ← List.map_take], (List.take_sublist _ _).trans (List.drop_sublist _ _)⟩
theorem join_fin {ps : List Str} {n : Nat} {Qd : Sl → Prop} (hs : ∀ w ∈ ps, ∀ c ∈ TL.tl w, c < 128) (hw : wgt ps ≤ n) (hn : n ≤ 20000) (h : ∀ b, Plain b n → Qd (.d (.str b))) : fJoin (.d (.str "\n")) [.ml (ps.map PyData.str)] Qd := by
  have e1 : (("\n" : Str)).length = 1 := rfl
  have hw' : (ps.map (·.length)).sum + ps.length ≤ n := hw
  refine fJoin_m ?_ (h _ ⟨join_sig (by decide +kernel) hs, ?_⟩)
  · rw [e1]
    omega
  · have := join_len "\n" ps
    rw [e1] at this
    omega
theorem len_wgt (ps : List Str) : ps.length ≤ wgt ps := Nat.le_add_left _ _
def bentL : List Str := ["", "0 1 1 0", "1 0 99 99", "0 1 0 0", "0 1 100 0", "0 0 1 1", "0 1 1", "00 1 1 1", "0 1 1 0 ", " 0 1 1 0"]
theorem bentL_ok : ∀ l ∈ bentL, (∀ c ∈ TL.tl l, c < 128) ∧ wgt [l] ≤ 10 := by decide +kernel
theorem wgt_rep (l : Str) : ∀ n : Nat, wgt (List.replicate n l) = n * wgt [l]
  | 0 => by rw [Nat.zero_mul]; rfl
  | n + 1 => by
    rw [List.replicate_succ, Nat.add_mul, Nat.one_mul, ← wgt_rep l n, Nat.add_comm]
    exact wgt_app [l] _
theorem wgt_rev (ps : List Str) : wgt ps.reverse = wgt ps := by
  unfold wgt
  rw [List.map_reverse, List.sum_reverse, List.length_reverse]
theorem lenL {n : Nat} (h : n ≤ 30000) : n ≤ sizeLine := Nat.le_of_lt (line_1000 (by omega))
theorem fAdd_str {a b : Str} {Qd : Sl → Prop} (h : a.length + b.length ≤ sizeLine) (q : Qd (.d (.str (a ++ b)))) : fAddX (.d (.str a)) (.d (.str b)) Qd := ⟨h, q⟩
theorem fSl_str {z : Str} {lo hi : Option Int} {Qd : Sl → Prop} (h : z.length ≤ sizeLine) (q : Qd (.d (.str (cutS z lo hi)))) : fSlS (.d (.str z)) lo hi Qd := ⟨h, q⟩
theorem pick_line : ∀ n : Nat, n < 10 → ∃ l, (bentL.map PyData.str)[n]? = some (.str l) ∧ l ∈ bentL := fun n hn => by
  have hl : n < bentL.length := hn
  exact ⟨bentL[n], by rw [List.getElem?_map, List.getElem?_eq_getElem hl]; rfl, List.getElem_mem hl⟩
theorem pick_sign : ∀ n : Nat, n < 11 → ∃ c, atI (("0123 99\n-+a" : Str)).cps.toList (n : Int) = some c ∧ c < 128 := by decide +kernel
theorem sc__law_bent : FnScope ["_law_state_here", "_law_text", "_law_lines", "_law_walk", "_law_at", "_law_spot", "_law_sign", "_law_more", "_law_line"] ["_law_state_here", "_law_text"] (defScope s__law_bent) := ⟨rfl, rfl, rfl, by decide +kernel, rfl, by decide +kernel, by decide +kernel⟩
def sd__law_bent : SpD := fun ss Qd _ => ∃ (a : Str) (n : Nat), ss = [.st, .d (.str a)] ∧ Plain a n ∧ n ≤ 5000 ∧ ∀ b, Plain b (2 * n + 300) → Qd (.d (.str b))
theorem c__law_bent (T : Tx P K mg C) : Cb P w K mg base CX0 2 "_law_bent" ["_law_state_here", "_law_text"] (spD K [] sd__law_bent) := by
  obtain ⟨f, fd, D⟩ := T.h__law_bent
  refine ⟨f, fd, okD (k := 1) D.F sc__law_bent (fun ss Qd R h => ?_) (fun cdv A outer s H E hr => ⟨_, (pss_cons (ps_par (i := 2) (j := 3) (by rfl) sc__law_bent.nd rfl rfl (by decide) rfl rfl (pa_cons (pe_splitK (pv 1) pe_str) (pa_cons (pe_cb (c__law_take (K := K) T) (hr.mono (by decide)) (by rfl) pass0 (pa_cons (pv 0) (pa_cons pe_int pa_nil))) pa_nil)) (by rfl))
    (pss_cons (ps_par (i := 4) (j := 5) (by rfl) sc__law_bent.nd rfl rfl (by decide) rfl rfl (pa_cons (pe_cb (c__law_take (K := K) T) (hr.mono (by decide)) (by rfl) pass0 (pa_cons (pv 0) (pa_cons (pe_callB (call_lenK (K := K) rfl) (by rfl) T.len PySem.boot_len (pa_cons (pv 2) pa_nil)) pa_nil))) (pa_cons (pe_cb (c__law_take (K := K) T) (hr.mono (by decide)) (by rfl) pass0 (pa_cons (pv 0) (pa_cons (pe_op (op_addK (K := K) rfl) (pe_callB call_len_str (by rfl) T.len PySem.boot_len (pa_cons (pv 1) pa_nil)) pe_int) pa_nil))) pa_nil)) (by rfl))
    (pss_cons (ps_set (i := 6) sc__law_bent.nd rfl (.inl rfl) (pe_ix ix_str pe_str (pe_cb (c__law_take (K := K) T) (hr.mono (by decide)) (by rfl) pass0 (pa_cons (pv 0) (pa_cons pe_int pa_nil))) (fun _ _ => rfl)))
    (pss_cons (ps_set (i := 7) sc__law_bent.nd rfl (.inl rfl) (pe_lst (pa_cons pe_str (pa_cons pe_str (pa_cons pe_str (pa_cons pe_str (pa_cons pe_str (pa_cons pe_str (pa_cons pe_str (pa_cons pe_str (pa_cons pe_str (pa_cons pe_str pa_nil))))))))))))
    (pss_cons (ps_set (i := 8) sc__law_bent.nd rfl (.inl rfl) (pe_ix (ix_seqK (K := K) rfl) (pv 7) (pe_cb (c__law_take (K := K) T) (hr.mono (by decide)) (by rfl) pass0 (pa_cons (pv 0) (pa_cons pe_int pa_nil))) (fun _ _ => rfl)))
    (pss_cons (ps_if (pt_cmpR (op_eqK (K := K) rfl hr.units) (pv 3) pe_int (nomark _)) (pss_one (ps_ret (pe_op (op_addK (K := K) rfl) (pe_op (op_addK (K := K) rfl) (pe_slice sl_str (pv 1) po_none (po_some (pv 5))) (pv 6)) (pe_slice sl_str (pv 1) (po_some (pv 5)) po_none)))) pss_nil)
    (pss_cons (ps_if (pt_cmpR (op_eqK (K := K) rfl hr.units) (pv 3) pe_int (nomark _)) (pss_one (ps_ret (pe_op (op_addK (K := K) rfl) (pe_slice sl_str (pv 1) po_none (po_some (pv 5))) (pe_slice sl_str (pv 1) (po_some (pe_op (op_addK (K := K) rfl) (pv 5) pe_int)) po_none)))) pss_nil)
    (pss_cons (ps_if (pt_cmpR (op_eqK (K := K) rfl hr.units) (pv 3) pe_int (nomark _)) (pss_one (ps_ret (pe_op (op_addK (K := K) rfl) (pe_op (op_addK (K := K) rfl) (pe_slice sl_str (pv 1) po_none (po_some (pv 5))) (pv 6)) (pe_slice sl_str (pv 1) (po_some (pe_op (op_addK (K := K) rfl) (pv 5) pe_int)) po_none)))) pss_nil)
    (pss_cons (ps_if (pt_cmpR (op_eqK (K := K) rfl hr.units) (pv 3) pe_int (nomark _)) (pss_one (ps_ret (pe_joinK (K := K) rfl pe_str (pe_op (op_addK (K := K) rfl) (pe_slice (sl_anyK (K := K) rfl) (pv 2) po_none (po_some (pv 4))) (pe_slice (sl_anyK (K := K) rfl) (pv 2) (po_some (pe_op (op_addK (K := K) rfl) (pv 4) pe_int)) po_none))))) pss_nil)
    (pss_cons (ps_if (pt_cmpR (op_eqK (K := K) rfl hr.units) (pv 3) pe_int (nomark _)) (pss_one (ps_ret (pe_joinK (K := K) rfl pe_str (pe_op (op_addK (K := K) rfl) (pe_op (op_addK (K := K) rfl) (pe_slice (sl_anyK (K := K) rfl) (pv 2) po_none (po_some (pv 4))) (pe_slice (sl_anyK (K := K) rfl) (pv 2) (po_some (pv 4)) (po_some (pe_op (op_addK (K := K) rfl) (pv 4) pe_int)))) (pe_slice (sl_anyK (K := K) rfl) (pv 2) (po_some (pv 4)) po_none))))) pss_nil)
    (pss_cons (ps_if (pt_cmpR (op_eqK (K := K) rfl hr.units) (pv 3) pe_int (nomark _)) (pss_one (ps_ret (pe_joinK (K := K) rfl pe_str (pe_op (op_addK (K := K) rfl) (pe_op (op_addK (K := K) rfl) (pe_slice (sl_anyK (K := K) rfl) (pv 2) po_none (po_some (pv 4))) (pe_lst (pa_cons (pv 8) pa_nil))) (pe_slice (sl_anyK (K := K) rfl) (pv 2) (po_some (pv 4)) po_none))))) pss_nil)
    (pss_cons (ps_if (pt_cmpR (op_eqK (K := K) rfl hr.units) (pv 3) pe_int (nomark _)) (pss_one (ps_ret (pe_joinK (K := K) rfl pe_str (pe_op (op_addK (K := K) rfl) (pe_op (op_addK (K := K) rfl) (pe_slice (sl_anyK (K := K) rfl) (pv 2) po_none (po_some (pv 4))) (pe_lst (pa_cons (pv 8) pa_nil))) (pe_slice (sl_anyK (K := K) rfl) (pv 2) (po_some (pe_op (op_addK (K := K) rfl) (pv 4) pe_int)) po_none))))) pss_nil)
    (pss_cons (ps_if (pt_cmpR (op_eqK (K := K) rfl hr.units) (pv 3) pe_int (nomark _)) (pss_one (ps_ret (pe_joinK (K := K) rfl pe_str (pe_op (op_addK (K := K) rfl) (pv 2) (pe_op (op_mulK (K := K) rfl) (pe_lst (pa_cons pe_str pa_nil)) (pe_op (op_addK (K := K) rfl) pe_int (pe_cb (c__law_take (K := K) T) (hr.mono (by decide)) (by rfl) pass0 (pa_cons (pv 0) (pa_cons pe_int pa_nil))))))))) pss_nil)
    (pss_one (ps_ret (pe_joinK (K := K) rfl pe_str (pe_op (op_addK (K := K) rfl) (pe_slice (sl_anyK (K := K) rfl) (pv 2) po_none (po_some (pv 4))) (pe_backLK (K := K) rfl (pe_slice (sl_anyK (K := K) rfl) (pv 2) (po_some (pv 4)) po_none))))))))))))))))))), ?_⟩), D.g, D.F.kp, D.b⟩
  · obtain ⟨_, _, rfl, _⟩ := h
    rfl
  · refine ⟨_, fun τ => inferInstance, fun ss Qd R h => ?_⟩
    obtain ⟨a, n, rfl, pa, hn, q⟩ := h
    have hy : TL.tl ("\n" : Str) ≠ [] := by decide +kernel
    have hk : Builtin.Str.strKind ("\n" : Str) = 1 := by decide +kernel
    have sg : ∀ w ∈ Txt.split a "\n", ∀ c ∈ TL.tl w, c < 128 := fun w hw c hc => pa.sig c ((split_part hy hk hw).1 c hc)
    have wg : wgt (Txt.split a "\n") ≤ a.length + 1 := split_sum hy hk
    have ne := (split_num (a := a) hy hk).2
    have pl := pa.len
    try walk_at "dl3"
    refine ⟨by decide +kernel, Nat.le_of_lt (line_1000 (by omega)), 9, rfl, by decide, by decide, fun w w0 w1 => ?_⟩
    generalize Txt.split a "\n" = ls at sg wg ne ⊢
    have l1 := len_wgt ls
    have l0 : 0 < ls.length := List.length_pos_iff.mpr ne
    try walk_at "dl3"
    rw [List.length_map]
    refine ⟨_, rfl, by omega, by omega, fun t t0 t1 => ?_⟩
    try walk_at "dl3"
    refine ⟨Nat.le_of_lt (line_1000 (by omega)), _, rfl, by omega, by omega, fun u u0 u1 => ?_⟩
    try walk_at "dl3"
    refine ⟨11, rfl, by decide, by decide, fun k k0 k1 => ?_⟩
    obtain ⟨k', rfl⟩ := Int.eq_ofNat_of_zero_le k0
    obtain ⟨c, ec, hc⟩ := pick_sign k' (by omega)
    try walk_at "dl3"
    refine ⟨by decide, c, ec, ?_⟩
    have pc : Plain ⟨#[c]⟩ 1 := Plain.sign hc
    unfold sigD
    generalize (⟨#[c]⟩ : Str) = sgn at pc ⊢
    try walk_at "dl3"
    refine ⟨by decide, 10, rfl, by decide, by decide, fun j j0 j1 => ?_⟩
    obtain ⟨j', rfl⟩ := Int.eq_ofNat_of_zero_le j0
    obtain ⟨l, el, hlm⟩ := pick_line j' (by omega)
    refine fIxB_at (xs := bentL.map PyData.str) el ?_
    obtain ⟨sl, wl⟩ := bentL_ok l hlm
    have hw : w = 0 ∨ w = 1 ∨ w = 2 ∨ w = 3 ∨ w = 4 ∨ w = 5 ∨ w = 6 ∨ w = 7 ∨ w = 8 := by omega
    rcases hw with rfl | rfl | rfl | rfl | rfl | rfl | rfl | rfl | rfl
    · try walk_at "dl3"
      refine ⟨rfl, rfl, ?_⟩
      rw [show PyData.eqv (PyData.int 0) (PyData.int 0) = true from by decide +kernel]
      try walk_at "dl3"
      exact fSl_str (lenL (by omega)) (fAdd_str (lenL (by have := (pa.cut none (some u)).len; have := pc.len; omega)) (fSl_str (lenL (by omega)) (fAdd_str (lenL (by have := ((pa.cut none (some u)).cat pc).len; have := (pa.cut (some u) none).len; omega)) (q _ ((((pa.cut _ _).cat pc).cat (pa.cut _ _)).mono (by omega))))))
    · try walk_at "dl3"
      refine ⟨rfl, rfl, ?_⟩
      rw [show PyData.eqv (PyData.int 1) (PyData.int 0) = false from by decide +kernel]
      try walk_at "dl3"
      refine ⟨rfl, rfl, ?_⟩
      rw [show PyData.eqv (PyData.int 1) (PyData.int 1) = true from by decide +kernel]
      try walk_at "dl3"
      exact fSl_str (lenL (by omega)) (fSl_str (lenL (by omega)) (fAdd_str (lenL (by have := (pa.cut none (some u)).len; have := (pa.cut (some (u + 1)) none).len; omega)) (q _ (((pa.cut _ _).cat (pa.cut _ _)).mono (by omega)))))
    · try walk_at "dl3"
      refine ⟨rfl, rfl, ?_⟩
      rw [show PyData.eqv (PyData.int 2) (PyData.int 0) = false from by decide +kernel]
      try walk_at "dl3"
      refine ⟨rfl, rfl, ?_⟩
      rw [show PyData.eqv (PyData.int 2) (PyData.int 1) = false from by decide +kernel]
      try walk_at "dl3"
      refine ⟨rfl, rfl, ?_⟩
      rw [show PyData.eqv (PyData.int 2) (PyData.int 2) = true from by decide +kernel]
      try walk_at "dl3"
      exact fSl_str (lenL (by omega)) (fAdd_str (lenL (by have := (pa.cut none (some u)).len; have := pc.len; omega)) (fSl_str (lenL (by omega)) (fAdd_str (lenL (by have := ((pa.cut none (some u)).cat pc).len; have := (pa.cut (some (u + 1)) none).len; omega)) (q _ ((((pa.cut _ _).cat pc).cat (pa.cut _ _)).mono (by omega))))))
    · try walk_at "dl3"
      refine ⟨rfl, rfl, ?_⟩
      rw [show PyData.eqv (PyData.int 3) (PyData.int 0) = false from by decide +kernel]
      try walk_at "dl3"
      refine ⟨rfl, rfl, ?_⟩
      rw [show PyData.eqv (PyData.int 3) (PyData.int 1) = false from by decide +kernel]
      try walk_at "dl3"
      refine ⟨rfl, rfl, ?_⟩
      rw [show PyData.eqv (PyData.int 3) (PyData.int 2) = false from by decide +kernel]
      try walk_at "dl3"
      refine ⟨rfl, rfl, ?_⟩
      rw [show PyData.eqv (PyData.int 3) (PyData.int 3) = true from by decide +kernel]
      try walk_at "dl3"
      obtain ⟨q1, e1, s1⟩ := cut_strs ls none (some t)
      obtain ⟨q2, e2, s2⟩ := cut_strs ls (some (t + 1)) none
      have w1 := wgt_sub s1
      have w2 := wgt_sub s2
      have m1 := len_wgt q1
      have m2 := len_wgt q2
      rw [e1, e2, ← List.map_append, List.length_map, List.length_map]
      refine ⟨lenL (by omega), join_fin (fun w hw => (List.mem_append.mp hw).elim (fun z => sg w (s1.subset z)) (fun z => sg w (s2.subset z))) (by rw [wgt_app]; omega) (by omega) q⟩
    · try walk_at "dl3"
      refine ⟨rfl, rfl, ?_⟩
      rw [show PyData.eqv (PyData.int 4) (PyData.int 0) = false from by decide +kernel]
      try walk_at "dl3"
      refine ⟨rfl, rfl, ?_⟩
      rw [show PyData.eqv (PyData.int 4) (PyData.int 1) = false from by decide +kernel]
      try walk_at "dl3"
      refine ⟨rfl, rfl, ?_⟩
      rw [show PyData.eqv (PyData.int 4) (PyData.int 2) = false from by decide +kernel]
      try walk_at "dl3"
      refine ⟨rfl, rfl, ?_⟩
      rw [show PyData.eqv (PyData.int 4) (PyData.int 3) = false from by decide +kernel]
      try walk_at "dl3"
      refine ⟨rfl, rfl, ?_⟩
      rw [show PyData.eqv (PyData.int 4) (PyData.int 4) = true from by decide +kernel]
      try walk_at "dl3"
      obtain ⟨m, rfl⟩ := Int.eq_ofNat_of_zero_le t0
      obtain ⟨q2, e2, s2⟩ := cut_strs ls (some (m : Int)) (some ((m : Int) + 1))
      have w2 := wgt_sub s2
      have m2 := len_wgt q2
      have w1 : wgt (ls.take m) + wgt (ls.drop m) = wgt ls := by rw [← wgt_app, List.take_append_drop]
      have m1 := len_wgt (ls.take m)
      have m3 := len_wgt (ls.drop m)
      rw [e2, cutD_take (by rw [List.length_map]; omega), cutD_drop (by rw [List.length_map]; omega), ← List.map_take, ← List.map_drop, ← List.map_append, ← List.map_append, List.length_map, List.length_map, List.length_map]
      refine ⟨lenL (by omega), lenL (by omega), join_fin (fun w hw => (List.mem_append.mp hw).elim (fun z => (List.mem_append.mp z).elim (fun z => sg w (List.mem_of_mem_take z)) (fun z => sg w (s2.subset z))) (fun z => sg w (List.mem_of_mem_drop z))) (by rw [wgt_app, wgt_app]; omega) (by omega) q⟩
    · try walk_at "dl3"
      refine ⟨rfl, rfl, ?_⟩
      rw [show PyData.eqv (PyData.int 5) (PyData.int 0) = false from by decide +kernel]
      try walk_at "dl3"
      refine ⟨rfl, rfl, ?_⟩
      rw [show PyData.eqv (PyData.int 5) (PyData.int 1) = false from by decide +kernel]
      try walk_at "dl3"
      refine ⟨rfl, rfl, ?_⟩
      rw [show PyData.eqv (PyData.int 5) (PyData.int 2) = false from by decide +kernel]
      try walk_at "dl3"
      refine ⟨rfl, rfl, ?_⟩
      rw [show PyData.eqv (PyData.int 5) (PyData.int 3) = false from by decide +kernel]
      try walk_at "dl3"
      refine ⟨rfl, rfl, ?_⟩
      rw [show PyData.eqv (PyData.int 5) (PyData.int 4) = false from by decide +kernel]
      try walk_at "dl3"
      refine ⟨rfl, rfl, ?_⟩
      rw [show PyData.eqv (PyData.int 5) (PyData.int 5) = true from by decide +kernel]
      try walk_at "dl3"
      obtain ⟨q1, e1, s1⟩ := cut_strs ls none (some t)
      obtain ⟨q2, e2, s2⟩ := cut_strs ls (some t) none
      have w1 := wgt_sub s1
      have w2 := wgt_sub s2
      have m1 := len_wgt q1
      have m2 := len_wgt q2
      rw [e1, e2, show [PyData.str l] = [l].map PyData.str from rfl, ← List.map_append, ← List.map_append, List.length_map, List.length_map]
      refine ⟨lenL (by omega), lenL (by omega), lenL (by omega), join_fin (fun w hw => (List.mem_append.mp hw).elim (fun z => (List.mem_append.mp z).elim (fun z => sg w (s1.subset z)) (fun z => by rw [List.mem_singleton.mp z]; exact sl)) (fun z => sg w (s2.subset z))) (by rw [wgt_app, wgt_app]; omega) (by omega) q⟩
    · try walk_at "dl3"
      refine ⟨rfl, rfl, ?_⟩
      rw [show PyData.eqv (PyData.int 6) (PyData.int 0) = false from by decide +kernel]
      try walk_at "dl3"
      refine ⟨rfl, rfl, ?_⟩
      rw [show PyData.eqv (PyData.int 6) (PyData.int 1) = false from by decide +kernel]
      try walk_at "dl3"
      refine ⟨rfl, rfl, ?_⟩
      rw [show PyData.eqv (PyData.int 6) (PyData.int 2) = false from by decide +kernel]
      try walk_at "dl3"
      refine ⟨rfl, rfl, ?_⟩
      rw [show PyData.eqv (PyData.int 6) (PyData.int 3) = false from by decide +kernel]
      try walk_at "dl3"
      refine ⟨rfl, rfl, ?_⟩
      rw [show PyData.eqv (PyData.int 6) (PyData.int 4) = false from by decide +kernel]
      try walk_at "dl3"
      refine ⟨rfl, rfl, ?_⟩
      rw [show PyData.eqv (PyData.int 6) (PyData.int 5) = false from by decide +kernel]
      try walk_at "dl3"
      refine ⟨rfl, rfl, ?_⟩
      rw [show PyData.eqv (PyData.int 6) (PyData.int 6) = true from by decide +kernel]
      try walk_at "dl3"
      obtain ⟨q1, e1, s1⟩ := cut_strs ls none (some t)
      obtain ⟨q2, e2, s2⟩ := cut_strs ls (some (t + 1)) none
      have w1 := wgt_sub s1
      have w2 := wgt_sub s2
      have m1 := len_wgt q1
      have m2 := len_wgt q2
      rw [e1, e2, show [PyData.str l] = [l].map PyData.str from rfl, ← List.map_append, ← List.map_append, List.length_map, List.length_map]
      refine ⟨lenL (by omega), lenL (by omega), lenL (by omega), join_fin (fun w hw => (List.mem_append.mp hw).elim (fun z => (List.mem_append.mp z).elim (fun z => sg w (s1.subset z)) (fun z => by rw [List.mem_singleton.mp z]; exact sl)) (fun z => sg w (s2.subset z))) (by rw [wgt_app, wgt_app]; omega) (by omega) q⟩
    · try walk_at "dl3"
      refine ⟨rfl, rfl, ?_⟩
      rw [show PyData.eqv (PyData.int 7) (PyData.int 0) = false from by decide +kernel]
      try walk_at "dl3"
      refine ⟨rfl, rfl, ?_⟩
      rw [show PyData.eqv (PyData.int 7) (PyData.int 1) = false from by decide +kernel]
      try walk_at "dl3"
      refine ⟨rfl, rfl, ?_⟩
      rw [show PyData.eqv (PyData.int 7) (PyData.int 2) = false from by decide +kernel]
      try walk_at "dl3"
      refine ⟨rfl, rfl, ?_⟩
      rw [show PyData.eqv (PyData.int 7) (PyData.int 3) = false from by decide +kernel]
      try walk_at "dl3"
      refine ⟨rfl, rfl, ?_⟩
      rw [show PyData.eqv (PyData.int 7) (PyData.int 4) = false from by decide +kernel]
      try walk_at "dl3"
      refine ⟨rfl, rfl, ?_⟩
      rw [show PyData.eqv (PyData.int 7) (PyData.int 5) = false from by decide +kernel]
      try walk_at "dl3"
      refine ⟨rfl, rfl, ?_⟩
      rw [show PyData.eqv (PyData.int 7) (PyData.int 6) = false from by decide +kernel]
      try walk_at "dl3"
      refine ⟨rfl, rfl, ?_⟩
      rw [show PyData.eqv (PyData.int 7) (PyData.int 7) = true from by decide +kernel]
      try walk_at "dl3"
      refine ⟨lenL (by omega), 3, rfl, by decide, by decide, fun r r0 r1 => ?_⟩
      try walk_at "dl3"
      have hr : (29 + r).toNat ≤ 31 := by omega
      generalize (29 + r).toNat = m at hr ⊢
      have wr := wgt_rep "0 1 1 0" m
      rw [show wgt ["0 1 1 0"] = 8 from by decide +kernel] at wr
      have m1 := len_wgt (List.replicate m ("0 1 1 0" : Str))
      rw [List.flatten_replicate_singleton, ← List.map_replicate, ← List.map_append, List.length_map, List.length_map]
      refine ⟨by omega, by omega, lenL (by omega), lenL (by omega), join_fin (fun w hw => (List.mem_append.mp hw).elim (fun z => sg w z) (fun z => by rw [List.eq_of_mem_replicate z]; decide +kernel)) (by rw [wgt_app]; omega) (by omega) q⟩
    · try walk_at "dl3"
      refine ⟨rfl, rfl, ?_⟩
      rw [show PyData.eqv (PyData.int 8) (PyData.int 0) = false from by decide +kernel]
      try walk_at "dl3"
      refine ⟨rfl, rfl, ?_⟩
      rw [show PyData.eqv (PyData.int 8) (PyData.int 1) = false from by decide +kernel]
      try walk_at "dl3"
      refine ⟨rfl, rfl, ?_⟩
      rw [show PyData.eqv (PyData.int 8) (PyData.int 2) = false from by decide +kernel]
      try walk_at "dl3"
      refine ⟨rfl, rfl, ?_⟩
      rw [show PyData.eqv (PyData.int 8) (PyData.int 3) = false from by decide +kernel]
      try walk_at "dl3"
      refine ⟨rfl, rfl, ?_⟩
      rw [show PyData.eqv (PyData.int 8) (PyData.int 4) = false from by decide +kernel]
      try walk_at "dl3"
      refine ⟨rfl, rfl, ?_⟩
      rw [show PyData.eqv (PyData.int 8) (PyData.int 5) = false from by decide +kernel]
      try walk_at "dl3"
      refine ⟨rfl, rfl, ?_⟩
      rw [show PyData.eqv (PyData.int 8) (PyData.int 6) = false from by decide +kernel]
      try walk_at "dl3"
      refine ⟨rfl, rfl, ?_⟩
      rw [show PyData.eqv (PyData.int 8) (PyData.int 7) = false from by decide +kernel]
      try walk_at "dl3"
      obtain ⟨q1, e1, s1⟩ := cut_strs ls none (some t)
      obtain ⟨q2, e2, s2⟩ := cut_strs ls (some t) none
      have w1 := wgt_sub s1
      have w2 := wgt_sub s2
      have m1 := len_wgt q1
      have m2 := len_wgt q2.reverse
      have w3 := wgt_rev q2
      refine ⟨_, rfl, ?_⟩
      rw [e1, e2, ← List.map_reverse, ← List.map_append, List.length_map, List.length_map]
      refine ⟨lenL (by omega), join_fin (fun w hw => (List.mem_append.mp hw).elim (fun z => sg w (s1.subset z)) (fun z => sg w (s2.subset (List.mem_reverse.mp z)))) (by rw [wgt_app]; omega) (by omega) q⟩
end
end Wy

namespace Wy
open PySem PySem.Spec PyProof.Rows L2 Dl
abbrev sMarks : Stmt := topS 45
abbrev sWord : Stmt := topS 46
abbrev sSaid : Stmt := topS 47
/-- the classes of refusals: C i the i-th of the law's list; what isinstance tells of errors of some of them -/
structure Cl (K : PySem.W.Frag) (mg : Str → Option Value) (C : Nat → Addr) (cT cN cW : Addr) : Prop where
  g0 : mg "NoNet" = some (.ref (C 0))
  g1 : mg "NoPlace" = some (.ref (C 1))
  g2 : mg "NoRoad" = some (.ref (C 2))
  g3 : mg "NoMany" = some (.ref (C 3))
  g4 : mg "NoShut" = some (.ref (C 4))
  g5 : mg "NoCost" = some (.ref (C 5))
  g6 : mg "NoNumber" = some (.ref (C 6))
  g7 : mg "NoWay" = some (.ref (C 7))
  g8 : mg "NoWord" = some (.ref (C 8))
  g9 : mg "NoTime" = some (.ref (C 9))
  g10 : mg "NoChange" = some (.ref (C 10))
  g11 : mg "NoPaper" = some (.ref (C 11))
  g12 : mg "NoLine" = some (.ref (C 12))
  g13 : mg "NoText" = some (.ref (C 13))
  g14 : mg "NoAsk" = some (.ref (C 14))
  g15 : mg "Nothing" = some (.ref (C 15))
  g16 : mg "TooMany" = some (.ref (C 16))
  c13 : ExcC K (C 13)
  k13_0 : PySem.W.kitOne K (.ref (C 13)) (.ref (C 0)) = some false
  k13_1 : PySem.W.kitOne K (.ref (C 13)) (.ref (C 1)) = some false
  k13_2 : PySem.W.kitOne K (.ref (C 13)) (.ref (C 2)) = some false
  k13_3 : PySem.W.kitOne K (.ref (C 13)) (.ref (C 3)) = some false
  k13_4 : PySem.W.kitOne K (.ref (C 13)) (.ref (C 4)) = some false
  k13_5 : PySem.W.kitOne K (.ref (C 13)) (.ref (C 5)) = some false
  k13_6 : PySem.W.kitOne K (.ref (C 13)) (.ref (C 6)) = some false
  k13_7 : PySem.W.kitOne K (.ref (C 13)) (.ref (C 7)) = some false
  k13_8 : PySem.W.kitOne K (.ref (C 13)) (.ref (C 8)) = some false
  k13_9 : PySem.W.kitOne K (.ref (C 13)) (.ref (C 9)) = some false
  k13_10 : PySem.W.kitOne K (.ref (C 13)) (.ref (C 10)) = some false
  k13_11 : PySem.W.kitOne K (.ref (C 13)) (.ref (C 11)) = some false
  k13_12 : PySem.W.kitOne K (.ref (C 13)) (.ref (C 12)) = some false
  k13_13 : PySem.W.kitOne K (.ref (C 13)) (.ref (C 13)) = some true
  k13_14 : PySem.W.kitOne K (.ref (C 13)) (.ref (C 14)) = some false
  k13_15 : PySem.W.kitOne K (.ref (C 13)) (.ref (C 15)) = some false
  k13_16 : PySem.W.kitOne K (.ref (C 13)) (.ref (C 16)) = some false
  kT13 : PySem.W.kitOne K (.ref (C 13)) (.ref cT) = some true
  kN13 : PySem.W.kitOne K (.ref (C 13)) (.ref cN) = some false
  kV13 : PySem.W.kitOne K (.ref (C 13)) (.type "ValueError") = some true
  eW13 : PySem.W.exmOne K (.ref (C 13)) (.ref cW) = some true
  x13 : XfC K (C 13)
  n13_at : PySem.W.findIn K (.ref (C 13)) "at" = some none
  gT : mg "NoThing" = some (.ref cT)
  gN : mg "NotNow" = some (.ref cN)
  gW : mg "WayError" = some (.ref cW)
theorem scMarks : FnScope ["_law_e", "_law_marks_here"] ["_law_e"] (defScope sMarks) := ⟨rfl, rfl, rfl, by decide +kernel, rfl, by decide +kernel, by decide +kernel⟩
theorem scWord : FnScope ["_law_e", "_law_marks_here", "_law_at", "_law_words", "_law_word_here"] ["_law_e"] (defScope sWord) := ⟨rfl, rfl, rfl, by decide +kernel, rfl, by decide +kernel, by decide +kernel⟩
def marksOf (m : Nat) : List V := (List.range 17).map fun i => .bl (i == m)
def wordOf (m : Nat) : Str := (["net", "place", "road", "many", "shut", "cost", "number", "way", "word", "time", "change", "paper", "line", "text", "ask", "nothing", "more"] : List Str).getD m ""
def flOf (m : Nat) : List Str := (([[], [], [], [], [], [], [], [], [], [], [], [], [], ["at"], ["number"], [], ["many", "most"]] : List (List Str))).getD m []
def spMarks (m : Nat) : Addr → Option Addr → List V → Hp → VK → Prop := fun a x vs H Q => vs = [.ref a] ∧ HasF H x ∧ ∀ H' l, Same H H' → H' l = some (.lst (marksOf m)) → Q (.ref l) H'
def spWord (m : Nat) : Addr → Option Addr → List V → Hp → VK → Prop := fun a x vs H Q => vs = [.ref a] ∧ ∃ ws, ws.length = (flOf m).length ∧ ((flOf m = [] ∧ x = none) ∨ ∃ dd, x = some dd ∧ H dd = some (.xd ((flOf m).zip ws))) ∧ ∀ H' t, Same H H' → H t = none → H' t = some (.tup (.str (wordOf m) :: ws)) → Q (.ref t) H'
section
variable {P : Program} {w : World} {K : PySem.W.Frag} {mg : Str → Option Value} {base : Heap} {C : Nat → Addr} {cT cN cW : Addr}
theorem ok_marks13 {f : Addr} {fd : FuncData} {k : Nat} (Z : Cl K mg C cT cN cW) (mi : mg "isinstance" = none) (D : Df K mg "_law_marks" sMarks ["_law_e"] f fd) : FnX P w K mg base (k + 1) f fd ["_law_e"] (C 13) (spMarks 13) := by
  refine fnX_of D.F scMarks (fun a x vs H Q h => ?_) (fun cdv A outer s H vs Q p hr hz h => ?_)
  · obtain ⟨rfl, _⟩ := h
    rfl
  · obtain ⟨rfl, hF, q⟩ := h
    have hp : ∀ {G : Value → Shared → Prop}, p ∈ ((L2H.cxH CX0 P w K mg base ["_law_e", "_law_marks_here"] "_law_marks" (defScope sMarks) f cdv A outer s H E0 p).wish G).pn := List.mem_singleton.mpr rfl
    obtain ⟨a, oe⟩ := p
    refine ⟨_, (pss_cons (ps_set (i := 1) scMarks.nd rfl (.inl rfl) (pe_lst (pa_cons (pe_callB (call_isX Z.c13 hp hz) (by rfl) mi (by decide +kernel) (pa_cons (pv 0) (pa_cons (pe_glob (v := .ref (C 0)) (by rfl) Z.g0 rfl) pa_nil))) (pa_cons (pe_callB (call_isX Z.c13 hp hz) (by rfl) mi (by decide +kernel) (pa_cons (pv 0) (pa_cons (pe_glob (v := .ref (C 1)) (by rfl) Z.g1 rfl) pa_nil))) (pa_cons (pe_callB (call_isX Z.c13 hp hz) (by rfl) mi (by decide +kernel) (pa_cons (pv 0) (pa_cons (pe_glob (v := .ref (C 2)) (by rfl) Z.g2 rfl) pa_nil))) (pa_cons (pe_callB (call_isX Z.c13 hp hz) (by rfl) mi (by decide +kernel) (pa_cons (pv 0) (pa_cons (pe_glob (v := .ref (C 3)) (by rfl) Z.g3 rfl) pa_nil))) pa_nil))))))
    (pss_cons (ps_set (i := 1) scMarks.nd rfl (.inl rfl) (pe_op op_cat (pv 1) (pe_lst (pa_cons (pe_callB (call_isX Z.c13 hp hz) (by rfl) mi (by decide +kernel) (pa_cons (pv 0) (pa_cons (pe_glob (v := .ref (C 4)) (by rfl) Z.g4 rfl) pa_nil))) (pa_cons (pe_callB (call_isX Z.c13 hp hz) (by rfl) mi (by decide +kernel) (pa_cons (pv 0) (pa_cons (pe_glob (v := .ref (C 5)) (by rfl) Z.g5 rfl) pa_nil))) (pa_cons (pe_callB (call_isX Z.c13 hp hz) (by rfl) mi (by decide +kernel) (pa_cons (pv 0) (pa_cons (pe_glob (v := .ref (C 6)) (by rfl) Z.g6 rfl) pa_nil))) (pa_cons (pe_callB (call_isX Z.c13 hp hz) (by rfl) mi (by decide +kernel) (pa_cons (pv 0) (pa_cons (pe_glob (v := .ref (C 7)) (by rfl) Z.g7 rfl) pa_nil))) pa_nil)))))))
    (pss_cons (ps_set (i := 1) scMarks.nd rfl (.inl rfl) (pe_op op_cat (pv 1) (pe_lst (pa_cons (pe_callB (call_isX Z.c13 hp hz) (by rfl) mi (by decide +kernel) (pa_cons (pv 0) (pa_cons (pe_glob (v := .ref (C 8)) (by rfl) Z.g8 rfl) pa_nil))) (pa_cons (pe_callB (call_isX Z.c13 hp hz) (by rfl) mi (by decide +kernel) (pa_cons (pv 0) (pa_cons (pe_glob (v := .ref (C 9)) (by rfl) Z.g9 rfl) pa_nil))) (pa_cons (pe_callB (call_isX Z.c13 hp hz) (by rfl) mi (by decide +kernel) (pa_cons (pv 0) (pa_cons (pe_glob (v := .ref (C 10)) (by rfl) Z.g10 rfl) pa_nil))) (pa_cons (pe_callB (call_isX Z.c13 hp hz) (by rfl) mi (by decide +kernel) (pa_cons (pv 0) (pa_cons (pe_glob (v := .ref (C 11)) (by rfl) Z.g11 rfl) pa_nil))) pa_nil)))))))
    (pss_cons (ps_set (i := 1) scMarks.nd rfl (.inl rfl) (pe_op op_cat (pv 1) (pe_lst (pa_cons (pe_callB (call_isX Z.c13 hp hz) (by rfl) mi (by decide +kernel) (pa_cons (pv 0) (pa_cons (pe_glob (v := .ref (C 12)) (by rfl) Z.g12 rfl) pa_nil))) (pa_cons (pe_callB (call_isX Z.c13 hp hz) (by rfl) mi (by decide +kernel) (pa_cons (pv 0) (pa_cons (pe_glob (v := .ref (C 13)) (by rfl) Z.g13 rfl) pa_nil))) (pa_cons (pe_callB (call_isX Z.c13 hp hz) (by rfl) mi (by decide +kernel) (pa_cons (pv 0) (pa_cons (pe_glob (v := .ref (C 14)) (by rfl) Z.g14 rfl) pa_nil))) (pa_cons (pe_callB (call_isX Z.c13 hp hz) (by rfl) mi (by decide +kernel) (pa_cons (pv 0) (pa_cons (pe_glob (v := .ref (C 15)) (by rfl) Z.g15 rfl) pa_nil))) pa_nil)))))))
    (pss_one (ps_ret (pe_op op_cat (pv 1) (pe_lst (pa_cons (pe_callB (call_isX Z.c13 hp hz) (by rfl) mi (by decide +kernel) (pa_cons (pv 0) (pa_cons (pe_glob (v := .ref (C 16)) (by rfl) Z.g16 rfl) pa_nil))) pa_nil))))))))), ?_⟩
    refine ⟨.ref a, rfl, .ref (C 0), .ref (C 0), _, rfl, (fun u r => r), Z.k13_0, hF.same (fun b o e => e), .ref a, rfl, .ref (C 1), .ref (C 1), _, rfl, (fun u r => r), Z.k13_1, hF.same (fun b o e => e), .ref a, rfl, .ref (C 2), .ref (C 2), _, rfl, (fun u r => r), Z.k13_2, hF.same (fun b o e => e), .ref a, rfl, .ref (C 3), .ref (C 3), _, rfl, (fun u r => r), Z.k13_3, hF.same (fun b o e => e), by show 4 ≤ sizeLine; decide, fun l1 n1 => ?_⟩
    refine ⟨.ref l1, rfl, .ref a, rfl, .ref (C 4), .ref (C 4), _, rfl, (fun u r => r), Z.k13_4, hF.same (fun b o e => same_new n1 _ _ (e)), .ref a, rfl, .ref (C 5), .ref (C 5), _, rfl, (fun u r => r), Z.k13_5, hF.same (fun b o e => same_new n1 _ _ (e)), .ref a, rfl, .ref (C 6), .ref (C 6), _, rfl, (fun u r => r), Z.k13_6, hF.same (fun b o e => same_new n1 _ _ (e)), .ref a, rfl, .ref (C 7), .ref (C 7), _, rfl, (fun u r => r), Z.k13_7, hF.same (fun b o e => same_new n1 _ _ (e)), by show 4 ≤ sizeLine; decide, fun l2 n2 => ⟨l1, l2, _, _, rfl, rfl, same_new n2 _ _ upd_same, upd_same, by show 8 ≤ sizeLine; decide, fun l3 n3 => ?_⟩⟩
    refine ⟨.ref l3, rfl, .ref a, rfl, .ref (C 8), .ref (C 8), _, rfl, (fun u r => r), Z.k13_8, hF.same (fun b o e => same_new n3 _ _ (same_new n2 _ _ (same_new n1 _ _ (e)))), .ref a, rfl, .ref (C 9), .ref (C 9), _, rfl, (fun u r => r), Z.k13_9, hF.same (fun b o e => same_new n3 _ _ (same_new n2 _ _ (same_new n1 _ _ (e)))), .ref a, rfl, .ref (C 10), .ref (C 10), _, rfl, (fun u r => r), Z.k13_10, hF.same (fun b o e => same_new n3 _ _ (same_new n2 _ _ (same_new n1 _ _ (e)))), .ref a, rfl, .ref (C 11), .ref (C 11), _, rfl, (fun u r => r), Z.k13_11, hF.same (fun b o e => same_new n3 _ _ (same_new n2 _ _ (same_new n1 _ _ (e)))), by show 4 ≤ sizeLine; decide, fun l4 n4 => ⟨l3, l4, _, _, rfl, rfl, same_new n4 _ _ upd_same, upd_same, by show 12 ≤ sizeLine; decide, fun l5 n5 => ?_⟩⟩
    refine ⟨.ref l5, rfl, .ref a, rfl, .ref (C 12), .ref (C 12), _, rfl, (fun u r => r), Z.k13_12, hF.same (fun b o e => same_new n5 _ _ (same_new n4 _ _ (same_new n3 _ _ (same_new n2 _ _ (same_new n1 _ _ (e)))))), .ref a, rfl, .ref (C 13), .ref (C 13), _, rfl, (fun u r => r), Z.k13_13, hF.same (fun b o e => same_new n5 _ _ (same_new n4 _ _ (same_new n3 _ _ (same_new n2 _ _ (same_new n1 _ _ (e)))))), .ref a, rfl, .ref (C 14), .ref (C 14), _, rfl, (fun u r => r), Z.k13_14, hF.same (fun b o e => same_new n5 _ _ (same_new n4 _ _ (same_new n3 _ _ (same_new n2 _ _ (same_new n1 _ _ (e)))))), .ref a, rfl, .ref (C 15), .ref (C 15), _, rfl, (fun u r => r), Z.k13_15, hF.same (fun b o e => same_new n5 _ _ (same_new n4 _ _ (same_new n3 _ _ (same_new n2 _ _ (same_new n1 _ _ (e)))))), by show 4 ≤ sizeLine; decide, fun l6 n6 => ⟨l5, l6, _, _, rfl, rfl, same_new n6 _ _ upd_same, upd_same, by show 16 ≤ sizeLine; decide, fun l7 n7 => ?_⟩⟩
    refine ⟨.ref l7, rfl, .ref a, rfl, .ref (C 16), .ref (C 16), _, rfl, (fun u r => r), Z.k13_16, hF.same (fun b o e => same_new n7 _ _ (same_new n6 _ _ (same_new n5 _ _ (same_new n4 _ _ (same_new n3 _ _ (same_new n2 _ _ (same_new n1 _ _ (e)))))))), by show 1 ≤ sizeLine; decide, fun l8 n8 => ⟨l7, l8, _, _, rfl, rfl, same_new n8 _ _ upd_same, upd_same, by show 17 ≤ sizeLine; decide, fun l9 n9 => ?_⟩⟩
    refine q _ l9 (fun b o e => ?_) upd_same
    exact same_new n9 _ _ (same_new n8 _ _ (same_new n7 _ _ (same_new n6 _ _ (same_new n5 _ _ (same_new n4 _ _ (same_new n3 _ _ (same_new n2 _ _ (same_new n1 _ _ e))))))))
theorem ok_word13 {f fM : Addr} {fd dM : FuncData} {k : Nat} (Z : Cl K mg C cT cN cW) (mi : mg "isinstance" = none) (mV : mg "ValueError" = none) (DM : Df K mg "_law_marks" sMarks ["_law_e"] fM dM) (D : Df K mg "_law_word" sWord ["_law_e"] f fd) : FnX P w K mg base (k + 2) f fd ["_law_e"] (C 13) (spWord 13) := by
  have GM : FnX P w K mg base (k + 1) fM dM ["_law_e"] (C 13) (spMarks 13) := ok_marks13 Z mi DM
  refine fnX_of D.F scWord (fun a x vs H Q h => ?_) (fun cdv A outer s H vs Q p hr hz h => ?_)
  · obtain ⟨rfl, _⟩ := h
    rfl
  · obtain ⟨rfl, ws, hl, hd, q⟩ := h
    have hF : HasF H p.2.dict := fun dd e => by
      rcases hd with ⟨_, z⟩ | ⟨d1, z, z2⟩
      · rw [z] at e
        cases e
      · rw [z] at e
        cases e
        exact ⟨_, z2⟩
    have hp : ∀ {G : Value → Shared → Prop}, p ∈ ((L2H.cxH CX0 P w K mg base ["_law_e", "_law_marks_here", "_law_at", "_law_words", "_law_word_here"] "_law_word" (defScope sWord) f cdv A outer s H E0 p).wish G).pn := List.mem_singleton.mpr rfl
    have hu : (A.deeper (envOfC "_law_word" (defScope sWord) s.heap.objs.size f cdv)).units + 64 < cLine := by
      have := hr.un
      omega
    obtain ⟨a, oe⟩ := p
    refine ⟨_, (pss_cons (ps_set (i := 1) scWord.nd rfl (.inl rfl) (pe_callX GM hr hp hz (by rfl) DM.g DM.F.kp DM.b (pa_cons (pv 0) pa_nil)))
    (pss_cons (ps_if (PW.pt (pw_or (pt_cmpR op_ne (pe_bm PySem.F.plainAttrs_list PySem.F.slot_list_count PySem.F.type_list_count mt_countV (pv 1) (pa_cons pe_bl pa_nil)) pe_int (nomark _)) (pw_or1 (pt_not (pt_val (pe_callB (call_isX Z.c13 hp hz) (by rfl) mi (by decide +kernel) (pa_cons (pv 0) (pa_cons (pe_bltn (v := .ty "ValueError") (by rfl) mV (by decide +kernel) rfl) pa_nil)))))))) pss_never pss_nil)
    (pss_cons (ps_set (i := 2) scWord.nd rfl (.inl rfl) (pe_bm PySem.F.plainAttrs_list PySem.F.slot_list_index PySem.F.type_list_index mt_index (pv 1) (pa_cons pe_bl pa_nil)))
    (pss_cons (ps_if (pt_cmpR (op_neD hu) (pe_lst (pa_cons (pe_callB (call_isX Z.c13 hp hz) (by rfl) mi (by decide +kernel) (pa_cons (pv 0) (pa_cons (pe_glob (v := .ref cT) (by rfl) Z.gT rfl) pa_nil))) (pa_cons (pe_callB (call_isX Z.c13 hp hz) (by rfl) mi (by decide +kernel) (pa_cons (pv 0) (pa_cons (pe_glob (v := .ref cN) (by rfl) Z.gN rfl) pa_nil))) pa_nil))) (pe_lst (pa_cons (pe_cmpR op_lt (pv 2) pe_int (nomark _)) (pa_cons (pe_cmpR op_gt (pv 2) pe_int (nomark _)) pa_nil))) (nomark _)) pss_never pss_nil)
    (pss_cons (ps_set (i := 3) scWord.nd rfl (.inl rfl) (pe_lst (pa_cons pe_str (pa_cons pe_str (pa_cons pe_str (pa_cons pe_str (pa_cons pe_str (pa_cons pe_str (pa_cons pe_str (pa_cons pe_str (pa_cons pe_str (pa_cons pe_str (pa_cons pe_str (pa_cons pe_str (pa_cons pe_str pa_nil)))))))))))))))
    (pss_cons (ps_set (i := 4) scWord.nd rfl (.inl rfl) (pe_ix ix_list (pe_op op_cat (pv 3) (pe_lst (pa_cons pe_str (pa_cons pe_str (pa_cons pe_str (pa_cons pe_str pa_nil)))))) (pv 2) (fun _ _ => rfl)))
    (pss_cons (ps_if (pt_cmpR op_eq (pv 4) pe_str (nomark _)) (pss_one (ps_ret (pe_tup (pa_cons (pv 4) (pa_cons (pe_xfP Z.x13 Z.n13_at hp hz (pv 0)) pa_nil))))) pss_nil)
    (pss_cons (ps_if (pt_cmpR op_eq (pv 4) pe_str (nomark _)) pss_never pss_nil)
    (pss_one (ps_ret (pe_ifExp (pt_cmpR op_eq (pv 4) pe_str (nomark _)) pe_no (pe_tup (pa_cons (pv 4) pa_nil))))))))))))), ?_⟩
    refine ⟨.ref a, rfl, rfl, hF, fun H1 l1 s1 e1 => ?_⟩
    refine ⟨.ref l1, rfl, .inl ⟨rfl, _, SqL.of e1⟩, l1, _, .bl true, rfl, rfl, SqL.of e1, rfl, rfl, rfl, _, rfl, iteF ?_⟩
    refine ⟨.ref a, rfl, .ty "ValueError", .type "ValueError", _, rfl, (fun u r => r), Z.kV13, hF.same s1, _, rfl, iteF ?_⟩
    refine ⟨.ref l1, rfl, .inl ⟨rfl, _, SqL.of e1⟩, l1, _, .bl true, 13, .bl true, rfl, rfl, SqL.of e1, rfl, rfl, rfl, rfl, fun j z' hm hz' => ?_, ?_⟩
    · match j, hm with
      | 0, _ => cases hz'; rfl
      | 1, _ => cases hz'; rfl
      | 2, _ => cases hz'; rfl
      | 3, _ => cases hz'; rfl
      | 4, _ => cases hz'; rfl
      | 5, _ => cases hz'; rfl
      | 6, _ => cases hz'; rfl
      | 7, _ => cases hz'; rfl
      | 8, _ => cases hz'; rfl
      | 9, _ => cases hz'; rfl
      | 10, _ => cases hz'; rfl
      | 11, _ => cases hz'; rfl
      | 12, _ => cases hz'; rfl
      | n + 13, h => exact absurd h (by omega)
    · refine ⟨.ref a, rfl, .ref cT, .ref cT, _, rfl, (fun u r => r), Z.kT13, hF.same s1, .ref a, rfl, .ref cN, .ref cN, _, rfl, (fun u r => r), Z.kN13, hF.same s1, by show 2 ≤ sizeLine; decide, fun l2 n2 => ?_⟩
      refine ⟨.int (13 : Nat), rfl, _, _, rfl, rfl, .int (13 : Nat), rfl, _, _, rfl, rfl, by show 2 ≤ sizeLine; decide, fun l3 n3 => ?_⟩
      refine ⟨.list [.bool true, .bool false], .list [.bool true, .bool false], .lst (SqL.of (same_new n3 _ _ upd_same)) (.cons (.bl true) (.cons (.bl false) .nil)), .lst (SqL.of upd_same) (.cons (.bl true) (.cons (.bl false) .nil)), by decide +kernel, by decide +kernel, _, rfl, ?_⟩
      rw [show PyData.eqv (.list [.bool true, .bool false]) (.list [.bool true, .bool false]) = true from by decide +kernel]
      refine iteF ?_
      refine ⟨by show 13 ≤ sizeLine; decide, fun l4 n4 => ?_⟩
      refine ⟨.ref l4, rfl, by show 4 ≤ sizeLine; decide, fun l5 n5 => ⟨l4, l5, _, _, rfl, rfl, same_new n5 _ _ upd_same, upd_same, by show 17 ≤ sizeLine; decide, fun l6 n6 => ?_⟩⟩
      refine ⟨.int (13 : Nat), rfl, l6, _, (13 : Nat), .str "text", rfl, rfl, SqL.of upd_same, rfl, ?_⟩
      rcases hd with ⟨z, _⟩ | ⟨dd, ed, ea⟩
      · exact absurd z (by decide)
      obtain ⟨w0, rfl⟩ : ∃ w0, ws = [w0] := by
        match ws, hl with
        | [w0], _ => exact ⟨w0, rfl⟩
      refine ⟨.str "text", rfl, rfl, _, rfl, ?_⟩
      rw [show decide (V.str (Str.ofString "text") = V.str (Str.ofString "text")) = true from by decide +kernel]
      refine iteT ⟨.str "text", rfl, .ref a, rfl, rfl, dd, _, _, ed, same_new n6 _ _ (same_new n5 _ _ (same_new n4 _ _ (same_new n3 _ _ (same_new n2 _ _ (s1 _ _ ea))))), rfl, by show 2 ≤ sizeLine; decide, fun t nt => ?_⟩
      refine q _ t (fun b o e => ?_) ?_ upd_same
      · exact same_new nt _ _ (same_new n6 _ _ (same_new n5 _ _ (same_new n4 _ _ (same_new n3 _ _ (same_new n2 _ _ (s1 _ _ e))))))
      · cases z : H t with
        | none => rfl
        | some o =>
          refine absurd (Eq.trans (Eq.symm ?_) nt) (fun (e : some o = none) => nomatch e)
          exact same_new n6 _ _ (same_new n5 _ _ (same_new n4 _ _ (same_new n3 _ _ (same_new n2 _ _ (s1 _ _ z)))))
/-- the word of each of these classes -/
def Words (P : Program) (w : World) (K : PySem.W.Frag) (mg : Str → Option Value) (base : Heap) (k : Nat) (f : Addr) (fd : FuncData) (C : Nat → Addr) (cW : Addr) : Prop := ∀ m ∈ [13], FnX P w K mg base k f fd ["_law_e"] (C m) (spWord m) ∧ PySem.W.exmOne K (.ref (C m)) (.ref cW) = some true
theorem ok_words {f fM : Addr} {fd dM : FuncData} {k : Nat} (Z : Cl K mg C cT cN cW) (mi : mg "isinstance" = none) (mV : mg "ValueError" = none) (DM : Df K mg "_law_marks" sMarks ["_law_e"] fM dM) (D : Df K mg "_law_word" sWord ["_law_e"] f fd) : Words P w K mg base (k + 2) f fd C cW := fun m hm => by
  simp only [List.mem_cons, List.not_mem_nil, or_false] at hm
  rcases hm with rfl
  · exact ⟨ok_word13 Z mi mV DM D, Z.eW13⟩
theorem scSaid : FnScope ["_law_call", "_law_e"] ["_law_call"] (defScope sSaid) := ⟨rfl, rfl, rfl, by decide +kernel, rfl, by decide +kernel, by decide +kernel⟩
theorem said_gives {X : Cx} {g fW : Addr} {dW : FuncData} {cdg : Value} {q : Str} {k : Nat} (GW : Words X.prog X.w X.K X.mg X.base k fW dW C cW) (DW : Df X.K X.mg "_law_word" sWord ["_law_e"] fW dW) (hr : Room (k + 1) X.A)
    (gW : X.mg "WayError" = some (.ref cW)) : LamX.GivesTo X ["_law_call", "_law_e"] "_law_said" (defScope sSaid) g cdg (defBody sSaid) "_law_call" q (TSaidF C [13] wordOf flOf) := by
  intro f c' s H Q tl act hc h
  have room : L2H.RoomH k (X.A.deeper (envOfC "_law_said" (defScope sSaid) s.heap.objs.size g cdg)) := L2H.roomH_of (hr.deeper _)
  refine ⟨_, pss_one (ps_try_as (X := (cxOf C8.CX0 X.prog X.w X.K X.mg X.base ["_law_call", "_law_e"] "_law_said" (defScope sSaid) g cdg X.A X.stack s H C8.E0).nox) (c := .ref cW) (i := 1)
      (tb := fun W E σ H => ∃ Ech : XK, (∀ cls d σ' H', Ech cls d H' → W cls d σ' H') ∧ σ[0]? = some (some (.ref f)) ∧ H c' = some (LamX.CodeO c' q) ∧ tl Ech H fun v G => ([V.str "told", v] : List V).length ≤ sizeLine ∧ ∀ p, G p = none → E.rt (.ref p) (upd G p (.tup [.str "told", v])))
      (ts := fun a cls d E σ H => ∃ m, m ∈ [13] ∧ cls = .ref (C m) ∧ (σ.length = 2 → ∃ v, σ[1]? = some (some v) ∧ spWord m a d [v] H E.rt)) (Wout := fun _ _ _ _ => False)
      rfl rfl scSaid.nd rfl rfl ⟨rfl, by decide, .inl gW⟩ L2.takes0 (fun W pn xe tk _ => ?_) (fun a oe cls d pn hz hf => ?_)), ?_⟩
  · refine ⟨fun pins s' σ H' E I h' => ?_⟩
    obtain ⟨Ech, hW, h1, h2, h3⟩ := h'
    exact PSs.run (pss_one (ps_ret (pe_tup (pa_cons pe_str (pa_cons (act W pn xe Ech _ _ tk hW) pa_nil))))) pins s' σ H' E I ⟨h1, h2, h3⟩
  · refine ⟨fun pins s' σ H' E I h' => ?_⟩
    obtain ⟨m, hm, rfl, h⟩ := h'
    obtain ⟨v, hv, hw⟩ := h I.len
    rw [← hz.2] at hw
    exact PSs.run (pss_one (ps_ret (pe_callX (X := ((cxOf C8.CX0 X.prog X.w X.K X.mg X.base ["_law_call", "_law_e"] "_law_said" (defScope sSaid) g cdg X.A X.stack s H C8.E0).nox).suite a ((a, oe) :: pn)) (p := (a, oe)) (GW m hm).1 ⟨room.dp, room.un⟩ List.mem_cons_self ⟨hz.1, hf⟩ (by rfl) DW.g DW.F.kp DW.b (pa_cons (pv 1) pa_nil)))) pins s' σ H' E I ⟨v, hv, hw⟩
  · refine ⟨_, fun cls d σ' H' hE => ?_, rfl, hc, h⟩
    obtain ⟨m, vs, hm, rfl, hl1, hd1, hq⟩ := hE
    refine ⟨true, (GW m hm).2, fun _ a _ => ⟨m, hm, rfl, fun hl => ⟨.ref a, ?_, rfl, vs, hl1, hd1, fun G t sm n e => hq G t sm n e⟩⟩, fun z => nomatch z⟩
    rw [List.length_set] at hl
    rw [List.getElem?_set_self (by omega)]
end
end Wy

set_option synthInstance.maxHeartbeats 2000000
set_option synthInstance.maxSize 100000
namespace Wy
open PySem PySem.Spec PyProof.Rows L2 Dl LamX
local macro_rules | `(tactic| walk_at "dl4") => `(tactic| simp only [startD, iEn, cvs, cv, vS, Sl.dat, Sl.seq, Sl.sq, Sl.fz, dats, dSetI, dAug, wipeD, List.length_cons, List.length_nil, List.length_append, List.length_replicate, Nat.reduceAdd, Nat.reduceSub, Nat.zero_add, List.replicate_succ, List.replicate_zero, List.cons_append, List.nil_append, List.append_nil, List.set_cons_zero, List.set_cons_succ, List.set_nil, List.getElem?_cons_zero, List.getElem?_cons_succ, Option.getD_some, List.map_cons, List.map_nil, Option.bind_some, fI0_c, fI_c, fU_c, fAddX_i, fAddX_t, fAddX_s, fAddX_mm, fAddX_bm, fAddX_mb, fAddX_bb, fAddX_lm, fAddX_ll, fMulX_i, fMulX_m, fSlX_t, fSlX_m, fSlX_b, fSlX_l, fIs_n, fIs_i, fIs_b, fIs_s, fIs_l, fIs_t, fIs_m, fIs_bl, fLen_t, fLen_l, fLen_m, fLen_b, fLen_scr, fIsi_c, fEqD_c, fEqD_mm, fEqD_bm, fEqD_bb, fEqD_dm, fEq_ss, fInt_i, fInt_b, fTuple_m, fTuple_b, fTuple_t, fTuple_l, fList_m, fList_b, fList_t, fList_l, f2I_c, fRepr_c, fRepr_m, fRepr_b, fStr_c, Bool.not_true, Bool.not_false, true_and, netT, Road.dt, reduceIte, Bool.false_eq_true, decide_true, decide_false, tupK, lstK, dNext_c, dBreak_c, dCont_c, dSeq_c, dDrop_c, dRet_c, retK_d, retK_m, retK_r, dRetN_c, dIfS_c, iteS_t, iteS_f, dSet_c, setK_d, setK_m, setK_s, setK_r, dAsg_c, asgK_d, asgK_m, dFz_c, dNever_c, dRaise_c, dC_c, dOp_c, dUn_c, dTst_c, tstK_c, dTru_c, truK_n, truK_b, truK_i, truK_t, truK_l, truK_m, truK_bl, dNot_c, dAnd_c, andK_t, andK_f, dOr_c, orK_t, orK_f, dAndV_c, andV_t, andV_f, dOrV_c, orV_t, orV_f, dNotV_c, dIf_c, iteE_t, iteE_f, dChain_c, chK_t, chK_f, dNil_c, dCons_c, dCB_c, dCall_c, dCall0_c, dTup_c, dLst_c, dFor_c, dLc_c, iTp_c, tpK_c, iLst_c, lsK_d, lsK_m, iSeq_c, sqK_d, sqK_m, sqK_b, dSl_c, dNo_c, dPt_c, ptK_c, dYes_c, dBack_k, backK_c, dTupRg_c, dLstRg_c, dRg1_c, dRg2_c, rg1K_c, rg2K_c, tupRg_c, lstRg_c, dDict0_c, dDict1_c, gdName_c, gdTup_c, gdCons_c, gdNil_c, dApp_c, appK_c, apK_d, apK_m, dVar_c, varK_d, varK_m, varK_b, varK_s, varK_sc, varK_r, dNew_c, varK_mo, varK_bo, setK_mo, retK_mo, dDIn_c, dinK_i, dinK_s, dDGet_c, dDGet1_c, isBo_c, dget1K_i, dDPut_c, dputV_d, dputK_i, val_mo, dOwn0_c, dDispV_c, dispK_i, fRepT_c, fIsB_c, dM0_c, dM1_c, isStr_c, fQ0_c, fQ1_c, fSplit_c, fLenS_c, iEnSD_c, dSetdIf_c, setdB_f, enSK_m, enSK_d, dOrT_c, dAndT_c, orTK_n, dCallK_c, dCallK0_c, dCallD_c, dCallD0_c, dSaid_c, toldK_d, toldK_m, iRg1_c, rgK_c, iRg2_c, rgK2_c, iEnT_c, enK_c, iZp_c, zpK_tt, zpK_mm, zpK_ll, zpK_lm, zpK_ml, dPar_c, parK_im, parK_nm, parK_sm, parK_dd, parK_md, dRaiseF1_c, dBackL_k, dSaidF_c])
abbrev sLaw : Stmt := topS 55
def qLaw : Str := (envOfC "law" (defScope sLaw) 0 0 .none).qual ++ "<lambda>"
theorem scLaw : FnScope ["_law_script", "_law_some", "_law_text", "_law_k", "_law_state_here", "_law_turn", "_law_things", "_law_lap", "_law_one", "_law_what"] ["_law_script"] (defScope sLaw) := ⟨rfl, rfl, rfl, by decide +kernel, rfl, by decide +kernel, by decide +kernel⟩
theorem sh_net {p : Int} {rs : List Road} (ok : NetOk p rs) : Sh (netT p rs) 20000 3 := by
  have l30 := ok.len
  have p1 := ok.p1
  have p2 := ok.p2
  have hr : ∀ d ∈ rs.map Road.dt, Sh d 172 1 := fun d hd => by
    obtain ⟨q, hq, rfl⟩ := List.mem_map.mp hd
    have rn := road_nums (ok.all q hq) p2
    refine (Sh.tuple (n := 40) (m := 0) (k := 4) (fun e he => ?_) (Nat.le_refl _)).mono (by decide) (Nat.le_refl _)
    simp only [List.mem_cons, List.not_mem_nil, or_false] at he
    rcases he with rfl | rfl | rfl | rfl
    · exact Sh.int (by have := rn q.one (by simp); omega)
    · exact Sh.int (by have := rn q.other (by simp); omega)
    · exact Sh.int (by have := rn q.cost (by simp); omega)
    · exact Sh.int (by have := rn q.time (by simp); omega)
  have h2 : Sh (.tuple (rs.map Road.dt)) 5224 2 := (Sh.tuple (k := 30) hr (by rw [List.length_map]; exact l30)).mono (by decide) (Nat.le_refl _)
  refine (Sh.tuple (n := 5224) (m := 2) (k := 2) (fun e he => ?_) (Nat.le_refl _)).mono (by decide) (Nat.le_refl _)
  simp only [List.mem_cons, List.not_mem_nil, or_false] at he
  rcases he with rfl | rfl
  · exact (Sh.int (by omega)).mono (by decide) (by decide)
  · exact h2
theorem scan_ok {p : Int} (p1 : 1 ≤ p) (p2 : p ≤ 10) : ∀ (ls : List Str) (i : Nat) (acc : List Road), acc.length + 1 = i → i ≤ 31 → (∀ q ∈ acc, RoadOk p q) →
    (∃ n : Int, scanL p i ls (acc.map Road.dt) = .inl n ∧ 0 ≤ n ∧ n ≤ 31) ∨ ∃ rs : List Road, scanL p i ls (acc.map Road.dt) = .inr (netT p rs) ∧ NetOk p rs
  | [], i, acc, hi, h31, ha => .inr ⟨acc, rfl, p1, p2, by omega, ha⟩
  | l :: r, i, acc, hi, h31, ha => by
    by_cases hc : roadD p (.tuple ((Txt.split l " ").map (figD 2))) = false ∨ 30 < i
    · exact .inl ⟨i, by rw [scanL, if_pos hc], by omega, by omega⟩
    · have hr : roadD p (.tuple ((Txt.split l " ").map (figD 2))) = true := by
        cases e : roadD p (.tuple ((Txt.split l " ").map (figD 2))) with
        | true => rfl
        | false => exact absurd (.inl e) hc
      obtain ⟨q, eq, ok⟩ := roadD_true hr
      have h30 : ¬ 30 < i := fun z => hc (.inr z)
      rw [scanL, if_neg hc, eq, show acc.map Road.dt ++ [q.dt] = (acc ++ [q]).map Road.dt from by rw [List.map_append]; rfl]
      refine scan_ok p1 p2 r (i + 1) (acc ++ [q]) (by rw [List.length_append, List.length_singleton]; omega) (by omega) fun x hx => ?_
      rcases List.mem_append.mp hx with z | z
      · exact ha x z
      · rw [List.mem_singleton.mp z]
        exact ok
theorem read_ok (x : PyData) : (∃ n : Int, readD x = .inl n ∧ -1 ≤ n ∧ n ≤ 31) ∨ ∃ (p : Int) (rs : List Road), readD x = .inr (netT p rs) ∧ NetOk p rs := by
  cases x with
  | str a =>
    show (∃ n : Int, readL (Txt.split a "\n") = .inl n ∧ _) ∨ ∃ (p : Int) (rs : List Road), readL (Txt.split a "\n") = .inr _ ∧ _
    generalize Txt.split a "\n" = ls
    cases ls with
    | nil => exact .inl ⟨0, rfl, by decide, by decide⟩
    | cons l r =>
      rw [readL]
      rcases fig2_nn l with e | ⟨p, e⟩
      · rw [e]
        exact .inl ⟨0, rfl, by decide, by decide⟩
      · rw [e]
        show (∃ n : Int, (if 1 ≤ p ∧ p ≤ 10 then scanL p 1 r [] else .inl 0) = .inl n ∧ _) ∨ ∃ (p' : Int) (rs : List Road), (if 1 ≤ p ∧ p ≤ 10 then scanL p 1 r [] else .inl 0) = .inr _ ∧ _
        by_cases hp : 1 ≤ p ∧ p ≤ 10
        · rw [if_pos hp]
          rcases scan_ok hp.1 hp.2 r 1 [] rfl (by decide) (fun _ h => nomatch h) with ⟨n, e, h0, h1⟩ | ⟨rs, e, ok⟩
          · exact .inl ⟨n, e, by omega, h1⟩
          · exact .inr ⟨p, rs, e, ok⟩
        · rw [if_neg hp]
          exact .inl ⟨0, rfl, by decide, by decide⟩
  | _ => exact .inl ⟨-1, rfl, by decide, by decide⟩
/-- what is shown of a text that was read -/
theorem told_ok (x : PyData) : Sh (toldL (readD x)) 50000 4 ∧ Lay (toldL (readD x)) 4 := by
  rcases read_ok x with ⟨n, e, h0, h1⟩ | ⟨p, rs, e, ok⟩
  · rw [e]
    refine ⟨(Sh.tuple (n := 40) (m := 0) (k := 2) (fun y hy => ?_) (Nat.le_refl _)).mono (by decide) (by decide), lay_tup (n := 3) fun y hy => ?_⟩
    · simp only [List.mem_cons, List.not_mem_nil, or_false] at hy
      rcases hy with rfl | rfl
      · exact sh_text (by decide +kernel)
      · exact Sh.int (by omega)
    · simp only [List.mem_cons, List.not_mem_nil, or_false] at hy
      rcases hy with rfl | rfl
      · exact lay_str (by decide +kernel) _
      · exact lay_int _ _
  · rw [e]
    refine ⟨(Sh.tuple (n := 20000) (m := 3) (k := 2) (fun y hy => ?_) (Nat.le_refl _)).mono (by decide) (by decide), lay_tup (n := 3) fun y hy => ?_⟩
    · simp only [List.mem_cons, List.not_mem_nil, or_false] at hy
      rcases hy with rfl | rfl
      · exact (sh_text (by decide +kernel)).mono (by decide) (by decide)
      · exact sh_net ok
    · simp only [List.mem_cons, List.not_mem_nil, or_false] at hy
      rcases hy with rfl | rfl
      · exact lay_str (by decide +kernel) _
      · exact lay_net p rs
theorem ends_said {C : Nat → Addr} {r : Int ⊕ PyData} {Qd : Sl → Prop} (q : Qd (.d (toldL r))) : endsT (C 13) (fun s => match s.dat with
  | some x => Qd (.d (.tuple [.str "told", x]))
  | none => False) (fun er => ∃ m, m ∈ [13] ∧ er.1 = C m ∧ er.2.map (·.1) = flOf m ∧ Qd (.d (.tuple (.str (wordOf m) :: er.2.map (·.2))))) r := by
  cases r with
  | inl n => exact ⟨13, List.mem_cons_self, rfl, rfl, q⟩
  | inr d => exact q
theorem ends_of {c : Addr} {Qd : Sl → Prop} {R : Er → Prop} {r : Int ⊕ PyData} (h1 : ∀ n, r = .inl n → R (c, [("at", .int n)])) (h2 : ∀ d, r = .inr d → Qd (.d d)) : endsT c Qd R r := by
  cases r with
  | inl n => exact h1 n rfl
  | inr d => exact h2 d rfl
/-- a thing that is read -/
def TxOk (d : PyData) : Prop := ∀ a, d = .str a → TextOk a
def textB : PyData → Bool
  | .str a => a.cps.toList.all (fun c => decide (c < 128)) && decide (a.length ≤ 9999)
  | _ => true
theorem tx_of {d : PyData} (h : textB d = true) : TxOk d := fun a e => by
  subst e
  have h : (a.cps.toList.all (fun c => decide (c < 128)) && decide (a.length ≤ 9999)) = true := h
  rw [Bool.and_eq_true] at h
  exact text_ok (fun c hc => of_decide_eq_true (List.all_eq_true.mp h.1 c hc)) (of_decide_eq_true h.2)
theorem tx_all (ds : List PyData) (h : ds.all textB = true) : ∀ d ∈ ds, TxOk d := fun d hd => tx_of (List.all_eq_true.mp h d hd)
theorem tx_odd : ∀ d ∈ oddM, TxOk d := tx_all _ (by decide +kernel)
theorem tx_plain {a : Str} {n : Nat} (h : Plain a n) (hn : n ≤ 9999) : TxOk (.str a) := fun b e => by
  cases e
  exact text_ok h.sig (Nat.le_trans h.len hn)
theorem lcD_allM {fg : FG} {ft : TDT} {fe : TD} {ρ : List Sl} {R : Er → Prop} {Qd : List PyData → Prop} (S : PyData → Prop) : ∀ (ds acc : List PyData),
    (∀ d ∈ ds, ∀ acc N, acc.length < sizeLine → (∀ y, S y → N (acc ++ [y])) → lcStep fg ft fe ρ R d acc N) → acc.length + ds.length ≤ 100000 → (∀ ys, ys.length = ds.length → (∀ y ∈ ys, S y) → Qd (acc ++ ys)) → lcD fg ft fe ρ R Qd ds acc
  | [], acc, _, _, h => by
    have := h [] rfl (fun _ h => nomatch h)
    rw [List.append_nil] at this
    exact this
  | d :: r, acc, step, hl, h => by
    rw [List.length_cons] at hl
    refine lcD_cons (step d List.mem_cons_self acc _ (line_1000 (by omega)) fun y sy => ?_)
    refine lcD_allM S r (acc ++ [y]) (fun d hd => step d (List.mem_cons_of_mem _ hd)) (by rw [List.length_append, List.length_singleton]; omega) fun ys hl hy => ?_
    have := h (y :: ys) (by rw [List.length_cons, List.length_cons, hl]) (fun z hz => (List.mem_cons.mp hz).elim (fun e => e ▸ sy) (hy z))
    rw [List.append_assoc]
    exact this
theorem fRep_str {a : Str} {n : Int} {Qd : Sl → Prop} (h : 2 ≤ n ∧ n ≤ 1000 ∧ 1 ≤ a.length ∧ a.length ≤ 1000) (q : Qd (.d (.str (repS a n.toNat)))) : fRepS (.d (.str a)) (.d (.int n)) Qd := ⟨h.1, h.2.1, h.2.2.1, h.2.2.2, q⟩
theorem fRep_s {d : PyData} {Qd : Sl → Prop} (h : Sh d 10000000 50) (o : okR d = true) (q : Qd (.d (.str d.shown))) : fRepr [.d d] Qd := ⟨h, o, q⟩
section
variable {P : Program} {w : World} {K : PySem.W.Frag} {mg : Str → Option Value} {base : Heap} {C : Nat → Addr} {cT cN cW : Addr}
set_option maxHeartbeats 4000000 in
theorem law_reads {fL c PL a : Addr} {cdv : Value} {s : Shared} {H : Hp} {ns : List Int} (T : Tx P K mg C) (Z : Cl K mg C cT cN cW) (TBL : LamX.TabB base mg c PL) (hc : cdv = .ref c) (hr : Room 14 (callerA.deeper (envOfC "law" (defScope sLaw) s.heap.objs.size fL cdv))) (hPL : H PL = some (.tbl #[])) (hS : SqL K H a (ns.map V.int)) :
    ∃ t, PSs (cxOf CX0 P w K mg base ["_law_script", "_law_some", "_law_text", "_law_k", "_law_state_here", "_law_turn", "_law_things", "_law_lap", "_law_one", "_law_what"] "law" (defScope sLaw) fL cdv callerA [] s H E0).nox (defBody sLaw) t ∧ t { nx := fun _ _ => V.non = .bl true, rt := fun v _ => v = .bl true } (L2.start ["_law_script", "_law_some", "_law_text", "_law_k", "_law_state_here", "_law_turn", "_law_things", "_law_lap", "_law_one", "_law_what"] [.ref a]) H := by
  have hrW := hr.mono (show 8 ≤ 14 by decide)
  have hcode : (cxOf CX0 P w K mg base ["_law_script", "_law_some", "_law_text", "_law_k", "_law_state_here", "_law_turn", "_law_things", "_law_lap", "_law_one", "_law_what"] "law" (defScope sLaw) fL cdv callerA [] s H E0).nox.env.code = .ref c := hc
  have hmL : (PL, qLaw) ∈ [(PL, qLaw)] := List.mem_cons_self
  have huL : ∀ p ∈ [(PL, qLaw)], p.1 = PL → p.2 = qLaw := fun p hp _ => by rw [List.mem_singleton.mp hp]
  obtain ⟨fWd, dWd, DWd⟩ := T.h__law_word
  obtain ⟨fSa, dSa, DSa⟩ := T.h__law_said
  obtain ⟨fMk, dMk, DMk⟩ := T.h__law_marks
  have GWd : Words P w K mg base 7 fWd dWd C cW := ok_words (k := 5) Z T.isinstance T.ValueError DMk DWd
  obtain ⟨ocS, odS, kVS, docS, pmS, anS, cdS, ctS, slS, rfl, lkS, hcS⟩ := DSa.F.ex
  have T0 : LamX.Tabs [(PL, qLaw)] H := fun p hp => by
    rw [List.mem_singleton.mp hp]
    exact LamX.TabS.nil hPL
  refine ⟨_, (pss_cons (ps_set (i := 1) scLaw.nd rfl (.inl rfl) (pe_lst (pa_cons pe_str (pa_cons pe_str (pa_cons pe_str (pa_cons pe_str (pa_cons pe_str (pa_cons pe_str (pa_cons pe_str (pa_cons pe_str (pa_cons pe_str (pa_cons pe_str (pa_cons pe_str pa_nil)))))))))))))
    (pss_cons (ps_set (i := 1) scLaw.nd rfl (.inl rfl) (pe_op (op_addK (K := K) rfl) (pv 1) (pe_lst (pa_cons pe_str (pa_cons (pe_op (op_addK (K := K) rfl) (pe_op (op_addK (K := K) rfl) pe_str (pe_op op_repS pe_str pe_int)) pe_str) (pa_cons (pe_op (op_addK (K := K) rfl) (pe_op (op_addK (K := K) rfl) pe_str (pe_op op_repS pe_str pe_int)) pe_str) (pa_cons pe_str pa_nil)))))))
    (pss_cons (ps_set (i := 1) scLaw.nd rfl (.inl rfl) (pe_op (op_addK (K := K) rfl) (pv 1) (pe_lst (pa_cons pe_str (pa_cons pe_str pa_nil)))))
    (pss_cons (ps_for PassesOwn.never rfl (pi_listK (K := K) rfl (pe_op (op_addK (K := K) rfl) (pv 1) (pe_lst (pa_cons (pe_op (op_addK (K := K) rfl) pe_str (pe_op op_repS pe_str pe_int)) (pa_cons (pe_op (op_addK (K := K) rfl) pe_str (pe_op op_repS pe_str pe_int)) (pa_cons (pe_op (op_addK (K := K) rfl) (pe_op (op_addK (K := K) rfl) pe_str (pe_op op_repS pe_str pe_int)) pe_str) pa_nil)))))) (pg_name (i := 2) scLaw.nd rfl (.inr rfl))
    (pss_one (ps_if (pt_cmpR op_ne (pe_callB (call_reprQ (K := K) rfl (by rfl) hr.units) (by rfl) T.repr (by decide +kernel) (pa_cons (LamX.pe_lamcall (T := [(PL, qLaw)]) (TT := TSaidF C [13] wordOf flOf) (Ng := ["_law_call", "_law_e"]) (k := 9) (by rfl) DSa.g DSa.F.kp lkS hcS DSa.b scSaid rfl (.inl rfl) (said_gives GWd DWd hrW Z.gW) TBL hcode hmL huL (hr.mono (by decide)) (LamX.lamS_by (sc := defScope sLaw) (by decide +kernel)) rfl (fun _ _ _ _ _ => rfl) (fun A outer s H E f2 c2 hr2 => (pe_cb (c_net_read (K := K) T) (hr2.mono (by decide)) (by rfl) (passes_call (takes_of rfl rfl rfl rfl) fun _ _ _ _ h => h) (pa_cons (pv 2) pa_nil)))) pa_nil)) (pe_callB (call_reprQ (K := K) rfl (by rfl) hr.units) (by rfl) T.repr (by decide +kernel) (pa_cons (pe_cb (c__law_read (K := K) T) (hr.mono (by decide)) (by rfl) pass0 (pa_cons (pv 2) pa_nil)) pa_nil)) (nomark _)) (pss_one (ps_ret pe_bl)) pss_nil)))
    (pss_cons (ps_for PassesOwn.never rfl (pi_range1 (by rfl) T.range (pa_cons (pe_callB (call_max2 rfl) (by rfl) T.max (by decide +kernel) (pa_cons pe_int (pa_cons (pe_callB (call_min2 rfl) (by rfl) T.min (by decide +kernel) (pa_cons (pe_callB (call_lenK (K := K) rfl) (by rfl) T.len PySem.boot_len (pa_cons (pv 0) pa_nil)) (pa_cons pe_int pa_nil))) pa_nil))) pa_nil)) (pg_name (i := 3) scLaw.nd rfl (.inl rfl))
    (pss_cons (ps_set (i := 4) scLaw.nd rfl (.inr rfl) (pe_cb (c__law_state (K := K) T) (hr.mono (by decide)) (by rfl) pass0 (pa_cons (pv 0) (pa_cons (pv 3) pa_nil))))
    (pss_one (ps_for PassesOwn.never rfl (pi_range1 (by rfl) T.range (pa_cons pe_int pa_nil)) (pg_name (i := 5) scLaw.nd rfl (.inl rfl))
    (pss_cons (ps_set (i := 2) scLaw.nd rfl (.inr rfl) (pe_cb (c_net_text (K := K) T) (hr.mono (by decide)) (by rfl) pass00 (pa_cons (pe_cb (c__law_net (K := K) T) (hr.mono (by decide)) (by rfl) pass0 (pa_cons (pv 4) (pa_cons pe_int (pa_cons pe_int pa_nil)))) pa_nil)))
    (pss_cons (ps_setLc (i := 6) (own := [("_law_lap", 7)]) (g := (gName 7)) (tt := tYes) (by rfl) scLaw.nd rfl rfl (sw_true rfl rfl rfl (by decide +kernel)) (pi_range1 (by rfl) T.range (pa_cons pe_int pa_nil))
      (blkOk_by (own := [("_law_lap", 7)]) (N := ["_law_script", "_law_some", "_law_text", "_law_k", "_law_state_here", "_law_turn", "_law_things", "_law_lap", "_law_one", "_law_what"]) (sc := defScope sLaw) (by decide +kernel)) (fun _ _ _ _ _ => (pg_name (i := 7) scLaw.nd rfl (.inl rfl))) (fun _ _ _ _ _ => pts_nil) (fun _ _ _ _ _ => (pe_cb (c__law_bent (K := K) T) (hr.mono (by decide)) (by rfl) pass0 (pa_cons (pv 4) (pa_cons (pv 2) pa_nil)))))
    (pss_cons (ps_set (i := 6) scLaw.nd rfl (.inl rfl) (pe_op (op_addK (K := K) rfl) (pe_op (op_addK (K := K) rfl) (pv 6) (pe_lc (own := [("_law_one", 8)]) (g := (gName 8)) (tt := tYes) (by rfl) scLaw.nd (pi_listK (K := K) rfl (pv 6))
      (blkOk_by (own := [("_law_one", 8)]) (N := ["_law_script", "_law_some", "_law_text", "_law_k", "_law_state_here", "_law_turn", "_law_things", "_law_lap", "_law_one", "_law_what"]) (sc := defScope sLaw) (by decide +kernel)) (fun _ _ _ _ _ => (pg_name (i := 8) scLaw.nd rfl (.inl rfl))) (fun _ _ _ _ _ => pts_nil) (fun _ _ _ _ _ => (pe_cb (c__law_bent (K := K) T) (hr.mono (by decide)) (by rfl) pass0 (pa_cons (pv 4) (pa_cons (pv 8) pa_nil)))))) (pe_lst (pa_cons pe_non (pa_cons (pe_lst (pa_cons (pv 2) pa_nil)) (pa_cons (pe_tup (pa_cons (pv 2) pa_nil)) (pa_cons (pe_cb (c__law_odd (K := K) T) (hr.mono (by decide)) (by rfl) pass0 (pa_cons (pv 4) pa_nil)) pa_nil)))))))
    (pss_fz 6 (pss_one (ps_for PassesOwn.never rfl (pi_listK (K := K) rfl (pv 6)) (pg_name (i := 9) scLaw.nd rfl (.inr rfl))
    (pss_one (ps_if (pt_cmpR op_ne (pe_callB (call_reprQ (K := K) rfl (by rfl) hr.units) (by rfl) T.repr (by decide +kernel) (pa_cons (pe_lc (own := [("_law_lap", 7)]) (g := (gName 7)) (tt := tYes) (by rfl) scLaw.nd (pi_range1 (by rfl) T.range (pa_cons pe_int pa_nil))
      (blkOk_by (own := [("_law_lap", 7)]) (N := ["_law_script", "_law_some", "_law_text", "_law_k", "_law_state_here", "_law_turn", "_law_things", "_law_lap", "_law_one", "_law_what"]) (sc := defScope sLaw) (by decide +kernel)) (fun _ _ _ _ _ => (pg_name (i := 7) scLaw.nd rfl (.inl rfl))) (fun _ _ _ _ _ => pts_nil) (fun _ _ _ _ _ => (LamX.pe_lamcall (T := [(PL, qLaw)]) (TT := TSaidF C [13] wordOf flOf) (Ng := ["_law_call", "_law_e"]) (k := 9) (by rfl) DSa.g DSa.F.kp lkS hcS DSa.b scSaid rfl (.inl rfl) (said_gives GWd DWd hrW Z.gW) TBL hcode hmL huL (hr.mono (by decide)) (LamX.lamS_by (by rfl)) rfl (fun _ _ _ _ _ => rfl) (fun A outer s H E f2 c2 hr2 => (pe_cb (c_net_read (K := K) T) (hr2.mono (by decide)) (by rfl) (passes_call (takes_of rfl rfl rfl rfl) fun _ _ _ _ h => h) (pa_cons (pv 9) pa_nil)))))) pa_nil)) (pe_callB (call_reprQ (K := K) rfl (by rfl) hr.units) (by rfl) T.repr (by decide +kernel) (pa_cons (pe_op (op_mulK (K := K) rfl) (pe_lst (pa_cons (pe_cb (c__law_read (K := K) T) (hr.mono (by decide)) (by rfl) pass0 (pa_cons (pv 9) pa_nil)) pa_nil)) pe_int) pa_nil)) (nomark _)) (pss_one (ps_ret pe_bl)) pss_nil))))))))))))
    (pss_one (ps_ret pe_bl))))))), ReadsL.run (τ := [(PL, qLaw)]) (E := E0) ⟨_, inferInstance, fun ns => ?_⟩ hS T0 (fun G => rfl)⟩
  try walk_at "dl4"
  refine ⟨lenL (by decide), ?_⟩
  refine fRep_str (by decide) (fAdd_str (lenL (by decide +kernel)) (fAdd_str (lenL (by decide +kernel)) (fRep_str (by decide) (fAdd_str (lenL (by decide +kernel)) (fAdd_str (lenL (by decide +kernel)) ?_)))))
  try walk_at "dl4"
  refine ⟨lenL (by decide), lenL (by decide), lenL (by decide), lenL (by decide), ?_⟩
  refine fRep_str (by decide) (fAdd_str (lenL (by decide +kernel)) (fRep_str (by decide) (fAdd_str (lenL (by decide +kernel)) (fRep_str (by decide) (fAdd_str (lenL (by decide +kernel)) (fAdd_str (lenL (by decide +kernel)) ?_))))))
  try walk_at "dl4"
  refine ⟨lenL (by decide), lenL (by decide), ?_⟩
  refine forD_by (fun _ ρ => ∃ y1 y2 y3 y4 y5 y6 y7 y8 y9, ρ = [.scr ns, y1, y2, y3, y4, y5, y6, y7, y8, y9]) ⟨_, _, _, _, _, _, _, _, _, rfl⟩ (fun i d ρ N hd h hN => ?_) (fun ρ h => ?_)
  · obtain ⟨y1, y2, y3, y4, y5, y6, y7, y8, y9, rfl⟩ := h
    have tx : TxOk d := tx_all _ (by decide +kernel) d (List.mem_of_getElem? hd)
    have tk := told_ok d
    try walk_at "dl4"
    refine ⟨d, rfl, tx, ends_of (fun n e => ?_) (fun x e => ?_)⟩
    · have tk : Sh (PyData.tuple [.str "text", .int n]) 50000 4 ∧ Lay (PyData.tuple [.str "text", .int n]) 4 := by
        rw [e] at tk
        exact tk
      try walk_at "dl4"
      refine ⟨13, List.mem_cons_self, rfl, rfl, ?_⟩
      rw [show wordOf 13 = ("text" : Str) from rfl]
      refine ⟨tk.1.mono (by decide) (by decide), okR_lay tk.2, d, rfl, tx, ?_⟩
      rw [e]
      rw [show toldL (Sum.inl n) = PyData.tuple [.str "text", .int n] from rfl]
      try walk_at "dl4"
      refine ⟨tk.1.mono (by decide) (by decide), okR_lay tk.2, ?_⟩
      try walk_at "dl4"
      exact hN _ ⟨_, _, _, _, _, _, _, _, _, rfl⟩
    · have tk : Sh (PyData.tuple [.str "told", x]) 50000 4 ∧ Lay (PyData.tuple [.str "told", x]) 4 := by
        rw [e] at tk
        exact tk
      try walk_at "dl4"
      refine ⟨tk.1.mono (by decide) (by decide), okR_lay tk.2, d, rfl, tx, ?_⟩
      rw [e]
      rw [show toldL (Sum.inr x) = PyData.tuple [.str "told", x] from rfl]
      try walk_at "dl4"
      refine ⟨tk.1.mono (by decide) (by decide), okR_lay tk.2, ?_⟩
      try walk_at "dl4"
      exact hN _ ⟨_, _, _, _, _, _, _, _, _, rfl⟩
  obtain ⟨y1, y2, y3, y4, y5, y6, y7, y8, y9, rfl⟩ := h
  try walk_at "dl4"
  refine ⟨by split <;> split <;> omega, by split <;> split <;> omega, ?_⟩
  refine forD_by (fun _ ρ => ∃ y1 y2 y3 y4 y5 y6 y7 y8 y9, ρ = [.scr ns, y1, y2, y3, y4, y5, y6, y7, y8, y9]) ⟨_, _, _, _, _, _, _, _, _, rfl⟩ (fun i d ρ N hd h hN => ?_) (fun ρ h => ?_)
  · obtain ⟨y1, y2, y3, y4, y5, y6, y7, y8, y9, rfl⟩ := h
    obtain ⟨_, rfl⟩ := rangeD_get hd
    try walk_at "dl4"
    refine ⟨⟨ns, i, by rw [Int.zero_add]⟩, by decide, by decide, ?_⟩
    refine forD_by (fun _ ρ => ∃ y1 y2 y3 y5 y6 y7 y8 y9, ρ = [.scr ns, y1, y2, y3, .st, y5, y6, y7, y8, y9]) ⟨_, _, _, _, _, _, _, _, rfl⟩ (fun i2 d ρ N2 hd h hN2 => ?_) (fun ρ h => ?_)
    · obtain ⟨y1, y2, y3, y5, y6, y7, y8, y9, rfl⟩ := h
      obtain ⟨_, rfl⟩ := rangeD_get hd
      try walk_at "dl4"
      refine ⟨10, 30, rfl, by decide, by decide, by decide, by decide, fun p rs ok hp hR => ?_⟩
      have l30 := ok.len
      have hlen : ∀ a rs1, netT p rs = .tuple [a, .tuple rs1] → rs1.length ≤ 1000 := fun a rs1 e => by
        cases e
        rw [List.length_map]
        omega
      have np := net_plain ok
      try walk_at "dl4"
      refine ⟨_, rfl, hlen, .inr ⟨p, rs, rfl, ok, ?_⟩⟩
      generalize netS p rs = tn at np
      try walk_at "dl4"
      refine ⟨by decide, by decide, ?_⟩
      refine lcD_allM (fun y => ∃ b, y = .str b ∧ Plain b 2300) _ [] (fun d hd acc N ha hN => ?_) (by decide) (fun ys yl hy => ?_)
      · unfold lcStep
        try walk_at "dl4"
        exact ⟨tn, 1000, rfl, np, by decide, fun b pb => ⟨ha, hN _ ⟨b, rfl, pb⟩⟩⟩
      have yl : ys.length = 6 := yl
      rw [List.nil_append]
      try walk_at "dl4"
      refine lcD_allM (fun y => ∃ b, y = .str b ∧ Plain b 4900) _ [] (fun d hd acc N ha hN => ?_) (by rw [yl]; decide) (fun zs zl hz => ?_)
      · obtain ⟨b, rfl, pb⟩ := hy d hd
        unfold lcStep
        try walk_at "dl4"
        exact ⟨b, 2300, rfl, pb, by decide, fun b pb => ⟨ha, hN _ ⟨b, rfl, pb⟩⟩⟩
      have zl : zs.length = ys.length := zl
      rw [List.nil_append]
      refine ⟨lenL (by omega), lenL (by decide), lenL (by decide), rfl, fun od hod => ?_⟩
      try walk_at "dl4"
      refine ⟨lenL (by decide), lenL (by omega), ?_⟩
      have things : ∀ d ∈ ys ++ zs ++ [PyData.none, .list [.str tn], .tuple [.str tn], od], TxOk d := fun d hd => by
        rcases List.mem_append.mp hd with hd | hd
        · rcases List.mem_append.mp hd with hd | hd
          · obtain ⟨b, rfl, pb⟩ := hy d hd
            exact tx_plain pb (by decide)
          · obtain ⟨b, rfl, pb⟩ := hz d hd
            exact tx_plain pb (by decide)
        · simp only [List.mem_cons, List.not_mem_nil, or_false] at hd
          rcases hd with rfl | rfl | rfl | rfl
          · exact fun a e => nomatch e
          · exact fun a e => nomatch e
          · exact fun a e => nomatch e
          · exact tx_odd _ hod
      generalize ys ++ zs ++ [PyData.none, .list [.str tn], .tuple [.str tn], od] = all at things
      try walk_at "dl4"
      refine forD_by (fun _ ρ => ∃ y6 y7 y8 y9, ρ = [.scr ns, y1, .d (.str tn), y3, .st, .d (.int (0 + (i2 : Int))), y6, y7, y8, y9]) ⟨_, _, _, _, rfl⟩ (fun i3 d ρ N3 hd h hN3 => ?_) (fun ρ h => ?_)
      · obtain ⟨y6, y7, y8, y9, rfl⟩ := h
        have tx : TxOk d := things d (List.mem_of_getElem? hd)
        have tk := told_ok d
        try walk_at "dl4"
        refine ⟨by decide, by decide, ?_⟩
        refine lcD_map (fun _ => toldL (readD d)) _ [] (fun d' hd' acc N ha hN => ?_) (by decide) ?_
        · unfold lcStep
          try walk_at "dl4"
          refine ⟨d, rfl, tx, ends_of (fun n e => ?_) (fun x e => ?_)⟩
          · rw [e] at hN
            try walk_at "dl4"
            exact ⟨13, List.mem_cons_self, rfl, rfl, ha, hN⟩
          · rw [e] at hN
            try walk_at "dl4"
            exact ⟨ha, hN⟩
        rw [show [] ++ (rangeD 0 (Int.toNat 2)).map (fun _ => toldL (readD d)) = [toldL (readD d), toldL (readD d)] from rfl]
        have s3 : Sh (.list [toldL (readD d), toldL (readD d)]) 10000000 50 := (Sh.list (n := 50000) (m := 4) (k := 2) (fun e he => by
          simp only [List.mem_cons, List.not_mem_nil, or_false, or_self] at he
          rw [he]
          exact tk.1) (Nat.le_refl _)).mono (by decide) (by decide)
        have o3 : okR (.list [toldL (readD d), toldL (readD d)]) = true := okR_lay (n := 5) (lay_lst (n := 4) fun e he => by
          simp only [List.mem_cons, List.not_mem_nil, or_false, or_self] at he
          rw [he]
          exact tk.2)
        refine ⟨s3, o3, d, rfl, tx, lenL (by decide), ?_⟩
        try walk_at "dl4"
        have rep2 : ∀ x : PyData, (List.replicate (Int.toNat 2) [x]).flatten = [x, x] := fun _ => rfl
        simp only [rep2]
        refine ⟨by decide, by decide, by decide, s3, o3, ?_⟩
        try walk_at "dl4"
        exact hN3 _ ⟨_, _, _, _, rfl⟩
      · obtain ⟨y6, y7, y8, y9, rfl⟩ := h
        exact hN2 _ ⟨_, _, _, _, _, _, _, _, rfl⟩
    · obtain ⟨y1, y2, y3, y5, y6, y7, y8, y9, rfl⟩ := h
      exact hN _ ⟨_, _, _, _, _, _, _, _, _, rfl⟩
  · obtain ⟨y1, y2, y3, y4, y5, y6, y7, y8, y9, rfl⟩ := h
    try walk_at "dl4"
end
end Wy

namespace Wy
open PySem PySem.Spec PyProof.Rows L2
/-- the law's call from its body at the caller's own surroundings; the script and the table of the law's code are tracked -/
theorem end_call {P : Program} {w : World} {K : PySem.W.Frag} {mg mb : Str → Option Value} {fa a c T : Addr} {st : Shared} {vs : List Value} {ns : List Int}
    (inK : K.In st.heap) (gl : st.heap.Ns mainGlobals mg) (bl : st.heap.Ns builtinsNs mb) (blt : ∀ x : Str, x ≠ "__name__" → mb x = bootBuiltins x) (lim : st.heap.NoLimit) (gen : st.gens = #[])
    (hT : st.heap.get? T = some (PySem.W.tabObj #[])) (nT : K.lookup T = none) (hC : PySem.W.CodeHd st.heap c T)
    (bmod : ∃ (bm : Addr) (ob : Obj), mg "__builtins__" = some (.ref bm) ∧ bm ≠ builtinsNs ∧ st.heap.get? bm = some ob ∧ ob.cls = .type "module" ∧ ob.dict = some builtinsNs ∧ ob.data = .plain)
    (ha : st.heap.get? a = some { cls := .type "list", data := .seq vs.toArray }) (hi : IntsAre vs ns) (hl : ns.length ≤ sizeLine)
    (F : ∀ (base : Heap) (H : Hp), LamX.TabB base mg c T → H T = some (.tbl #[]) → SqL K H a (ns.map V.int) → Env0 P w K mg base callerA [] st H →
      codeAny (model P w) callerA (.call (.ref fa) ⟨[.ref a], []⟩) (CR CX0 [] P w H st (fun v _ => v = .bl true) E0) st) :
    codeAny (model P w) callerA (.call (.ref fa) ⟨[.ref a], []⟩) (fun r t => r = .ok (.ret (.bool true)) ∧ OldK st.heap t.heap ∧ t.os = st.os ∧ AllBare t.gens) st := by
  have vals := vals_ints hi
  have nvs := hi.length
  have aT : a ≠ T := fun z => by
    rw [z, hT] at ha
    have q := congrArg Obj.data (Option.some.inj ha)
    cases q
  obtain ⟨so, hso⟩ : ∃ so : Obj, so = { cls := .type "list", data := .seq vs.toArray } := ⟨_, rfl⟩
  rw [← hso] at ha
  obtain ⟨H, hH⟩ : ∃ H : Hp, H = fun b => if b = T then some (.tbl #[]) else if b = a ∧ K.lookup a = none then some (.frz so (.lst (ns.map V.int))) else none := ⟨_, rfl⟩
  have atT : H T = some (.tbl #[]) := by
    rw [hH]
    exact if_pos rfl
  have cases2 : ∀ b u, H b = some u → (b = T ∧ u = .tbl #[]) ∨ (b = a ∧ K.lookup a = none ∧ u = .frz so (.lst (ns.map V.int))) := fun b u e => by
    rw [hH] at e
    by_cases h1 : b = T
    · exact .inl ⟨h1, (Option.some.inj ((if_pos h1).symm.trans e)).symm⟩
    · have e := (if_neg h1).symm.trans e
      by_cases h2 : b = a ∧ K.lookup a = none
      · exact .inr ⟨h2.1, h2.2, (Option.some.inj ((if_pos h2).symm.trans e)).symm⟩
      · exact nomatch (if_neg h2).symm.trans e
  have lsOk : ObjOk P w H st.heap a (.lst (ns.map V.int)) := by
    exact ⟨by rw [List.length_map]; exact hl, vs, _, vals, (hso ▸ ha : st.heap.get? a = some { cls := .type "list", data := .seq vs.toArray })⟩
  have hok : HOk P w H st.heap := fun b u e => by
    rcases cases2 b u e with ⟨rfl, rfl⟩ | ⟨rfl, _, rfl⟩
    · exact hT
    · exact ⟨ha, lsOk⟩
  have apart : ∀ {b : Addr} {o : Obj}, st.heap.get? b = some o → (∀ x n, o.data ≠ .seq x n) → o.data ≠ .fields #[] → H b = none := fun {b o} e n1 n2 => by
    cases q : H b with
    | none => rfl
    | some u =>
      rcases cases2 b u q with ⟨rfl, _⟩ | ⟨rfl, _, _⟩
      · rw [hT] at e
        cases e
        exact absurd rfl n2
      · rw [ha, hso] at e
        cases e
        exact absurd rfl (n1 _ _)
  have nsB : ∀ {b : Addr} {m : Str → Option Value}, st.heap.Ns b m → (hidT st.heap H).Ns b m := fun {b m} ⟨o, es, ep, e, d, r⟩ =>
    ⟨o, es, ep, hidT_get e (apart e (fun x n z => nomatch d.symm.trans z) fun z => nomatch d.symm.trans z), d, r⟩
  have inB : K.In (hidT st.heap H) := fun b o e => hidT_get (inK b o e) (by
    cases q : H b with
    | none => rfl
    | some u =>
      rcases cases2 b u q with ⟨rfl, _⟩ | ⟨rfl, n, _⟩
      · exact nomatch nT.symm.trans e
      · exact nomatch n.symm.trans e)
  have md : L2.Mod K mg (hidT st.heap H) := ⟨inB, nsB gl, ⟨mb, nsB bl, blt⟩, let ⟨mc, q1, q2⟩ := lim; ⟨mc, nsB q1, q2⟩⟩
  have tb : LamX.TabB (hidT st.heap H) mg c T := by
    refine ⟨?_, ?_, fun z => ?_⟩
    · obtain ⟨o, us, file, tf, flags, tg, inF, text, tt, e1, k1, k2, k3, kr⟩ := hC
      refine ⟨o, us, file, tf, flags, tg, inF, text, tt, hidT_get e1 (apart e1 (fun x n z => nomatch k2.symm.trans z) fun z => ?_), k1, k2, k3, kr⟩
      have q : Data.fields us = Data.fields #[] := k2.symm.trans z
      cases q
      simp at k3
    · obtain ⟨bm, ob, b1, b2, b3, b4, b5, b6⟩ := bmod
      refine ⟨bm, ob, b1, b2, fun q => ?_, fun q => ?_, hidT_get b3 (apart b3 (fun x n z => nomatch b6.symm.trans z) fun z => nomatch b6.symm.trans z), b4, b5, b6⟩
      · obtain ⟨o, es, ep, e, d, _⟩ := gl
        rw [q, e] at b3
        cases b3
        exact nomatch d.symm.trans b6
      · rw [q, hT] at b3
        cases b3
        cases b6
    · obtain ⟨o, es, ep, e, d, _⟩ := gl
      rw [z, hT] at e
      cases e
      cases d
  have sq : SqL K H a (ns.map V.int) := by
    cases q : K.lookup a with
    | some o =>
      have e := (inK a o q).symm.trans ha
      rw [hso] at e
      cases e
      exact .inr ⟨_, vs.toArray, _, q, rfl, rfl, rfl, by rw [List.size_toArray, nvs]; exact hl, by simpa using vals⟩
    | none =>
      refine .inl (.inr ⟨so, ?_⟩)
      rw [hH]
      exact (if_neg aT).trans (if_pos ⟨rfl, q⟩)
  have env : Env0 P w K mg (hidT st.heap H) callerA [] st H := ⟨rfl, md, fun b o e => of_hidT e, Nat.le_of_eq (hidT_size _ _), trivial, (fun b z => nomatch (show b ∈ ([] : List Addr) from z)), hok, .of_eq gen⟩
  refine codeAny_mono (F _ H tb atT sq env) fun r t h => ?_
  cases r with
  | error e => exact (show False from h).elim
  | ok fl =>
    cases fl with
    | next => exact (show False from h).elim
    | brk => exact (show False from h).elim
    | cont => exact (show False from h).elim
    | ret u =>
      obtain ⟨v, G, os, bare, un, okG, rv, q⟩ := h
      obtain rfl : v = .bl true := q
      obtain rfl : u = Value.bool true := rv
      have stays : ∀ b o, b ≠ T → st.heap.get? b = some o → t.heap.get? b = some o := fun b o nb e => by
        cases q : H b with
        | none => exact un.keep b o e q (fun z => nomatch (show b ∈ ([] : List Addr) from z)) (by simp)
        | some u =>
          rcases cases2 b u q with ⟨z, _⟩ | ⟨rfl, _, rfl⟩
          · exact absurd z nb
          · obtain ⟨e2, _⟩ := okG b _ (un.frzs b so _ q)
            rw [ha] at e
            cases e
            exact e2
      obtain ⟨more, hm⟩ := un.tbls T #[] atT
      have atG : t.heap.get? T = some { cls := .none, data := .fields (#[] ++ more) } := okG T _ hm
      refine ⟨rfl, ⟨fun b o e => ?_, fun b o e => ?_⟩, os, bare⟩
      · by_cases hb : b = T
        · subst hb
          rw [hT] at e
          cases e
          exact .inr (.inl ⟨(hC.tab hT).isCodeTable, rfl, #[], more, rfl, atG⟩)
        · exact .inl (stays b o hb e)
      · by_cases hb : b = T
        · rw [hb]
          exact ⟨_, atG⟩
        · exact ⟨o, stays b o hb e⟩
/-- what the law's def does from its place in the written part -/
def Runs (P : Program) (w : World) (K : PySem.W.Frag) (mg : Str → Option Value) (c T fa : Addr) : Prop := ∀ (base : Heap) (H : Hp) (s : Shared) (a : Addr) (ns : List Int), LamX.TabB base mg c T → H T = some (.tbl #[]) → SqL K H a (ns.map V.int) → Env0 P w K mg base callerA [] s H →
  codeAny (model P w) callerA (.call (.ref fa) ⟨[.ref a], []⟩) (CR CX0 [] P w H s (fun v _ => v = .bl true) E0) s
theorem walk_end {l : PySem.W.OpenLaw} {n : Nat} {q : Program} {loose : List Str} {XP : (Str → Option Value) → Heap → Prop} {YP : World → Heap → Prop} {d : DefRec} {K : Params → PySem.W.Frag} {T : Addr}
    (most : l.most = some n) (most2 : n ≤ sizeLine) (dflt : d.params.defaults = []) (inK : ∀ (w : World) (h : Heap), YP w h → (K w.params).In h) (tab : ∀ (w : World) (h : Heap), YP w h → h.get? T = some (PySem.W.tabObj #[]))
    (F : ∀ (w : World) (mg : Str → Option Value) (fa : Addr) (h : Heap), (K w.params).In h → h.Ns mainGlobals mg → mg d.name = some (.ref fa) → (K w.params).lookup T = none ∧ ∃ c, PySem.W.codeHdIn (K w.params) c T = true ∧ Runs l.prog w (K w.params) mg c T fa) :
    PySem.W.WalkO q loose XP YP l.row.toRowW d [] (fun f vs => PySem.call f vs) := by
  refine Att.attach_call most dflt fun w s0 st mg mb fa o pm cd doc a vs ns G Y ho hd hcd hmg hobj hints hlen hg => ?_
  have KX := inK w _ Y
  obtain ⟨nT, c, hc, run⟩ := F w mg fa _ KX G.T.g hmg
  exact end_call KX G.T.g G.T.b G.T.builtins G.T.nolimit hg (tab w _ Y) nT (PySem.W.codeHd_of_K KX hc) G.T.bmain hobj hints (Nat.le_trans hlen most2) fun base H tb hT sq env => run base H st a ns tb hT sq env
end Wy

namespace Wy
open PySem PySem.Spec PyProof.Rows L2 LamX Dl
set_option maxHeartbeats 4000000 in
theorem fin_mk {P : Program} {w : World} {K : PySem.W.Frag} {h : Heap} {mg : Str → Option Value} {fa cL TT fd0 fd1 fd2 fd3 fd4 fd5 fd6 fd7 fd8 fd9 fd10 fd11 fd12 fd13 fd14 fd15 fd16 fd17 fd18 fd19 fd20 fd21 fd22 fL fINoText cINoText ccINoText e0 e1 e2 e3 e4 e5 e6 e7 e8 e9 e10 e11 e12 e13 e14 e15 e16 eT eN eW : Addr} {t0 t1 t2 t3 t4 t5 : Tok}
    {odd0 and0 : Option Addr} {sld0 : Array (Option Value)} {ocd0 kVd0 dcd0 pmd0 ctd0 cdd0 : Value}
    {odd1 and1 : Option Addr} {sld1 : Array (Option Value)} {ocd1 kVd1 dcd1 pmd1 ctd1 cdd1 : Value}
    {odd2 and2 : Option Addr} {sld2 : Array (Option Value)} {ocd2 kVd2 dcd2 pmd2 ctd2 cdd2 : Value}
    {odd3 and3 : Option Addr} {sld3 : Array (Option Value)} {ocd3 kVd3 dcd3 pmd3 ctd3 cdd3 : Value}
    {odd4 and4 : Option Addr} {sld4 : Array (Option Value)} {ocd4 kVd4 dcd4 pmd4 ctd4 cdd4 : Value}
    {odd5 and5 : Option Addr} {sld5 : Array (Option Value)} {ocd5 kVd5 dcd5 pmd5 ctd5 cdd5 : Value}
    {odd6 and6 : Option Addr} {sld6 : Array (Option Value)} {ocd6 kVd6 dcd6 pmd6 ctd6 cdd6 : Value}
    {odd7 and7 : Option Addr} {sld7 : Array (Option Value)} {ocd7 kVd7 dcd7 pmd7 ctd7 cdd7 : Value}
    {odd8 and8 : Option Addr} {sld8 : Array (Option Value)} {ocd8 kVd8 dcd8 pmd8 ctd8 cdd8 : Value}
    {odd9 and9 : Option Addr} {sld9 : Array (Option Value)} {ocd9 kVd9 dcd9 pmd9 ctd9 cdd9 : Value}
    {odd10 and10 : Option Addr} {sld10 : Array (Option Value)} {ocd10 kVd10 dcd10 pmd10 ctd10 cdd10 : Value}
    {odd11 and11 : Option Addr} {sld11 : Array (Option Value)} {ocd11 kVd11 dcd11 pmd11 ctd11 cdd11 : Value}
    {odd12 and12 : Option Addr} {sld12 : Array (Option Value)} {ocd12 kVd12 dcd12 pmd12 ctd12 cdd12 : Value}
    {odd13 and13 : Option Addr} {sld13 : Array (Option Value)} {ocd13 kVd13 dcd13 pmd13 ctd13 cdd13 : Value}
    {odd14 and14 : Option Addr} {sld14 : Array (Option Value)} {ocd14 kVd14 dcd14 pmd14 ctd14 cdd14 : Value}
    {odd15 and15 : Option Addr} {sld15 : Array (Option Value)} {ocd15 kVd15 dcd15 pmd15 ctd15 cdd15 : Value}
    {odd16 and16 : Option Addr} {sld16 : Array (Option Value)} {ocd16 kVd16 dcd16 pmd16 ctd16 cdd16 : Value}
    {odd17 and17 : Option Addr} {sld17 : Array (Option Value)} {ocd17 kVd17 dcd17 pmd17 ctd17 cdd17 : Value}
    {odd18 and18 : Option Addr} {sld18 : Array (Option Value)} {ocd18 kVd18 dcd18 pmd18 ctd18 cdd18 : Value}
    {odd19 and19 : Option Addr} {sld19 : Array (Option Value)} {ocd19 kVd19 dcd19 pmd19 ctd19 cdd19 : Value}
    {odd20 and20 : Option Addr} {sld20 : Array (Option Value)} {ocd20 kVd20 dcd20 pmd20 ctd20 cdd20 : Value}
    {odd21 and21 : Option Addr} {sld21 : Array (Option Value)} {ocd21 kVd21 dcd21 pmd21 ctd21 cdd21 : Value}
    {odd22 and22 : Option Addr} {sld22 : Array (Option Value)} {ocd22 kVd22 dcd22 pmd22 ctd22 cdd22 : Value}
    {odL anL : Option Addr} {slL : Array (Option Value)} {ocL kVL dcL pmL ctL : Value}
    {odINoText : Option Addr} {slINoText : Array (Option Value)} {ocINoText dcINoText pmINoText ctINoText : Value} {cldINoText : Option Addr} {clINoText : Value} {cslINoText : Array (Option Value)}
    (X : K.In h) (G : h.Ns mainGlobals mg) (hfa : mg "law" = some (.ref fa))
    (ad0 : PySem.W.nsIn K mainGlobals "is_whole" = some (some (.ref fd0)))
    (ld0 : K.lookup fd0 = some ⟨ocd0, odd0, .func (PySem.W.fnOf "is_whole" "is_whole" (defArgs s_is_whole) (defBody s_is_whole) (defScope s_is_whole) .none kVd0 dcd0 pmd0 and0 cdd0 ctd0), sld0⟩)
    (cd0_ : PySem.W.codeIn K cdd0 "is_whole" = true)
    (kd0_ : PySem.W.keepIn K (.ref fd0) = true)
    (ad1 : PySem.W.nsIn K mainGlobals "is_within" = some (some (.ref fd1)))
    (ld1 : K.lookup fd1 = some ⟨ocd1, odd1, .func (PySem.W.fnOf "is_within" "is_within" (defArgs s_is_within) (defBody s_is_within) (defScope s_is_within) .none kVd1 dcd1 pmd1 and1 cdd1 ctd1), sld1⟩)
    (cd1_ : PySem.W.codeIn K cdd1 "is_within" = true)
    (kd1_ : PySem.W.keepIn K (.ref fd1) = true)
    (ad2 : PySem.W.nsIn K mainGlobals "is_tuple_of" = some (some (.ref fd2)))
    (ld2 : K.lookup fd2 = some ⟨ocd2, odd2, .func (PySem.W.fnOf "is_tuple_of" "is_tuple_of" (defArgs s_is_tuple_of) (defBody s_is_tuple_of) (defScope s_is_tuple_of) .none kVd2 dcd2 pmd2 and2 cdd2 ctd2), sld2⟩)
    (cd2_ : PySem.W.codeIn K cdd2 "is_tuple_of" = true)
    (kd2_ : PySem.W.keepIn K (.ref fd2) = true)
    (ad3 : PySem.W.nsIn K mainGlobals "is_road_among" = some (some (.ref fd3)))
    (ld3 : K.lookup fd3 = some ⟨ocd3, odd3, .func (PySem.W.fnOf "is_road_among" "is_road_among" (defArgs s_is_road_among) (defBody s_is_road_among) (defScope s_is_road_among) .none kVd3 dcd3 pmd3 and3 cdd3 ctd3), sld3⟩)
    (cd3_ : PySem.W.codeIn K cdd3 "is_road_among" = true)
    (kd3_ : PySem.W.keepIn K (.ref fd3) = true)
    (ad4 : PySem.W.nsIn K mainGlobals "is_net" = some (some (.ref fd4)))
    (ld4 : K.lookup fd4 = some ⟨ocd4, odd4, .func (PySem.W.fnOf "is_net" "is_net" (defArgs s_is_net) (defBody s_is_net) (defScope s_is_net) .none kVd4 dcd4 pmd4 and4 cdd4 ctd4), sld4⟩)
    (cd4_ : PySem.W.codeIn K cdd4 "is_net" = true)
    (kd4_ : PySem.W.keepIn K (.ref fd4) = true)
    (ad5 : PySem.W.nsIn K mainGlobals "check_net" = some (some (.ref fd5)))
    (ld5 : K.lookup fd5 = some ⟨ocd5, odd5, .func (PySem.W.fnOf "check_net" "check_net" (defArgs s_check_net) (defBody s_check_net) (defScope s_check_net) .none kVd5 dcd5 pmd5 and5 cdd5 ctd5), sld5⟩)
    (cd5_ : PySem.W.codeIn K cdd5 "check_net" = true)
    (kd5_ : PySem.W.keepIn K (.ref fd5) = true)
    (ad6 : PySem.W.nsIn K mainGlobals "net_text" = some (some (.ref fd6)))
    (ld6 : K.lookup fd6 = some ⟨ocd6, odd6, .func (PySem.W.fnOf "net_text" "net_text" (defArgs s_net_text) (defBody s_net_text) (defScope s_net_text) .none kVd6 dcd6 pmd6 and6 cdd6 ctd6), sld6⟩)
    (cd6_ : PySem.W.codeIn K cdd6 "net_text" = true)
    (kd6_ : PySem.W.keepIn K (.ref fd6) = true)
    (ad7 : PySem.W.nsIn K mainGlobals "net_read" = some (some (.ref fd7)))
    (ld7 : K.lookup fd7 = some ⟨ocd7, odd7, .func (PySem.W.fnOf "net_read" "net_read" (defArgs s_net_read) (defBody s_net_read) (defScope s_net_read) .none kVd7 dcd7 pmd7 and7 cdd7 ctd7), sld7⟩)
    (cd7_ : PySem.W.codeIn K cdd7 "net_read" = true)
    (kd7_ : PySem.W.keepIn K (.ref fd7) = true)
    (ad8 : PySem.W.nsIn K mainGlobals "net_of_lines" = some (some (.ref fd8)))
    (ld8 : K.lookup fd8 = some ⟨ocd8, odd8, .func (PySem.W.fnOf "net_of_lines" "net_of_lines" (defArgs s_net_of_lines) (defBody s_net_of_lines) (defScope s_net_of_lines) .none kVd8 dcd8 pmd8 and8 cdd8 ctd8), sld8⟩)
    (cd8_ : PySem.W.codeIn K cdd8 "net_of_lines" = true)
    (kd8_ : PySem.W.keepIn K (.ref fd8) = true)
    (ad9 : PySem.W.nsIn K mainGlobals "parts_of_line" = some (some (.ref fd9)))
    (ld9 : K.lookup fd9 = some ⟨ocd9, odd9, .func (PySem.W.fnOf "parts_of_line" "parts_of_line" (defArgs s_parts_of_line) (defBody s_parts_of_line) (defScope s_parts_of_line) .none kVd9 dcd9 pmd9 and9 cdd9 ctd9), sld9⟩)
    (cd9_ : PySem.W.codeIn K cdd9 "parts_of_line" = true)
    (kd9_ : PySem.W.keepIn K (.ref fd9) = true)
    (ad10 : PySem.W.nsIn K mainGlobals "number_of_figures" = some (some (.ref fd10)))
    (ld10 : K.lookup fd10 = some ⟨ocd10, odd10, .func (PySem.W.fnOf "number_of_figures" "number_of_figures" (defArgs s_number_of_figures) (defBody s_number_of_figures) (defScope s_number_of_figures) .none kVd10 dcd10 pmd10 and10 cdd10 ctd10), sld10⟩)
    (cd10_ : PySem.W.codeIn K cdd10 "number_of_figures" = true)
    (kd10_ : PySem.W.keepIn K (.ref fd10) = true)
    (ad11 : PySem.W.nsIn K mainGlobals "_law_cell_at" = some (some (.ref fd11)))
    (ld11 : K.lookup fd11 = some ⟨ocd11, odd11, .func (PySem.W.fnOf "_law_cell_at" "_law_cell_at" (defArgs s__law_cell_at) (defBody s__law_cell_at) (defScope s__law_cell_at) .none kVd11 dcd11 pmd11 and11 cdd11 ctd11), sld11⟩)
    (cd11_ : PySem.W.codeIn K cdd11 "_law_cell_at" = true)
    (kd11_ : PySem.W.keepIn K (.ref fd11) = true)
    (ad12 : PySem.W.nsIn K mainGlobals "_law_state" = some (some (.ref fd12)))
    (ld12 : K.lookup fd12 = some ⟨ocd12, odd12, .func (PySem.W.fnOf "_law_state" "_law_state" (defArgs s__law_state) (defBody s__law_state) (defScope s__law_state) .none kVd12 dcd12 pmd12 and12 cdd12 ctd12), sld12⟩)
    (cd12_ : PySem.W.codeIn K cdd12 "_law_state" = true)
    (kd12_ : PySem.W.keepIn K (.ref fd12) = true)
    (ad13 : PySem.W.nsIn K mainGlobals "_law_take" = some (some (.ref fd13)))
    (ld13 : K.lookup fd13 = some ⟨ocd13, odd13, .func (PySem.W.fnOf "_law_take" "_law_take" (defArgs s__law_take) (defBody s__law_take) (defScope s__law_take) .none kVd13 dcd13 pmd13 and13 cdd13 ctd13), sld13⟩)
    (cd13_ : PySem.W.codeIn K cdd13 "_law_take" = true)
    (kd13_ : PySem.W.keepIn K (.ref fd13) = true)
    (ad14 : PySem.W.nsIn K mainGlobals "_law_marks" = some (some (.ref fd14)))
    (ld14 : K.lookup fd14 = some ⟨ocd14, odd14, .func (PySem.W.fnOf "_law_marks" "_law_marks" (defArgs s__law_marks) (defBody s__law_marks) (defScope s__law_marks) .none kVd14 dcd14 pmd14 and14 cdd14 ctd14), sld14⟩)
    (cd14_ : PySem.W.codeIn K cdd14 "_law_marks" = true)
    (kd14_ : PySem.W.keepIn K (.ref fd14) = true)
    (ad15 : PySem.W.nsIn K mainGlobals "_law_word" = some (some (.ref fd15)))
    (ld15 : K.lookup fd15 = some ⟨ocd15, odd15, .func (PySem.W.fnOf "_law_word" "_law_word" (defArgs s__law_word) (defBody s__law_word) (defScope s__law_word) .none kVd15 dcd15 pmd15 and15 cdd15 ctd15), sld15⟩)
    (cd15_ : PySem.W.codeIn K cdd15 "_law_word" = true)
    (kd15_ : PySem.W.keepIn K (.ref fd15) = true)
    (ad16 : PySem.W.nsIn K mainGlobals "_law_said" = some (some (.ref fd16)))
    (ld16 : K.lookup fd16 = some ⟨ocd16, odd16, .func (PySem.W.fnOf "_law_said" "_law_said" (defArgs s__law_said) (defBody s__law_said) (defScope s__law_said) .none kVd16 dcd16 pmd16 and16 cdd16 ctd16), sld16⟩)
    (cd16_ : PySem.W.codeIn K cdd16 "_law_said" = true)
    (kd16_ : PySem.W.keepIn K (.ref fd16) = true)
    (ad17 : PySem.W.nsIn K mainGlobals "_law_net" = some (some (.ref fd17)))
    (ld17 : K.lookup fd17 = some ⟨ocd17, odd17, .func (PySem.W.fnOf "_law_net" "_law_net" (defArgs s__law_net) (defBody s__law_net) (defScope s__law_net) .none kVd17 dcd17 pmd17 and17 cdd17 ctd17), sld17⟩)
    (cd17_ : PySem.W.codeIn K cdd17 "_law_net" = true)
    (kd17_ : PySem.W.keepIn K (.ref fd17) = true)
    (ad18 : PySem.W.nsIn K mainGlobals "_law_odd" = some (some (.ref fd18)))
    (ld18 : K.lookup fd18 = some ⟨ocd18, odd18, .func (PySem.W.fnOf "_law_odd" "_law_odd" (defArgs s__law_odd) (defBody s__law_odd) (defScope s__law_odd) .none kVd18 dcd18 pmd18 and18 cdd18 ctd18), sld18⟩)
    (cd18_ : PySem.W.codeIn K cdd18 "_law_odd" = true)
    (kd18_ : PySem.W.keepIn K (.ref fd18) = true)
    (ad19 : PySem.W.nsIn K mainGlobals "_law_figures" = some (some (.ref fd19)))
    (ld19 : K.lookup fd19 = some ⟨ocd19, odd19, .func (PySem.W.fnOf "_law_figures" "_law_figures" (defArgs s__law_figures) (defBody s__law_figures) (defScope s__law_figures) .none kVd19 dcd19 pmd19 and19 cdd19 ctd19), sld19⟩)
    (cd19_ : PySem.W.codeIn K cdd19 "_law_figures" = true)
    (kd19_ : PySem.W.keepIn K (.ref fd19) = true)
    (ad20 : PySem.W.nsIn K mainGlobals "_law_road_in" = some (some (.ref fd20)))
    (ld20 : K.lookup fd20 = some ⟨ocd20, odd20, .func (PySem.W.fnOf "_law_road_in" "_law_road_in" (defArgs s__law_road_in) (defBody s__law_road_in) (defScope s__law_road_in) .none kVd20 dcd20 pmd20 and20 cdd20 ctd20), sld20⟩)
    (cd20_ : PySem.W.codeIn K cdd20 "_law_road_in" = true)
    (kd20_ : PySem.W.keepIn K (.ref fd20) = true)
    (ad21 : PySem.W.nsIn K mainGlobals "_law_read" = some (some (.ref fd21)))
    (ld21 : K.lookup fd21 = some ⟨ocd21, odd21, .func (PySem.W.fnOf "_law_read" "_law_read" (defArgs s__law_read) (defBody s__law_read) (defScope s__law_read) .none kVd21 dcd21 pmd21 and21 cdd21 ctd21), sld21⟩)
    (cd21_ : PySem.W.codeIn K cdd21 "_law_read" = true)
    (kd21_ : PySem.W.keepIn K (.ref fd21) = true)
    (ad22 : PySem.W.nsIn K mainGlobals "_law_bent" = some (some (.ref fd22)))
    (ld22 : K.lookup fd22 = some ⟨ocd22, odd22, .func (PySem.W.fnOf "_law_bent" "_law_bent" (defArgs s__law_bent) (defBody s__law_bent) (defScope s__law_bent) .none kVd22 dcd22 pmd22 and22 cdd22 ctd22), sld22⟩)
    (cd22_ : PySem.W.codeIn K cdd22 "_law_bent" = true)
    (kd22_ : PySem.W.keepIn K (.ref fd22) = true)
    (aL : PySem.W.nsIn K mainGlobals "law" = some (some (.ref fL)))
    (lL : K.lookup fL = some ⟨ocL, odL, .func (PySem.W.fnOf "law" "law" (defArgs sLaw) (defBody sLaw) (defScope sLaw) .none kVL dcL pmL anL (.ref cL) ctL), slL⟩)
    (cL_ : PySem.W.codeIn K (.ref cL) "law" = true)
    (kL_ : PySem.W.keepIn K (.ref fL) = true)
    (z_len : PySem.W.nsIn K mainGlobals "len" = some none)
    (z_isinstance : PySem.W.nsIn K mainGlobals "isinstance" = some none)
    (z_all : PySem.W.nsIn K mainGlobals "all" = some none)
    (z_max : PySem.W.nsIn K mainGlobals "max" = some none)
    (z_min : PySem.W.nsIn K mainGlobals "min" = some none)
    (z_int : PySem.W.nsIn K mainGlobals "int" = some none)
    (z_str : PySem.W.nsIn K mainGlobals "str" = some none)
    (z_tuple : PySem.W.nsIn K mainGlobals "tuple" = some none)
    (z_range : PySem.W.nsIn K mainGlobals "range" = some none)
    (z_enumerate : PySem.W.nsIn K mainGlobals "enumerate" = some none)
    (z_repr : PySem.W.nsIn K mainGlobals "repr" = some none)
    (z_bool : PySem.W.nsIn K mainGlobals "bool" = some none)
    (z_ValueError : PySem.W.nsIn K mainGlobals "ValueError" = some none)
    (q0 : PySem.W.nsIn K mainGlobals "MOST_PLACES" = some (some (.int 10 t0)))
    (q1 : PySem.W.nsIn K mainGlobals "MOST_ROADS" = some (some (.int 30 t1)))
    (q2 : PySem.W.nsIn K mainGlobals "LEAST_COST" = some (some (.int 1 t2)))
    (q3 : PySem.W.nsIn K mainGlobals "MOST_COST" = some (some (.int 99 t3)))
    (q4 : PySem.W.nsIn K mainGlobals "MOST_TIME" = some (some (.int 99 t4)))
    (q5 : PySem.W.nsIn K mainGlobals "MOST_FIGURES" = some (some (.int 2 t5)))
    (g_g0 : PySem.W.nsIn K mainGlobals "NoNet" = some (some (.ref e0)))
    (g_g1 : PySem.W.nsIn K mainGlobals "NoPlace" = some (some (.ref e1)))
    (g_g2 : PySem.W.nsIn K mainGlobals "NoRoad" = some (some (.ref e2)))
    (g_g3 : PySem.W.nsIn K mainGlobals "NoMany" = some (some (.ref e3)))
    (g_g4 : PySem.W.nsIn K mainGlobals "NoShut" = some (some (.ref e4)))
    (g_g5 : PySem.W.nsIn K mainGlobals "NoCost" = some (some (.ref e5)))
    (g_g6 : PySem.W.nsIn K mainGlobals "NoNumber" = some (some (.ref e6)))
    (g_g7 : PySem.W.nsIn K mainGlobals "NoWay" = some (some (.ref e7)))
    (g_g8 : PySem.W.nsIn K mainGlobals "NoWord" = some (some (.ref e8)))
    (g_g9 : PySem.W.nsIn K mainGlobals "NoTime" = some (some (.ref e9)))
    (g_g10 : PySem.W.nsIn K mainGlobals "NoChange" = some (some (.ref e10)))
    (g_g11 : PySem.W.nsIn K mainGlobals "NoPaper" = some (some (.ref e11)))
    (g_g12 : PySem.W.nsIn K mainGlobals "NoLine" = some (some (.ref e12)))
    (g_g13 : PySem.W.nsIn K mainGlobals "NoText" = some (some (.ref e13)))
    (g_g14 : PySem.W.nsIn K mainGlobals "NoAsk" = some (some (.ref e14)))
    (g_g15 : PySem.W.nsIn K mainGlobals "Nothing" = some (some (.ref e15)))
    (g_g16 : PySem.W.nsIn K mainGlobals "TooMany" = some (some (.ref e16)))
    (g_gT : PySem.W.nsIn K mainGlobals "NoThing" = some (some (.ref eT)))
    (g_gN : PySem.W.nsIn K mainGlobals "NotNow" = some (some (.ref eN)))
    (g_gW : PySem.W.nsIn K mainGlobals "WayError" = some (some (.ref eW)))
    (x3_13 : PySem.W.subIn K (.ref e13) (.type "BaseException") = some true)
    (y1_13 : PySem.W.findIn K (.ref e13) "__getattribute__" = some (some (.builtin "BaseException.__getattribute__")))
    (y2_13 : PySem.W.findIn K (.ref e13) "__getattr__" = some none)
    (y3_13 : PySem.W.hasDictIn K e13 = true)
    (y4_13 : PySem.W.findIn K (.ref e13) "__class__" = some (some (.builtin "object.__class__")))
    (y5 : PySem.W.specialIn K (.builtin "object.__class__") "__get__" = some (some (.builtin "getset_descriptor.__get__")))
    (y6 : PySem.W.takesIn K (.builtin "object.__class__") = some true)
    (y7_13 : PySem.W.mroIn K e13 (.type "object") = some true)
    (j_k13_0 : PySem.W.kitOne K (.ref e13) (.ref e0) = some false)
    (j_k13_1 : PySem.W.kitOne K (.ref e13) (.ref e1) = some false)
    (j_k13_2 : PySem.W.kitOne K (.ref e13) (.ref e2) = some false)
    (j_k13_3 : PySem.W.kitOne K (.ref e13) (.ref e3) = some false)
    (j_k13_4 : PySem.W.kitOne K (.ref e13) (.ref e4) = some false)
    (j_k13_5 : PySem.W.kitOne K (.ref e13) (.ref e5) = some false)
    (j_k13_6 : PySem.W.kitOne K (.ref e13) (.ref e6) = some false)
    (j_k13_7 : PySem.W.kitOne K (.ref e13) (.ref e7) = some false)
    (j_k13_8 : PySem.W.kitOne K (.ref e13) (.ref e8) = some false)
    (j_k13_9 : PySem.W.kitOne K (.ref e13) (.ref e9) = some false)
    (j_k13_10 : PySem.W.kitOne K (.ref e13) (.ref e10) = some false)
    (j_k13_11 : PySem.W.kitOne K (.ref e13) (.ref e11) = some false)
    (j_k13_12 : PySem.W.kitOne K (.ref e13) (.ref e12) = some false)
    (j_k13_13 : PySem.W.kitOne K (.ref e13) (.ref e13) = some true)
    (j_k13_14 : PySem.W.kitOne K (.ref e13) (.ref e14) = some false)
    (j_k13_15 : PySem.W.kitOne K (.ref e13) (.ref e15) = some false)
    (j_k13_16 : PySem.W.kitOne K (.ref e13) (.ref e16) = some false)
    (j_kT13 : PySem.W.kitOne K (.ref e13) (.ref eT) = some true)
    (j_kN13 : PySem.W.kitOne K (.ref e13) (.ref eN) = some false)
    (j_kV13 : PySem.W.kitOne K (.ref e13) (.type "ValueError") = some true)
    (j_eW13 : PySem.W.exmOne K (.ref e13) (.ref eW) = some true)
    (j_n13_at : PySem.W.findIn K (.ref e13) "at" = some none)
    (x1_0 : PySem.W.excIn K e0 [.type "ValueError", .type "Exception", .type "BaseException", .type "object"] "ValueError.__new__" = true)
    (x2_0 : PySem.W.keepIn K (.ref e0) = true)
    (x3_0 : PySem.W.subIn K (.ref e0) (.type "BaseException") = some true)
    (x4_0 : PySem.W.typeIn K (.ref e0) = some (.type "type"))
    (x2_13 : PySem.W.keepIn K (.ref e13) = true)
    (x4_13 : PySem.W.typeIn K (.ref e13) = some (.type "type"))
    (v1_NoText : ∃ nm q N bs bm sn sub ab col dd k0 k1 k2 k3 k5, K.lookup e13 = some (excClassObj nm q e13 N bs bm true sn sub ab col dd k0 k1 k2 k3 k5 "ValueError.__new__") ∧ PySem.HandSPX.refsVE bm = true)
    (v2_NoText : PySem.W.findIn K (.ref e13) "__setattr__" = some (some (.builtin "object.__setattr__")))
    (v3_NoText : (PySem.W.clsIn K e13).isSome = true)
    (v4_NoText : PySem.W.mroIn K e13 (.ref e13) = some true)
    (v5_NoText : PySem.W.subIn K (.ref e13) (.type "ValueError") = some true)
    (v6_ : PySem.W.nsIn K mainGlobals "super" = some none)
    (v7_ : PySem.W.nsIn K cStatics "thirdparty.any" = some none)
    (v8_NoText : PySem.W.ks_superIn K e13 e13 "__init__" = some (some (.builtin "ValueError.__init__")))
    (v9_ : (P.main.scope.names.lookup ("super" : Str)).isSome = false)
    (iI_NoText : PySem.W.findIn K (.ref e13) "__init__" = some (some (.ref fINoText)))
    (yI_NoText : PySem.W.typeIn K (.ref fINoText) = some (.type "function"))
    (lI_NoText : K.lookup fINoText = some ⟨ocINoText, odINoText, .func (PySem.W.fnX "__init__" "NoText.__init__" (C8.fnArgs si_NoText) (C8.fnBody si_NoText) (C8.fnScope si_NoText) [("__class__", ccINoText)] .none .none dcINoText pmINoText none (.ref cINoText) ctINoText), slINoText⟩)
    (cI_NoText : PySem.W.codeIn K (.ref cINoText) "NoText.__init__" = true)
    (wI_NoText : ∃ (ccl : Value) (cdd : Option Addr) (vs : Array Value) (ccs : Array (Option Value)) (file : Str) (tf : Tok), K.lookup cINoText = some ⟨ccl, cdd, .fields vs, ccs⟩ ∧ vs[2]? = some (.str file tf) ∧ ((P.main.file : Str) == file) = true)
    (tI_NoText : K.lookup ccINoText = some ⟨clINoText, cldINoText, .cell (some (.ref e13)), cslINoText⟩)
    (nT : K.lookup TT = none)
    (hd : PySem.W.codeHdIn K cL TT = true) :
    K.lookup TT = none ∧ ∃ c, PySem.W.codeHdIn K c TT = true ∧ Runs P w K mg c TT fa := by
  have e := hfa.symm.trans (PySem.W.mg_of X G aL)
  cases e
  have Fd0 := fun_mk (st := s_is_whole) ld0 cd0_ kd0_
  have Bd0 := Fd0.binds (ps := ["thing"]) fun _ _ _ _ _ _ us hl => match us, hl with | [_], _ => rfl
  have Fd1 := fun_mk (st := s_is_within) ld1 cd1_ kd1_
  have Bd1 := Fd1.binds (ps := ["thing", "low", "high"]) fun _ _ _ _ _ _ us hl => match us, hl with | [_, _, _], _ => rfl
  have Fd2 := fun_mk (st := s_is_tuple_of) ld2 cd2_ kd2_
  have Bd2 := Fd2.binds (ps := ["thing", "many"]) fun _ _ _ _ _ _ us hl => match us, hl with | [_, _], _ => rfl
  have Fd3 := fun_mk (st := s_is_road_among) ld3 cd3_ kd3_
  have Bd3 := Fd3.binds (ps := ["places", "thing"]) fun _ _ _ _ _ _ us hl => match us, hl with | [_, _], _ => rfl
  have Fd4 := fun_mk (st := s_is_net) ld4 cd4_ kd4_
  have Bd4 := Fd4.binds (ps := ["thing"]) fun _ _ _ _ _ _ us hl => match us, hl with | [_], _ => rfl
  have Fd5 := fun_mk (st := s_check_net) ld5 cd5_ kd5_
  have Bd5 := Fd5.binds (ps := ["thing"]) fun _ _ _ _ _ _ us hl => match us, hl with | [_], _ => rfl
  have Fd6 := fun_mk (st := s_net_text) ld6 cd6_ kd6_
  have Bd6 := Fd6.binds (ps := ["net"]) fun _ _ _ _ _ _ us hl => match us, hl with | [_], _ => rfl
  have Fd7 := fun_mk (st := s_net_read) ld7 cd7_ kd7_
  have Bd7 := Fd7.binds (ps := ["text"]) fun _ _ _ _ _ _ us hl => match us, hl with | [_], _ => rfl
  have Fd8 := fun_mk (st := s_net_of_lines) ld8 cd8_ kd8_
  have Bd8 := Fd8.binds (ps := ["lines"]) fun _ _ _ _ _ _ us hl => match us, hl with | [_], _ => rfl
  have Fd9 := fun_mk (st := s_parts_of_line) ld9 cd9_ kd9_
  have Bd9 := Fd9.binds (ps := ["line"]) fun _ _ _ _ _ _ us hl => match us, hl with | [_], _ => rfl
  have Fd10 := fun_mk (st := s_number_of_figures) ld10 cd10_ kd10_
  have Bd10 := Fd10.binds (ps := ["word", "most"]) fun _ _ _ _ _ _ us hl => match us, hl with | [_, _], _ => rfl
  have Fd11 := fun_mk (st := s__law_cell_at) ld11 cd11_ kd11_
  have Bd11 := Fd11.binds (ps := ["_law_script", "_law_k"]) fun _ _ _ _ _ _ us hl => match us, hl with | [_, _], _ => rfl
  have Fd12 := fun_mk (st := s__law_state) ld12 cd12_ kd12_
  have Bd12 := Fd12.binds (ps := ["_law_script", "_law_k"]) fun _ _ _ _ _ _ us hl => match us, hl with | [_, _], _ => rfl
  have Fd13 := fun_mk (st := s__law_take) ld13 cd13_ kd13_
  have Bd13 := Fd13.binds (ps := ["_law_state_here", "_law_much"]) fun _ _ _ _ _ _ us hl => match us, hl with | [_, _], _ => rfl
  have Fd14 := fun_mk (st := s__law_marks) ld14 cd14_ kd14_
  have Bd14 := Fd14.binds (ps := ["_law_e"]) fun _ _ _ _ _ _ us hl => match us, hl with | [_], _ => rfl
  have Fd15 := fun_mk (st := s__law_word) ld15 cd15_ kd15_
  have Bd15 := Fd15.binds (ps := ["_law_e"]) fun _ _ _ _ _ _ us hl => match us, hl with | [_], _ => rfl
  have Fd16 := fun_mk (st := s__law_said) ld16 cd16_ kd16_
  have Bd16 := Fd16.binds (ps := ["_law_call"]) fun _ _ _ _ _ _ us hl => match us, hl with | [_], _ => rfl
  have Fd17 := fun_mk (st := s__law_net) ld17 cd17_ kd17_
  have Bd17 := Fd17.binds (ps := ["_law_state_here", "_law_most", "_law_roads"]) fun _ _ _ _ _ _ us hl => match us, hl with | [_, _, _], _ => rfl
  have Fd18 := fun_mk (st := s__law_odd) ld18 cd18_ kd18_
  have Bd18 := Fd18.binds (ps := ["_law_state_here"]) fun _ _ _ _ _ _ us hl => match us, hl with | [_], _ => rfl
  have Fd19 := fun_mk (st := s__law_figures) ld19 cd19_ kd19_
  have Bd19 := Fd19.binds (ps := ["_law_word_here"]) fun _ _ _ _ _ _ us hl => match us, hl with | [_], _ => rfl
  have Fd20 := fun_mk (st := s__law_road_in) ld20 cd20_ kd20_
  have Bd20 := Fd20.binds (ps := ["_law_line", "_law_spots"]) fun _ _ _ _ _ _ us hl => match us, hl with | [_, _], _ => rfl
  have Fd21 := fun_mk (st := s__law_read) ld21 cd21_ kd21_
  have Bd21 := Fd21.binds (ps := ["_law_text"]) fun _ _ _ _ _ _ us hl => match us, hl with | [_], _ => rfl
  have Fd22 := fun_mk (st := s__law_bent) ld22 cd22_ kd22_
  have Bd22 := Fd22.binds (ps := ["_law_state_here", "_law_text"]) fun _ _ _ _ _ _ us hl => match us, hl with | [_, _], _ => rfl
  have T : Tx P K mg (fun i => match i with | 0 => e0 | 1 => e1 | 2 => e2 | 3 => e3 | 4 => e4 | 5 => e5 | 6 => e6 | 7 => e7 | 8 => e8 | 9 => e9 | 10 => e10 | 11 => e11 | 12 => e12 | 13 => e13 | 14 => e14 | 15 => e15 | 16 => e16 | _ => 0) := { h_is_whole := ⟨_, _, Fd0, Bd0, PySem.W.mg_of X G ad0⟩, h_is_within := ⟨_, _, Fd1, Bd1, PySem.W.mg_of X G ad1⟩, h_is_tuple_of := ⟨_, _, Fd2, Bd2, PySem.W.mg_of X G ad2⟩, h_is_road_among := ⟨_, _, Fd3, Bd3, PySem.W.mg_of X G ad3⟩, h_is_net := ⟨_, _, Fd4, Bd4, PySem.W.mg_of X G ad4⟩, h_check_net := ⟨_, _, Fd5, Bd5, PySem.W.mg_of X G ad5⟩, h_net_text := ⟨_, _, Fd6, Bd6, PySem.W.mg_of X G ad6⟩, h_net_read := ⟨_, _, Fd7, Bd7, PySem.W.mg_of X G ad7⟩, h_net_of_lines := ⟨_, _, Fd8, Bd8, PySem.W.mg_of X G ad8⟩, h_parts_of_line := ⟨_, _, Fd9, Bd9, PySem.W.mg_of X G ad9⟩, h_number_of_figures := ⟨_, _, Fd10, Bd10, PySem.W.mg_of X G ad10⟩, h__law_cell_at := ⟨_, _, Fd11, Bd11, PySem.W.mg_of X G ad11⟩, h__law_state := ⟨_, _, Fd12, Bd12, PySem.W.mg_of X G ad12⟩, h__law_take := ⟨_, _, Fd13, Bd13, PySem.W.mg_of X G ad13⟩, h__law_marks := ⟨_, _, Fd14, Bd14, PySem.W.mg_of X G ad14⟩, h__law_word := ⟨_, _, Fd15, Bd15, PySem.W.mg_of X G ad15⟩, h__law_said := ⟨_, _, Fd16, Bd16, PySem.W.mg_of X G ad16⟩, h__law_net := ⟨_, _, Fd17, Bd17, PySem.W.mg_of X G ad17⟩, h__law_odd := ⟨_, _, Fd18, Bd18, PySem.W.mg_of X G ad18⟩, h__law_figures := ⟨_, _, Fd19, Bd19, PySem.W.mg_of X G ad19⟩, h__law_road_in := ⟨_, _, Fd20, Bd20, PySem.W.mg_of X G ad20⟩, h__law_read := ⟨_, _, Fd21, Bd21, PySem.W.mg_of X G ad21⟩, h__law_bent := ⟨_, _, Fd22, Bd22, PySem.W.mg_of X G ad22⟩, len := PySem.W.mg_none_of X G z_len, isinstance := PySem.W.mg_none_of X G z_isinstance, all := PySem.W.mg_none_of X G z_all, max := PySem.W.mg_none_of X G z_max, min := PySem.W.mg_none_of X G z_min, int := PySem.W.mg_none_of X G z_int, str := PySem.W.mg_none_of X G z_str, tuple := PySem.W.mg_none_of X G z_tuple, range := PySem.W.mg_none_of X G z_range, enumerate := PySem.W.mg_none_of X G z_enumerate, repr := PySem.W.mg_none_of X G z_repr, bool := PySem.W.mg_none_of X G z_bool, ValueError := PySem.W.mg_none_of X G z_ValueError, c_MOST_PLACES := ⟨_, PySem.W.mg_of X G q0⟩, c_MOST_ROADS := ⟨_, PySem.W.mg_of X G q1⟩, c_LEAST_COST := ⟨_, PySem.W.mg_of X G q2⟩, c_MOST_COST := ⟨_, PySem.W.mg_of X G q3⟩, c_MOST_TIME := ⟨_, PySem.W.mg_of X G q4⟩, c_MOST_FIGURES := ⟨_, PySem.W.mg_of X G q5⟩, e_NoNet := ⟨PySem.W.mg_of X G g_g0, x1_0, x2_0, x3_0, x4_0⟩, r_NoText := ⟨⟨⟨v1_NoText, v2_NoText, x3_13, x4_13, x2_13⟩, Option.isSome_iff_exists.mp v3_NoText, v4_NoText, v5_NoText, v6_, v7_, v8_NoText, v9_⟩, ⟨fINoText, cINoText, ccINoText, _, ⟨⟨_, _, _, _, _, _, rfl, lI_NoText⟩, cI_NoText, wI_NoText, ⟨_, _, _, _, rfl, tI_NoText⟩⟩, iI_NoText, yI_NoText⟩, PySem.W.mg_of X G g_g13, fun f hf => by
    simp only [List.mem_cons, List.not_mem_nil, or_false] at hf
    rcases hf with rfl
    · exact j_n13_at
    , PySem.W.mg_none_of X G v6_⟩ }
  have Z : Cl K mg (fun i => match i with | 0 => e0 | 1 => e1 | 2 => e2 | 3 => e3 | 4 => e4 | 5 => e5 | 6 => e6 | 7 => e7 | 8 => e8 | 9 => e9 | 10 => e10 | 11 => e11 | 12 => e12 | 13 => e13 | 14 => e14 | 15 => e15 | 16 => e16 | _ => 0) eT eN eW := { g0 := PySem.W.mg_of X G g_g0, g1 := PySem.W.mg_of X G g_g1, g2 := PySem.W.mg_of X G g_g2, g3 := PySem.W.mg_of X G g_g3, g4 := PySem.W.mg_of X G g_g4, g5 := PySem.W.mg_of X G g_g5, g6 := PySem.W.mg_of X G g_g6, g7 := PySem.W.mg_of X G g_g7, g8 := PySem.W.mg_of X G g_g8, g9 := PySem.W.mg_of X G g_g9, g10 := PySem.W.mg_of X G g_g10, g11 := PySem.W.mg_of X G g_g11, g12 := PySem.W.mg_of X G g_g12, g13 := PySem.W.mg_of X G g_g13, g14 := PySem.W.mg_of X G g_g14, g15 := PySem.W.mg_of X G g_g15, g16 := PySem.W.mg_of X G g_g16, gT := PySem.W.mg_of X G g_gT, gN := PySem.W.mg_of X G g_gN, gW := PySem.W.mg_of X G g_gW, c13 := ⟨y1_13, y2_13, x3_13, y3_13, y4_13, y5, y6, y7_13⟩, k13_0 := j_k13_0, k13_1 := j_k13_1, k13_2 := j_k13_2, k13_3 := j_k13_3, k13_4 := j_k13_4, k13_5 := j_k13_5, k13_6 := j_k13_6, k13_7 := j_k13_7, k13_8 := j_k13_8, k13_9 := j_k13_9, k13_10 := j_k13_10, k13_11 := j_k13_11, k13_12 := j_k13_12, k13_13 := j_k13_13, k13_14 := j_k13_14, k13_15 := j_k13_15, k13_16 := j_k13_16, kT13 := j_kT13, kN13 := j_kN13, kV13 := j_kV13, eW13 := j_eW13, x13 := ⟨y1_13, y2_13, x3_13, y3_13⟩, n13_at := j_n13_at }
  refine ⟨nT, cL, hd, fun base H s a ns tb hT sq env => ?_⟩
  refine LamX.run_ofS (k := 14) (N := ["_law_script", "_law_some", "_law_text", "_law_k", "_law_state_here", "_law_turn", "_law_things", "_law_lap", "_law_one", "_law_what"]) (ps := ["_law_script"]) (us := [.ref a]) (vs := [.ref a]) lL cL_ scLaw ⟨rfl, by decide, by decide⟩ env (.of_eq rfl) (.cons rfl .nil) rfl fun hr => ?_
  obtain ⟨t, ht, hq⟩ := law_reads (P := P) (w := w) (base := base) (fL := fa) (s := s) (H := H) (a := a) (ns := ns) T Z tb rfl hr hT sq
  exact ⟨t, ht.nox, hq⟩
end Wy

open PySem PySem.W PyProof.Rows
set_option maxHeartbeats 0 in
theorem PySem.Challenge.cw_waysranked_k76_texts_that_write_no_net_holds : PySem.Challenge.rw_waysranked_k76_texts_that_write_no_net.Holds := by
  w_on; o_law; k_head; (case hw => w_witness2)
  k_fill
  refine Wy.walk_end (l := PySem.Challenge.rw_waysranked_k76_texts_that_write_no_net) (n := 63) rfl (by decide) rfl (fun w h Y => PySem.W.km_in_of Y) (fun w h Y => PySem.W.km_tabs_of Y _ (List.Mem.head _)) ?F
  case F =>
    intro w mg fa h KX G hmg
    refine' Wy.fin_mk KX G hmg ?zz_ad0 ?zz_ld0 ?zz_cd0_ ?zz_kd0_ ?zz_ad1 ?zz_ld1 ?zz_cd1_ ?zz_kd1_ ?zz_ad2 ?zz_ld2 ?zz_cd2_ ?zz_kd2_ ?zz_ad3 ?zz_ld3 ?zz_cd3_ ?zz_kd3_ ?zz_ad4 ?zz_ld4 ?zz_cd4_ ?zz_kd4_ ?zz_ad5 ?zz_ld5 ?zz_cd5_ ?zz_kd5_ ?zz_ad6 ?zz_ld6 ?zz_cd6_ ?zz_kd6_ ?zz_ad7 ?zz_ld7 ?zz_cd7_ ?zz_kd7_ ?zz_ad8 ?zz_ld8 ?zz_cd8_ ?zz_kd8_ ?zz_ad9 ?zz_ld9 ?zz_cd9_ ?zz_kd9_ ?zz_ad10 ?zz_ld10 ?zz_cd10_ ?zz_kd10_ ?zz_ad11 ?zz_ld11 ?zz_cd11_ ?zz_kd11_ ?zz_ad12 ?zz_ld12 ?zz_cd12_ ?zz_kd12_ ?zz_ad13 ?zz_ld13 ?zz_cd13_ ?zz_kd13_ ?zz_ad14 ?zz_ld14 ?zz_cd14_ ?zz_kd14_ ?zz_ad15 ?zz_ld15 ?zz_cd15_ ?zz_kd15_ ?zz_ad16 ?zz_ld16 ?zz_cd16_ ?zz_kd16_ ?zz_ad17 ?zz_ld17 ?zz_cd17_ ?zz_kd17_ ?zz_ad18 ?zz_ld18 ?zz_cd18_ ?zz_kd18_ ?zz_ad19 ?zz_ld19 ?zz_cd19_ ?zz_kd19_ ?zz_ad20 ?zz_ld20 ?zz_cd20_ ?zz_kd20_ ?zz_ad21 ?zz_ld21 ?zz_cd21_ ?zz_kd21_ ?zz_ad22 ?zz_ld22 ?zz_cd22_ ?zz_kd22_ ?zz_aL ?zz_lL ?zz_cL_ ?zz_kL_ ?zz_z_len ?zz_z_isinstance ?zz_z_all ?zz_z_max ?zz_z_min ?zz_z_int ?zz_z_str ?zz_z_tuple ?zz_z_range ?zz_z_enumerate ?zz_z_repr ?zz_z_bool ?zz_z_ValueError ?zz_q0 ?zz_q1 ?zz_q2 ?zz_q3 ?zz_q4 ?zz_q5 ?zz_g_g0 ?zz_g_g1 ?zz_g_g2 ?zz_g_g3 ?zz_g_g4 ?zz_g_g5 ?zz_g_g6 ?zz_g_g7 ?zz_g_g8 ?zz_g_g9 ?zz_g_g10 ?zz_g_g11 ?zz_g_g12 ?zz_g_g13 ?zz_g_g14 ?zz_g_g15 ?zz_g_g16 ?zz_g_gT ?zz_g_gN ?zz_g_gW ?zz_x3_13 ?zz_y1_13 ?zz_y2_13 ?zz_y3_13 ?zz_y4_13 ?zz_y5 ?zz_y6 ?zz_y7_13 ?zz_j_k13_0 ?zz_j_k13_1 ?zz_j_k13_2 ?zz_j_k13_3 ?zz_j_k13_4 ?zz_j_k13_5 ?zz_j_k13_6 ?zz_j_k13_7 ?zz_j_k13_8 ?zz_j_k13_9 ?zz_j_k13_10 ?zz_j_k13_11 ?zz_j_k13_12 ?zz_j_k13_13 ?zz_j_k13_14 ?zz_j_k13_15 ?zz_j_k13_16 ?zz_j_kT13 ?zz_j_kN13 ?zz_j_kV13 ?zz_j_eW13 ?zz_j_n13_at ?zz_x1_0 ?zz_x2_0 ?zz_x3_0 ?zz_x4_0 ?zz_x2_13 ?zz_x4_13 ?zz_v1_NoText ?zz_v2_NoText ?zz_v3_NoText ?zz_v4_NoText ?zz_v5_NoText ?zz_v6_ ?zz_v7_ ?zz_v8_NoText ?zz_v9_ ?zz_iI_NoText ?zz_yI_NoText ?zz_lI_NoText ?zz_cI_NoText ?zz_wI_NoText ?zz_tI_NoText ?zz_nT ?zz_hd
    (case zz_ad0 => first | k_is | rfl | decide +kernel | k_exc)
    (case zz_ld0 => first | k_is | rfl | decide +kernel | k_exc)
    (case zz_cd0_ => first | k_is | rfl | decide +kernel | k_exc)
    (case zz_kd0_ => first | k_is | rfl | decide +kernel | k_exc)
    (case zz_ad1 => first | k_is | rfl | decide +kernel | k_exc)
    (case zz_ld1 => first | k_is | rfl | decide +kernel | k_exc)
    (case zz_cd1_ => first | k_is | rfl | decide +kernel | k_exc)
    (case zz_kd1_ => first | k_is | rfl | decide +kernel | k_exc)
    (case zz_ad2 => first | k_is | rfl | decide +kernel | k_exc)
    (case zz_ld2 => first | k_is | rfl | decide +kernel | k_exc)
    (case zz_cd2_ => first | k_is | rfl | decide +kernel | k_exc)
    (case zz_kd2_ => first | k_is | rfl | decide +kernel | k_exc)
    (case zz_ad3 => first | k_is | rfl | decide +kernel | k_exc)
    (case zz_ld3 => first | k_is | rfl | decide +kernel | k_exc)
    (case zz_cd3_ => first | k_is | rfl | decide +kernel | k_exc)
    (case zz_kd3_ => first | k_is | rfl | decide +kernel | k_exc)
    (case zz_ad4 => first | k_is | rfl | decide +kernel | k_exc)
    (case zz_ld4 => first | k_is | rfl | decide +kernel | k_exc)
    (case zz_cd4_ => first | k_is | rfl | decide +kernel | k_exc)
    (case zz_kd4_ => first | k_is | rfl | decide +kernel | k_exc)
    (case zz_ad5 => first | k_is | rfl | decide +kernel | k_exc)
    (case zz_ld5 => first | k_is | rfl | decide +kernel | k_exc)
    (case zz_cd5_ => first | k_is | rfl | decide +kernel | k_exc)
    (case zz_kd5_ => first | k_is | rfl | decide +kernel | k_exc)
    (case zz_ad6 => first | k_is | rfl | decide +kernel | k_exc)
    (case zz_ld6 => first | k_is | rfl | decide +kernel | k_exc)
    (case zz_cd6_ => first | k_is | rfl | decide +kernel | k_exc)
    (case zz_kd6_ => first | k_is | rfl | decide +kernel | k_exc)
    (case zz_ad7 => first | k_is | rfl | decide +kernel | k_exc)
    (case zz_ld7 => first | k_is | rfl | decide +kernel | k_exc)
    (case zz_cd7_ => first | k_is | rfl | decide +kernel | k_exc)
    (case zz_kd7_ => first | k_is | rfl | decide +kernel | k_exc)
    (case zz_ad8 => first | k_is | rfl | decide +kernel | k_exc)
    (case zz_ld8 => first | k_is | rfl | decide +kernel | k_exc)
    (case zz_cd8_ => first | k_is | rfl | decide +kernel | k_exc)
    (case zz_kd8_ => first | k_is | rfl | decide +kernel | k_exc)
    (case zz_ad9 => first | k_is | rfl | decide +kernel | k_exc)
    (case zz_ld9 => first | k_is | rfl | decide +kernel | k_exc)
    (case zz_cd9_ => first | k_is | rfl | decide +kernel | k_exc)
    (case zz_kd9_ => first | k_is | rfl | decide +kernel | k_exc)
    (case zz_ad10 => first | k_is | rfl | decide +kernel | k_exc)
    (case zz_ld10 => first | k_is | rfl | decide +kernel | k_exc)
    (case zz_cd10_ => first | k_is | rfl | decide +kernel | k_exc)
    (case zz_kd10_ => first | k_is | rfl | decide +kernel | k_exc)
    (case zz_ad11 => first | k_is | rfl | decide +kernel | k_exc)
    (case zz_ld11 => first | k_is | rfl | decide +kernel | k_exc)
    (case zz_cd11_ => first | k_is | rfl | decide +kernel | k_exc)
    (case zz_kd11_ => first | k_is | rfl | decide +kernel | k_exc)
    (case zz_ad12 => first | k_is | rfl | decide +kernel | k_exc)
    (case zz_ld12 => first | k_is | rfl | decide +kernel | k_exc)
    (case zz_cd12_ => first | k_is | rfl | decide +kernel | k_exc)
    (case zz_kd12_ => first | k_is | rfl | decide +kernel | k_exc)
    (case zz_ad13 => first | k_is | rfl | decide +kernel | k_exc)
    (case zz_ld13 => first | k_is | rfl | decide +kernel | k_exc)
    (case zz_cd13_ => first | k_is | rfl | decide +kernel | k_exc)
    (case zz_kd13_ => first | k_is | rfl | decide +kernel | k_exc)
    (case zz_ad14 => first | k_is | rfl | decide +kernel | k_exc)
    (case zz_ld14 => first | k_is | rfl | decide +kernel | k_exc)
    (case zz_cd14_ => first | k_is | rfl | decide +kernel | k_exc)
    (case zz_kd14_ => first | k_is | rfl | decide +kernel | k_exc)
    (case zz_ad15 => first | k_is | rfl | decide +kernel | k_exc)
    (case zz_ld15 => first | k_is | rfl | decide +kernel | k_exc)
    (case zz_cd15_ => first | k_is | rfl | decide +kernel | k_exc)
    (case zz_kd15_ => first | k_is | rfl | decide +kernel | k_exc)
    (case zz_ad16 => first | k_is | rfl | decide +kernel | k_exc)
    (case zz_ld16 => first | k_is | rfl | decide +kernel | k_exc)
    (case zz_cd16_ => first | k_is | rfl | decide +kernel | k_exc)
    (case zz_kd16_ => first | k_is | rfl | decide +kernel | k_exc)
    (case zz_ad17 => first | k_is | rfl | decide +kernel | k_exc)
    (case zz_ld17 => first | k_is | rfl | decide +kernel | k_exc)
    (case zz_cd17_ => first | k_is | rfl | decide +kernel | k_exc)
    (case zz_kd17_ => first | k_is | rfl | decide +kernel | k_exc)
    (case zz_ad18 => first | k_is | rfl | decide +kernel | k_exc)
    (case zz_ld18 => first | k_is | rfl | decide +kernel | k_exc)
    (case zz_cd18_ => first | k_is | rfl | decide +kernel | k_exc)
    (case zz_kd18_ => first | k_is | rfl | decide +kernel | k_exc)
    (case zz_ad19 => first | k_is | rfl | decide +kernel | k_exc)
    (case zz_ld19 => first | k_is | rfl | decide +kernel | k_exc)
    (case zz_cd19_ => first | k_is | rfl | decide +kernel | k_exc)
    (case zz_kd19_ => first | k_is | rfl | decide +kernel | k_exc)
    (case zz_ad20 => first | k_is | rfl | decide +kernel | k_exc)
    (case zz_ld20 => first | k_is | rfl | decide +kernel | k_exc)
    (case zz_cd20_ => first | k_is | rfl | decide +kernel | k_exc)
    (case zz_kd20_ => first | k_is | rfl | decide +kernel | k_exc)
    (case zz_ad21 => first | k_is | rfl | decide +kernel | k_exc)
    (case zz_ld21 => first | k_is | rfl | decide +kernel | k_exc)
    (case zz_cd21_ => first | k_is | rfl | decide +kernel | k_exc)
    (case zz_kd21_ => first | k_is | rfl | decide +kernel | k_exc)
    (case zz_ad22 => first | k_is | rfl | decide +kernel | k_exc)
    (case zz_ld22 => first | k_is | rfl | decide +kernel | k_exc)
    (case zz_cd22_ => first | k_is | rfl | decide +kernel | k_exc)
    (case zz_kd22_ => first | k_is | rfl | decide +kernel | k_exc)
    (case zz_aL => first | k_is | rfl | decide +kernel | k_exc)
    (case zz_lL => first | k_is | rfl | decide +kernel | k_exc)
    (case zz_cL_ => first | k_is | rfl | decide +kernel | k_exc)
    (case zz_kL_ => first | k_is | rfl | decide +kernel | k_exc)
    (case zz_z_len => first | k_is | rfl | decide +kernel | k_exc)
    (case zz_z_isinstance => first | k_is | rfl | decide +kernel | k_exc)
    (case zz_z_all => first | k_is | rfl | decide +kernel | k_exc)
    (case zz_z_max => first | k_is | rfl | decide +kernel | k_exc)
    (case zz_z_min => first | k_is | rfl | decide +kernel | k_exc)
    (case zz_z_int => first | k_is | rfl | decide +kernel | k_exc)
    (case zz_z_str => first | k_is | rfl | decide +kernel | k_exc)
    (case zz_z_tuple => first | k_is | rfl | decide +kernel | k_exc)
    (case zz_z_range => first | k_is | rfl | decide +kernel | k_exc)
    (case zz_z_enumerate => first | k_is | rfl | decide +kernel | k_exc)
    (case zz_z_repr => first | k_is | rfl | decide +kernel | k_exc)
    (case zz_z_bool => first | k_is | rfl | decide +kernel | k_exc)
    (case zz_z_ValueError => first | k_is | rfl | decide +kernel | k_exc)
    (case zz_q0 => first | k_is | rfl | decide +kernel | k_exc)
    (case zz_q1 => first | k_is | rfl | decide +kernel | k_exc)
    (case zz_q2 => first | k_is | rfl | decide +kernel | k_exc)
    (case zz_q3 => first | k_is | rfl | decide +kernel | k_exc)
    (case zz_q4 => first | k_is | rfl | decide +kernel | k_exc)
    (case zz_q5 => first | k_is | rfl | decide +kernel | k_exc)
    (case zz_g_g0 => first | k_is | rfl | decide +kernel | k_exc)
    (case zz_g_g1 => first | k_is | rfl | decide +kernel | k_exc)
    (case zz_g_g2 => first | k_is | rfl | decide +kernel | k_exc)
    (case zz_g_g3 => first | k_is | rfl | decide +kernel | k_exc)
    (case zz_g_g4 => first | k_is | rfl | decide +kernel | k_exc)
    (case zz_g_g5 => first | k_is | rfl | decide +kernel | k_exc)
    (case zz_g_g6 => first | k_is | rfl | decide +kernel | k_exc)
    (case zz_g_g7 => first | k_is | rfl | decide +kernel | k_exc)
    (case zz_g_g8 => first | k_is | rfl | decide +kernel | k_exc)
    (case zz_g_g9 => first | k_is | rfl | decide +kernel | k_exc)
    (case zz_g_g10 => first | k_is | rfl | decide +kernel | k_exc)
    (case zz_g_g11 => first | k_is | rfl | decide +kernel | k_exc)
    (case zz_g_g12 => first | k_is | rfl | decide +kernel | k_exc)
    (case zz_g_g13 => first | k_is | rfl | decide +kernel | k_exc)
    (case zz_g_g14 => first | k_is | rfl | decide +kernel | k_exc)
    (case zz_g_g15 => first | k_is | rfl | decide +kernel | k_exc)
    (case zz_g_g16 => first | k_is | rfl | decide +kernel | k_exc)
    (case zz_g_gT => first | k_is | rfl | decide +kernel | k_exc)
    (case zz_g_gN => first | k_is | rfl | decide +kernel | k_exc)
    (case zz_g_gW => first | k_is | rfl | decide +kernel | k_exc)
    (case zz_x3_13 => first | k_is | rfl | decide +kernel | k_exc)
    (case zz_y1_13 => first | k_is | rfl | decide +kernel | k_exc)
    (case zz_y2_13 => first | k_is | rfl | decide +kernel | k_exc)
    (case zz_y3_13 => first | k_is | rfl | decide +kernel | k_exc)
    (case zz_y4_13 => first | k_is | rfl | decide +kernel | k_exc)
    (case zz_y5 => first | k_is | rfl | decide +kernel | k_exc)
    (case zz_y6 => first | k_is | rfl | decide +kernel | k_exc)
    (case zz_y7_13 => first | k_is | rfl | decide +kernel | k_exc)
    (case zz_j_k13_0 => first | k_is | rfl | decide +kernel | k_exc)
    (case zz_j_k13_1 => first | k_is | rfl | decide +kernel | k_exc)
    (case zz_j_k13_2 => first | k_is | rfl | decide +kernel | k_exc)
    (case zz_j_k13_3 => first | k_is | rfl | decide +kernel | k_exc)
    (case zz_j_k13_4 => first | k_is | rfl | decide +kernel | k_exc)
    (case zz_j_k13_5 => first | k_is | rfl | decide +kernel | k_exc)
    (case zz_j_k13_6 => first | k_is | rfl | decide +kernel | k_exc)
    (case zz_j_k13_7 => first | k_is | rfl | decide +kernel | k_exc)
    (case zz_j_k13_8 => first | k_is | rfl | decide +kernel | k_exc)
    (case zz_j_k13_9 => first | k_is | rfl | decide +kernel | k_exc)
    (case zz_j_k13_10 => first | k_is | rfl | decide +kernel | k_exc)
    (case zz_j_k13_11 => first | k_is | rfl | decide +kernel | k_exc)
    (case zz_j_k13_12 => first | k_is | rfl | decide +kernel | k_exc)
    (case zz_j_k13_13 => first | k_is | rfl | decide +kernel | k_exc)
    (case zz_j_k13_14 => first | k_is | rfl | decide +kernel | k_exc)
    (case zz_j_k13_15 => first | k_is | rfl | decide +kernel | k_exc)
    (case zz_j_k13_16 => first | k_is | rfl | decide +kernel | k_exc)
    (case zz_j_kT13 => first | k_is | rfl | decide +kernel | k_exc)
    (case zz_j_kN13 => first | k_is | rfl | decide +kernel | k_exc)
    (case zz_j_kV13 => first | k_is | rfl | decide +kernel | k_exc)
    (case zz_j_eW13 => first | k_is | rfl | decide +kernel | k_exc)
    (case zz_j_n13_at => first | k_is | rfl | decide +kernel | k_exc)
    (case zz_x1_0 => first | k_is | rfl | decide +kernel | k_exc)
    (case zz_x2_0 => first | k_is | rfl | decide +kernel | k_exc)
    (case zz_x3_0 => first | k_is | rfl | decide +kernel | k_exc)
    (case zz_x4_0 => first | k_is | rfl | decide +kernel | k_exc)
    (case zz_x2_13 => first | k_is | rfl | decide +kernel | k_exc)
    (case zz_x4_13 => first | k_is | rfl | decide +kernel | k_exc)
    (case zz_v1_NoText => first | exact ⟨_, _, _, _, _, _, _, _, _, _, _, _, _, _, _, rfl, by first | rfl | decide +kernel⟩ | k_is | rfl | decide +kernel | k_exc)
    (case zz_v2_NoText => first | k_is | rfl | decide +kernel | k_exc)
    (case zz_v3_NoText => first | k_is | rfl | decide +kernel | k_exc)
    (case zz_v4_NoText => first | k_is | rfl | decide +kernel | k_exc)
    (case zz_v5_NoText => first | k_is | rfl | decide +kernel | k_exc)
    (case zz_v6_ => first | k_is | rfl | decide +kernel | k_exc)
    (case zz_v7_ => first | k_is | rfl | decide +kernel | k_exc)
    (case zz_v8_NoText => first | k_is | rfl | decide +kernel | k_exc)
    (case zz_v9_ => first | k_is | rfl | decide +kernel | k_exc)
    (case zz_iI_NoText => first | k_is | rfl | decide +kernel | k_exc)
    (case zz_yI_NoText => first | k_is | rfl | decide +kernel | k_exc)
    (case zz_lI_NoText => first | k_is | rfl | decide +kernel | k_exc)
    (case zz_cI_NoText => first | k_is | rfl | decide +kernel | k_exc)
    (case zz_wI_NoText => first | exact ⟨_, _, _, _, _, _, rfl, rfl, by first | rfl | decide +kernel⟩ | k_is | rfl | decide +kernel | k_exc)
    (case zz_tI_NoText => first | exact rfl | k_is | rfl | decide +kernel | k_exc)
    (case zz_nT => first | k_is | rfl | decide +kernel | k_exc)
    (case zz_hd => first | k_is | rfl | decide +kernel | k_exc)
