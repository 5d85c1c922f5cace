import PyProof.Rows.All
import HandS.ForMost
import HandS.Evl
import HandS.Nested
import HandS.Deep
import HandS.IsInst
import HandS.Style
import HandS.Conv
import HandS.Walk
import HandS.Defaults
import HandS.HeadHook2
import HandS.MakeKw
import HandS.Property
import HandS.HeadEnd
import HandS.Keys
import HandS.SetKeys
import HandS.Flow
import HandS.Replace
import HandS.TupSets
import HandS.SetFor
import HandS.Text
import HandS.SlotsOwn
import KE.SortData
import HandS.SortInts
import HandS.WordsDict
import HandS.Dict
import KE.KDictDisplayH
import KE.GoesMore
import KE.GoesZip
import HandS.TupLen
import KE.KDictCopyH
import HandS.DictComp
import HandS.Star
import HandS.HeadHook4
import HandS.HeadNt
import HandS.NestedK
import HandS.EndTab
import Wide.All
import OpenK.AllK
import Wide.FinOn
import KE.KStateDown
import HandS.Head0
import HandS.Head1
import HandS.Head2
import Lean
import PySem.Challenge.RW_widefills_k11_whole_least_machines
set_option Elab.async false
set_option linter.all false
set_option maxRecDepth 100000
/-! Dv -/
/-! Dv: deep values, what stands in the heap for them, states of owned and shared objects. -/
namespace Dv
open PySem PySem.Spec PyProof.Rows L2 Evl LamX

/-- the tables of code objects that nested defs write -/
class Nm where
  T : List NdefX.NTab
  cd : List (Addr × Str)
  pn : Hp → Prop
  pm : ∀ {H H' : Hp}, Ex H H' → pn H → pn H'
def NT (o : HO) : Prop := ∀ ps, o ≠ .tbl ps
/-- no table among what is shared -/
def NTs (H : Hp) : Prop := ∀ b o, H b = some o → NT o
theorem NTs.upd {H : Hp} {a : Addr} {u : HO} (h : NTs H) (n : NT u) : NTs (upd H a u) := fun b o q => by
  by_cases z : b = a
  · subst z; rw [upd_same] at q; cases q; exact n
  · rw [upd_ne z] at q; exact h b o q
def Tb [Nm] (H : Hp) : Prop := NdefX.TabsN Nm.T H ∧ ∀ p ∈ Nm.cd, H p.1 = some (CodeO p.1 p.2)
theorem tb_new [Nm] {H : Hp} {a : Addr} {u : HO} (h : Tb H) (n : H a = none) : Tb (upd H a u) := ⟨h.1.ext (Ex.new n), fun p hp => (Ex.new n) _ _ (h.2 p hp)⟩
theorem tb_put [Nm] {H : Hp} {a : Addr} {u x : HO} (h : Tb H) (q : H a = some x) (n : NT x) (nc : ∀ c y, x ≠ CodeO c y) : Tb (upd H a u) := ⟨fun p hp => by
  obtain ⟨ps, h1, h2, h3⟩ := h.1 p hp
  refine ⟨ps, ?_, h2, fun pos cv hc => ?_⟩
  · rw [upd_ne (fun z => by rw [z, q] at h1; exact n ps (Option.some.inj h1))]
    exact h1
  · obtain ⟨c, e1, e2⟩ := h3 pos cv hc
    refine ⟨c, e1, ?_⟩
    rw [upd_ne (fun z => by rw [z, q] at e2; exact nc _ _ (Option.some.inj e2))]
    exact e2, fun p hp => by
  rw [upd_ne (fun z => by have e2 := h.2 p hp; rw [z, q] at e2; exact nc _ _ (Option.some.inj e2))]
  exact h.2 p hp⟩

/-- data as a program has it, without addresses -/
inductive D where
  | non | bl (b : Bool) | int (i : Int) | str (x : Str)
  | lst (xs : List D) | tup (xs : List D)
  | ins (c : Str) (fs : List (Str × D))
  | dic (kvs : List (Key × D))
  | dit (kvs : List (List Key × D))
  | scr (ns : List Int)
  | raw (v : V)

/-- classes: where they stand -/
abbrev CA := Str → Addr

mutual
inductive Rp (K : PySem.W.Frag) (ca : CA) (H : Hp) : V → D → Prop
  | non : Rp K ca H .non .non
  | bl (b : Bool) : Rp K ca H (.bl b) (.bl b)
  | int (i : Int) : Rp K ca H (.int i) (.int i)
  | str (x : Str) : Rp K ca H (.str x) (.str x)
  | lst {a : Addr} {xs : List V} {ds : List D} : H a = some (.lst xs) → RpAll K ca H xs ds → Rp K ca H (.ref a) (.lst ds)
  | tup {a : Addr} {xs : List V} {ds : List D} : H a = some (.tup xs) → RpAll K ca H xs ds → Rp K ca H (.ref a) (.tup ds)
  | ins {a dx : Addr} {c : Str} {fs : List (Str × V)} {ds : List (Str × D)} : H a = some (.ins (ca c) dx fs) → RpFs K ca H fs ds → Rp K ca H (.ref a) (.ins c ds)
  | dic {a : Addr} {fs : List (Key × V)} {ds : List (Key × D)} : H a = some (.dK fs) → RpKs K ca H fs ds → Rp K ca H (.ref a) (.dic ds)
  | dit {a : Addr} {fs : List (List Key × V)} {ds : List (List Key × D)} : H a = some (.dT fs) → RpKs K ca H fs ds → Rp K ca H (.ref a) (.dit ds)
  | scr {a : Addr} {ns : List Int} : SqL K H a (ns.map V.int) → Rp K ca H (.ref a) (.scr ns)
  | raw (v : V) : Rp K ca H v (.raw v)
inductive RpAll (K : PySem.W.Frag) (ca : CA) (H : Hp) : List V → List D → Prop
  | nil : RpAll K ca H [] []
  | cons {v : V} {vs : List V} {d : D} {ds : List D} : Rp K ca H v d → RpAll K ca H vs ds → RpAll K ca H (v :: vs) (d :: ds)
inductive RpFs (K : PySem.W.Frag) (ca : CA) (H : Hp) : List (Str × V) → List (Str × D) → Prop
  | nil : RpFs K ca H [] []
  | cons {f : Str} {v : V} {vs : List (Str × V)} {d : D} {ds : List (Str × D)} : Rp K ca H v d → RpFs K ca H vs ds → RpFs K ca H ((f, v) :: vs) ((f, d) :: ds)
inductive RpKs (K : PySem.W.Frag) (ca : CA) (H : Hp) : {κ : Type} → List (κ × V) → List (κ × D) → Prop
  | nil {κ : Type} : RpKs K ca H ([] : List (κ × V)) []
  | cons {κ : Type} {f : κ} {v : V} {vs : List (κ × V)} {d : D} {ds : List (κ × D)} : Rp K ca H v d → RpKs K ca H vs ds → RpKs K ca H ((f, v) :: vs) ((f, d) :: ds)
end

section
variable {K : PySem.W.Frag} {ca : CA} {H H' : Hp}
mutual
theorem Rp.mono (e : Ex H H') : ∀ {v : V} {d : D}, Rp K ca H v d → Rp K ca H' v d
  | _, _, .non => .non
  | _, _, .bl b => .bl b
  | _, _, .int i => .int i
  | _, _, .str x => .str x
  | _, _, .lst h r => .lst (e _ _ h) (RpAll.mono e r)
  | _, _, .tup h r => .tup (e _ _ h) (RpAll.mono e r)
  | _, _, .ins h r => .ins (e _ _ h) (RpFs.mono e r)
  | _, _, .dic h r => .dic (e _ _ h) (RpKs.mono e r)
  | _, _, .dit h r => .dit (e _ _ h) (RpKs.mono e r)
  | _, _, .scr h => .scr (ex_l e h)
  | _, _, .raw v => .raw v
theorem RpAll.mono (e : Ex H H') : ∀ {vs : List V} {ds : List D}, RpAll K ca H vs ds → RpAll K ca H' vs ds
  | _, _, .nil => .nil
  | _, _, .cons h r => .cons (Rp.mono e h) (RpAll.mono e r)
theorem RpFs.mono (e : Ex H H') : ∀ {vs : List (Str × V)} {ds : List (Str × D)}, RpFs K ca H vs ds → RpFs K ca H' vs ds
  | _, _, .nil => .nil
  | _, _, .cons h r => .cons (Rp.mono e h) (RpFs.mono e r)
theorem RpKs.mono (e : Ex H H') : ∀ {κ : Type} {vs : List (κ × V)} {ds : List (κ × D)}, RpKs K ca H vs ds → RpKs K ca H' vs ds
  | _, _, _, .nil => .nil
  | _, _, _, .cons h r => .cons (Rp.mono e h) (RpKs.mono e r)
end
theorem RpAll.len : ∀ {vs : List V} {ds : List D}, RpAll K ca H vs ds → vs.length = ds.length
  | _, _, .nil => rfl
  | _, _, .cons _ r => congrArg Nat.succ (RpAll.len r)
theorem RpAll.get : ∀ {vs : List V} {ds : List D}, RpAll K ca H vs ds → ∀ {i : Nat} {d : D}, ds[i]? = some d → ∃ v, vs[i]? = some v ∧ Rp K ca H v d
  | _, _, .nil, i, d, h => by simp at h
  | _, _, .cons h r, 0, d, e => by
    simp at e
    subst e
    exact ⟨_, rfl, h⟩
  | _, _, .cons h r, i + 1, d, e => by
    obtain ⟨v, h1, h2⟩ := RpAll.get r (i := i) (d := d) (by simpa using e)
    exact ⟨v, by simpa using h1, h2⟩
theorem RpAll.getV : ∀ {vs : List V} {ds : List D}, RpAll K ca H vs ds → ∀ {i : Nat} {v : V}, vs[i]? = some v → ∃ d, ds[i]? = some d ∧ Rp K ca H v d
  | _, _, .nil, i, d, h => by simp at h
  | _, _, .cons h r, 0, d, e => by
    simp at e
    subst e
    exact ⟨_, rfl, h⟩
  | _, _, .cons h r, i + 1, d, e => by
    obtain ⟨v, h1, h2⟩ := RpAll.getV r (i := i) (v := d) (by simpa using e)
    exact ⟨v, by simpa using h1, h2⟩
theorem RpAll.app : ∀ {vs ws : List V} {ds es : List D}, RpAll K ca H vs ds → RpAll K ca H ws es → RpAll K ca H (vs ++ ws) (ds ++ es)
  | _, _, _, _, .nil, s => s
  | _, _, _, _, .cons h r, s => .cons h (RpAll.app r s)
theorem RpAll.take : ∀ {vs : List V} {ds : List D} (n : Nat), RpAll K ca H vs ds → RpAll K ca H (vs.take n) (ds.take n)
  | _, _, 0, _ => .nil
  | _, _, _ + 1, .nil => .nil
  | _, _, n + 1, .cons h r => .cons h (RpAll.take n r)
theorem RpAll.drop : ∀ {vs : List V} {ds : List D} (n : Nat), RpAll K ca H vs ds → RpAll K ca H (vs.drop n) (ds.drop n)
  | _, _, 0, r => r
  | _, _, _ + 1, .nil => .nil
  | _, _, n + 1, .cons _ r => RpAll.drop n r
theorem RpAll.set : ∀ {vs : List V} {ds : List D} {v : V} {d : D} (n : Nat), RpAll K ca H vs ds → Rp K ca H v d → RpAll K ca H (vs.set n v) (ds.set n d)
  | _, _, _, _, _, .nil, _ => .nil
  | _, _, _, _, 0, .cons _ r, h => .cons h r
  | _, _, _, _, n + 1, .cons h r, h' => .cons h (RpAll.set n r h')
theorem RpAll.one {v : V} {d : D} (h : Rp K ca H v d) : RpAll K ca H [v] [d] := .cons h .nil
theorem RpFs.look : ∀ {fs : List (Str × V)} {ds : List (Str × D)}, RpFs K ca H fs ds → ∀ {f : Str} {d : D}, ds.lookup f = some d → ∃ v, fs.lookup f = some v ∧ Rp K ca H v d
  | _, _, .nil, f, d, e => by simp [List.lookup] at e
  | _, _, .cons (f := g) h r, f, d, e => by
    rw [List.lookup_cons] at e ⊢
    cases q : f == g with
    | true =>
      rw [q] at e
      cases e
      exact ⟨_, rfl, h⟩
    | false =>
      rw [q] at e
      exact RpFs.look r e
end

/-! ### owned objects -/
inductive Ob where
  | lst (ds : List D)
  | ins (c : Str) (fs : List (Str × D))
  | dic (kvs : List (Key × D))
  | dit (kvs : List (List Key × D))
def Ob.d : Ob → D
  | .lst ds => .lst ds
  | .ins c fs => .ins c fs
  | .dic kvs => .dic kvs
  | .dit kvs => .dit kvs
/-- what an owned object's cell holds -/
inductive OC (K : PySem.W.Frag) (ca : CA) (Hs : Hp) : HO → Ob → Prop
  | lst {vs : List V} {ds : List D} : RpAll K ca Hs vs ds → OC K ca Hs (.lst vs) (.lst ds)
  | ins {dx : Addr} {c : Str} {vs : List (Str × V)} {fs : List (Str × D)} : RpFs K ca Hs vs fs → OC K ca Hs (.ins (ca c) dx vs) (.ins c fs)
  | dic {vs : List (Key × V)} {fs : List (Key × D)} : RpKs K ca Hs vs fs → OC K ca Hs (.dK vs) (.dic fs)
  | dit {vs : List (List Key × V)} {fs : List (List Key × D)} : RpKs K ca Hs vs fs → OC K ca Hs (.dT vs) (.dit fs)
def ObR (K : PySem.W.Frag) (ca : CA) (Hs H : Hp) (a : Addr) (o : Ob) : Prop := ∃ u, H a = some u ∧ OC K ca Hs u o
section
variable {K : PySem.W.Frag} {ca : CA} {Hs Hs' H H' : Hp} {a : Addr} {o : Ob}
theorem OC.mono {u : HO} (e : Ex Hs Hs') (h : OC K ca Hs u o) : OC K ca Hs' u o := by
  cases h with
  | lst r => exact .lst (r.mono e)
  | ins r => exact .ins (r.mono e)
  | dic r => exact .dic (r.mono e)
  | dit r => exact .dit (r.mono e)
theorem OC.rp {u : HO} (e : Ex Hs H) (h : OC K ca Hs u o) (q : H a = some u) : Rp K ca H (.ref a) o.d := by
  cases h with
  | lst r => exact .lst q (r.mono e)
  | ins r => exact .ins q (r.mono e)
  | dic r => exact .dic q (r.mono e)
  | dit r => exact .dit q (r.mono e)
theorem ObR.mono (e : Ex Hs Hs') (k : H' a = H a) (h : ObR K ca Hs H a o) : ObR K ca Hs' H' a o := by
  obtain ⟨u, h1, h2⟩ := h
  exact ⟨u, k.trans h1, h2.mono e⟩
theorem OC.nt {u : HO} (h : OC K ca Hs u o) : NT u := by cases h <;> exact fun _ z => nomatch z
theorem OC.nc {u : HO} (h : OC K ca Hs u o) : ∀ c y, u ≠ CodeO c y := by cases h <;> exact fun _ _ z => nomatch z
theorem ObR.there (h : ObR K ca Hs H a o) : ∃ u, H a = some u ∧ NT u := ⟨h.choose, h.choose_spec.1, h.choose_spec.2.nt⟩
/-- as a value of the whole heap -/
theorem ObR.rp (e : Ex Hs H) (h : ObR K ca Hs H a o) : Rp K ca H (.ref a) o.d := by
  obtain ⟨u, h1, h2⟩ := h
  exact h2.rp e h1
theorem obl {ds : List D} (h : ObR K ca Hs H a (.lst ds)) : ∃ vs, H a = some (.lst vs) ∧ RpAll K ca Hs vs ds := by
  obtain ⟨u, h1, h2⟩ := h
  cases h2 with
  | lst r => exact ⟨_, h1, r⟩
theorem obi {c : Str} {fs : List (Str × D)} (h : ObR K ca Hs H a (.ins c fs)) : ∃ dx vs, H a = some (.ins (ca c) dx vs) ∧ RpFs K ca Hs vs fs := by
  obtain ⟨u, h1, h2⟩ := h
  cases h2 with
  | ins r => exact ⟨_, _, h1, r⟩
theorem obd {fs : List (Key × D)} (h : ObR K ca Hs H a (.dic fs)) : ∃ vs, H a = some (.dK vs) ∧ RpKs K ca Hs vs fs := by
  obtain ⟨u, h1, h2⟩ := h
  cases h2 with
  | dic r => exact ⟨_, h1, r⟩
theorem obdt {fs : List (List Key × D)} (h : ObR K ca Hs H a (.dit fs)) : ∃ vs, H a = some (.dT vs) ∧ RpKs K ca Hs vs fs := by
  obtain ⟨u, h1, h2⟩ := h
  cases h2 with
  | dit r => exact ⟨_, h1, r⟩
end

/-! ### states -/
/-- a name's slot: a shared thing; an owned one (b: borrowed from the caller) -/
inductive DV where
  | sh (d : D)
  | own (b : Bool) (o : Ob)
abbrev En := List (Option DV)
/-- a def's entry: what is shared, what there is, what it may change -/
structure Fx where
  Hs : Hp
  H : Hp
  mu : List Addr

def SlR (K : PySem.W.Frag) (ca : CA) (F : Fx) (Hs H : Hp) (v : V) : DV → Prop
  | .sh d => Rp K ca Hs v d
  | .own b o => ∃ a, v = .ref a ∧ Hs a = none ∧ (if b = true then a ∈ F.mu else F.H a = none) ∧ ObR K ca Hs H a o
structure SR [Nm] (K : PySem.W.Frag) (ca : CA) (F : Fx) (Hs H : Hp) (σ : L2.St) (ρ : En) (τ : List (Addr × Ob)) : Prop where
  ex : Ex Hs H
  e0 : Ex F.Hs Hs
  fr : ∀ b o, F.H b = some o → b ∉ F.mu → NT o → H b = some o
  th : ∀ b, F.H b ≠ none → H b ≠ none
  nw : ∀ b, F.Hs b = none → F.H b ≠ none → Hs b = none
  sl : ∀ (i : Nat) (x : DV), ρ[i]? = some (some x) → ∃ v, σ[i]? = some (some v) ∧ SlR K ca F Hs H v x
  dj : ∀ (i j : Nat) (b c : Bool) (o u : Ob) (v : Option V), ρ[i]? = some (some (.own b o)) → ρ[j]? = some (some (.own c u)) → σ[i]? = some v → σ[j]? = some v → i = j
  tm : ∀ p ∈ τ, Hs p.1 = none ∧ F.H p.1 = none ∧ ObR K ca Hs H p.1 p.2
  tj : (τ.map (·.1)).Nodup
  ts : ∀ p ∈ τ, ∀ (i : Nat) (b : Bool) (o : Ob), ρ[i]? = some (some (.own b o)) → σ[i]? ≠ some (some (.ref p.1))
  ln : ρ.length = σ.length
  nt : NTs Hs
  tb : Tb H
  pp : Nm.pn Hs

section
variable [Nm] {K : PySem.W.Frag} {ca : CA} {F : Fx} {Hs Hs' H H' : Hp} {σ : L2.St} {ρ : En} {τ : List (Addr × Ob)} {a : Addr} {o : Ob}
theorem none_of_ne {x : Option HO} (h : ¬ x ≠ none) : x = none := Classical.byContradiction fun z => h z
/-- what is new is new for all -/
theorem SR.fresh (S : SR K ca F Hs H σ ρ τ) (h : H a = none) : Hs a = none ∧ F.H a = none ∧ F.Hs a = none :=
  have h1 := fresh_back S.ex h
  ⟨h1, none_of_ne fun z => S.th a z h, fresh_back S.e0 h1⟩
/-- an owned slot: its address -/
theorem SR.ownAt (S : SR K ca F Hs H σ ρ τ) {i : Nat} {b : Bool} (h : ρ[i]? = some (some (.own b o))) :
    ∃ a, σ[i]? = some (some (.ref a)) ∧ Hs a = none ∧ (if b = true then a ∈ F.mu else F.H a = none) ∧ ObR K ca Hs H a o := by
  obtain ⟨v, h1, a, rfl, h2, h3, h4⟩ := S.sl i _ h
  exact ⟨a, h1, h2, h3, h4⟩
/-- THE STEP: nothing owned changes -/
theorem SR.step0 (S : SR K ca F Hs H σ ρ τ) (e : Ex Hs Hs') (ex : Ex Hs' H') (k : ExtN H H') (th : ∀ b, H b ≠ none → H' b ≠ none) (n : ∀ b, Hs b = none → H b ≠ none → Hs' b = none) (nt : NTs Hs') (tb : Tb H') : SR K ca F Hs' H' σ ρ τ where
  ex := ex
  e0 := S.e0.trans e
  fr := fun b o h1 h2 h3 => k _ _ (S.fr b o h1 h2 h3) h3
  th := fun b h => th b (S.th b h)
  nw := fun b h1 h2 => n b (S.nw b h1 h2) (S.th b h2)
  sl := fun i x h => by
    obtain ⟨v, h1, h2⟩ := S.sl i x h
    refine ⟨v, h1, ?_⟩
    cases x with
    | sh d => exact Rp.mono e h2
    | own b o =>
      obtain ⟨a, rfl, h3, h4, h5⟩ := h2
      obtain ⟨u, hu, hn⟩ := h5.there
      exact ⟨a, rfl, n a h3 (by rw [hu]; exact Option.some_ne_none u), h4, h5.mono e (by rw [k a u hu hn, hu])⟩
  dj := S.dj
  tm := fun p hp => by
    obtain ⟨h1, h2, h3⟩ := S.tm p hp
    obtain ⟨u, hu, hn⟩ := h3.there
    exact ⟨n p.1 h1 (by rw [hu]; exact Option.some_ne_none u), h2, h3.mono e (by rw [k p.1 u hu hn, hu])⟩
  tj := S.tj
  ts := S.ts
  ln := S.ln
  nt := nt
  tb := tb
  pp := Nm.pm e S.pp
/-- a new shared object -/
theorem th_new {H : Hp} {a : Addr} {u : HO} : ∀ b, H b ≠ none → upd H a u b ≠ none := fun b h => by
  by_cases z : b = a
  · rw [z, upd_same]; exact Option.some_ne_none _
  · rw [upd_ne z]; exact h
theorem SR.alloc (S : SR K ca F Hs H σ ρ τ) {u : HO} (nu : NT u) (h : H a = none) : SR K ca F (upd Hs a u) (upd H a u) σ ρ τ := by
  have hs := (S.fresh h).1
  refine S.step0 (Ex.new hs) (fun b w q => ?_) (ExtN.of (Ex.new h)) th_new (fun b h1 h2 => ?_) (S.nt.upd nu) (tb_new S.tb h)
  · by_cases e : b = a
    · subst e; rw [upd_same] at q ⊢; exact q
    · rw [upd_ne e] at q ⊢; exact S.ex b w q
  · rw [upd_ne (fun e => h2 (by rw [e]; exact h))]
    exact h1
/-- a new owned object -/
theorem SR.temp (S : SR K ca F Hs H σ ρ τ) {vs : List V} {ds : List D} (h : H a = none) (r : RpAll K ca Hs vs ds) : SR K ca F Hs (upd H a (.lst vs)) σ ρ ((a, .lst ds) :: τ) := by
  obtain ⟨n1, n2, n3⟩ := S.fresh h
  have S1 : SR K ca F Hs (upd H a (.lst vs)) σ ρ τ := S.step0 (Ex.refl _) (S.ex.trans (Ex.new h)) (ExtN.of (Ex.new h)) th_new (fun b q _ => q) S.nt (tb_new S.tb h)
  refine { S1 with tm := fun p hp => ?_, tj := ?_, ts := fun p hp i b o q z => ?_ }
  · rcases List.mem_cons.mp hp with rfl | hp
    · exact ⟨n1, n2, .lst vs, upd_same, .lst r⟩
    · exact S1.tm p hp
  · rw [List.map_cons, List.nodup_cons]
    refine ⟨fun hm => ?_, S1.tj⟩
    obtain ⟨p, hp, e⟩ := List.mem_map.mp hm
    obtain ⟨_, _, h3⟩ := S.tm p hp
    obtain ⟨u, hu, _⟩ := h3.there
    rw [show p.1 = a from e, h] at hu
    cases hu
  · rcases List.mem_cons.mp hp with rfl | hp
    · obtain ⟨c, h1, _, _, h4⟩ := S.ownAt q
      rw [h1] at z
      cases z
      obtain ⟨u, hu, _⟩ := h4.there
      have hu' : H a = some u := hu
      rw [h] at hu'; cases hu'
    · exact S1.ts p hp i b o q z
theorem SR.drop {p : Addr × Ob} (S : SR K ca F Hs H σ ρ (p :: τ)) : SR K ca F Hs H σ ρ τ :=
  { S with tm := fun q hq => S.tm q (List.mem_cons_of_mem _ hq), tj := (List.nodup_cons.mp S.tj).2, ts := fun q hq => S.ts q (List.mem_cons_of_mem _ hq) }
/-- an object that is shared from now on -/
theorem ex_share {u : HO} (hn : Hs a = none) (h : H a = some u) (e : Ex Hs H) : Ex (upd Hs a u) H := fun b w q => by
  by_cases z : b = a
  · subst z; rw [upd_same] at q; cases q; exact h
  · rw [upd_ne z] at q; exact e b w q
/-- an owned thing of a def's own is shared from now on -/
theorem SR.freezeT {p : Addr × Ob} (S : SR K ca F Hs H σ ρ (p :: τ)) : ∃ Hs', SR K ca F Hs' H σ ρ τ ∧ Ex Hs Hs' ∧ Rp K ca Hs' (.ref p.1) p.2.d := by
  obtain ⟨a, o⟩ := p
  obtain ⟨h1, h2, h3⟩ := S.tm _ List.mem_cons_self
  · obtain ⟨vs, h4, h5⟩ := h3
    have e : Ex Hs (upd Hs a vs) := Ex.new h1
    refine ⟨upd Hs a vs, ?_, e, h5.rp e upd_same⟩
    have nd := List.nodup_cons.mp S.tj
    refine ⟨ex_share h1 h4 S.ex, S.e0.trans e, S.fr, S.th, fun b q1 q2 => ?_, fun i x q => ?_, S.dj, fun p hp => ?_, nd.2, fun q hq => S.ts q (List.mem_cons_of_mem _ hq), S.ln, S.nt.upd h5.nt, S.tb, Nm.pm e S.pp⟩
    · rw [upd_ne (fun z => q2 (by rw [z]; exact h2))]
      exact S.nw b q1 q2
    · obtain ⟨v, r1, r2⟩ := S.sl i x q
      refine ⟨v, r1, ?_⟩
      cases x with
      | sh d => exact Rp.mono e r2
      | own b o =>
        obtain ⟨c, rfl, r3, r4, r5⟩ := r2
        refine ⟨c, rfl, ?_, r4, r5.mono e rfl⟩
        rw [upd_ne (fun z => S.ts _ List.mem_cons_self i b o q (by rw [r1, z]))]
        exact r3
    · obtain ⟨r1, r2, r3⟩ := S.tm p (List.mem_cons_of_mem _ hp)
      refine ⟨?_, r2, r3.mono e rfl⟩
      rw [upd_ne (fun z => nd.1 (List.mem_map.mpr ⟨p, hp, z⟩))]
      exact r1
theorem SR.freezeS {i : Nat} (S : SR K ca F Hs H σ ρ τ) (h : ρ[i]? = some (some (.own false o))) : ∃ Hs' a, SR K ca F Hs' H σ (ρ.set i (some (.sh o.d))) τ ∧ Ex Hs Hs' ∧ σ[i]? = some (some (.ref a)) ∧ Rp K ca Hs' (.ref a) o.d := by
  obtain ⟨a, g1, g2, g3, g4⟩ := S.ownAt h
  have g3' : F.H a = none := g3
  · obtain ⟨vs, h4, h5⟩ := g4
    have e : Ex Hs (upd Hs a vs) := Ex.new g2
    have rp : Rp K ca (upd Hs a vs) (.ref a) o.d := h5.rp e upd_same
    refine ⟨upd Hs a vs, a, ?_, e, g1, rp⟩
    have hi : i < ρ.length := (List.getElem?_eq_some_iff.mp h).1
    have oth : ∀ (j : Nat) (b : Bool) (u : Ob), (ρ.set i (some (.sh o.d)))[j]? = some (some (.own b u)) → j ≠ i ∧ ρ[j]? = some (some (.own b u)) := fun j b u q => by
      by_cases z : i = j
      · subst z
        rw [List.getElem?_set_self hi] at q
        cases q
      · rw [List.getElem?_set_ne z] at q
        exact ⟨Ne.symm z, q⟩
    refine ⟨ex_share g2 h4 S.ex, S.e0.trans e, S.fr, S.th, fun b q1 q2 => ?_, fun j x q => ?_, fun j k b c u w v q1 q2 r1 r2 => S.dj j k b c u w v (oth j b u q1).2 (oth k c w q2).2 r1 r2, fun p hp => ?_, S.tj, fun p hp j b u q => S.ts p hp j b u (oth j b u q).2, by rw [List.length_set]; exact S.ln, S.nt.upd h5.nt, S.tb, Nm.pm e S.pp⟩
    · rw [upd_ne (fun z => q2 (by rw [z]; exact g3'))]
      exact S.nw b q1 q2
    · by_cases z : i = j
      · subst z
        rw [List.getElem?_set_self hi] at q
        cases q
        exact ⟨_, g1, rp⟩
      · rw [List.getElem?_set_ne z] at q
        obtain ⟨v, r1, r2⟩ := S.sl j x q
        refine ⟨v, r1, ?_⟩
        cases x with
        | sh d => exact Rp.mono e r2
        | own b u =>
          obtain ⟨c, rfl, r3, r4, r5⟩ := r2
          refine ⟨c, rfl, ?_, r4, r5.mono e rfl⟩
          rw [upd_ne (fun y => z (S.dj i j false b _ u _ h q g1 (by rw [r1, y])))]
          exact r3
    · obtain ⟨r1, r2, r3⟩ := S.tm p hp
      refine ⟨?_, r2, r3.mono e rfl⟩
      rw [upd_ne (fun z => S.ts p hp i false _ h (by rw [g1, z]))]
      exact r1
/-- a slot filled with a shared thing -/
theorem SR.setS {i : Nat} {v : V} {d : D} (S : SR K ca F Hs H σ ρ τ) (hi : i < σ.length) (r : Rp K ca Hs v d) : SR K ca F Hs H (σ.set i (some v)) (ρ.set i (some (.sh d))) τ := by
  have oth : ∀ (j : Nat) (b : Bool) (u : Ob), (ρ.set i (some (.sh d)))[j]? = some (some (.own b u)) → j ≠ i ∧ ρ[j]? = some (some (.own b u)) := fun j b u q => by
    by_cases z : i = j
    · subst z
      by_cases hr : i < ρ.length
      · rw [List.getElem?_set_self hr] at q
        cases q
      · rw [List.getElem?_eq_none (by rw [List.length_set]; omega)] at q
        cases q
    · rw [List.getElem?_set_ne z] at q
      exact ⟨Ne.symm z, q⟩
  refine { S with sl := fun j x q => ?_, dj := fun j k b c u w x q1 q2 r1 r2 => ?_, ts := fun p hp j b u q => ?_, ln := by rw [List.length_set, List.length_set]; exact S.ln }
  · by_cases z : i = j
    · subst z
      by_cases hr : i < ρ.length
      · rw [List.getElem?_set_self hr] at q
        cases q
        exact ⟨v, List.getElem?_set_self hi, r⟩
      · rw [List.getElem?_eq_none (by rw [List.length_set]; omega)] at q
        cases q
    · rw [List.getElem?_set_ne z] at q ⊢
      exact S.sl j x q
  · obtain ⟨z1, q1⟩ := oth j b u q1
    obtain ⟨z2, q2⟩ := oth k c w q2
    rw [List.getElem?_set_ne (Ne.symm z1)] at r1
    rw [List.getElem?_set_ne (Ne.symm z2)] at r2
    exact S.dj j k b c u w x q1 q2 r1 r2
  · obtain ⟨z1, q⟩ := oth j b u q
    rw [List.getElem?_set_ne (Ne.symm z1)]
    exact S.ts p hp j b u q
/-- a slot filled with a new owned thing -/
theorem SR.setT {i : Nat} {p : Addr × Ob} (S : SR K ca F Hs H σ ρ (p :: τ)) (hi : i < σ.length) : SR K ca F Hs H (σ.set i (some (.ref p.1))) (ρ.set i (some (.own false p.2))) τ := by
  obtain ⟨h1, h2, h3⟩ := S.tm _ List.mem_cons_self
  have nd := List.nodup_cons.mp S.tj
  have oth : ∀ (j : Nat) (x : DV), j ≠ i → (ρ.set i (some (.own false p.2)))[j]? = some (some x) → ρ[j]? = some (some x) := fun j x z q => by
    rw [List.getElem?_set_ne (Ne.symm z)] at q
    exact q
  refine { S.drop with sl := fun j x q => ?_, dj := fun j k b c u w x q1 q2 r1 r2 => ?_, ts := fun t ht j b u q z => ?_, ln := by rw [List.length_set, List.length_set]; exact S.ln }
  · by_cases z : j = i
    · subst z
      by_cases hr : j < ρ.length
      · rw [List.getElem?_set_self hr] at q
        cases q
        exact ⟨_, List.getElem?_set_self hi, p.1, rfl, h1, h2, h3⟩
      · rw [List.getElem?_eq_none (by rw [List.length_set]; omega)] at q
        cases q
    · obtain ⟨v, q1, q2⟩ := S.sl j x (oth j x z q)
      exact ⟨v, by rw [List.getElem?_set_ne (Ne.symm z)]; exact q1, q2⟩
  · have key : ∀ (j : Nat) (b : Bool) (u : Ob), j ≠ i → (ρ.set i (some (.own false p.2)))[j]? = some (some (.own b u)) → (σ.set i (some (.ref p.1)))[j]? ≠ (σ.set i (some (.ref p.1)))[i]? := fun j b u z q y => by
      rw [List.getElem?_set_ne (Ne.symm z), List.getElem?_set_self hi] at y
      exact S.ts p List.mem_cons_self j b u (oth j _ z q) y
    by_cases zj : j = i
    · by_cases zk : k = i
      · rw [zj, zk]
      · subst zj
        exact absurd (r2.trans r1.symm) (key k c w zk q2)
    · by_cases zk : k = i
      · subst zk
        exact absurd (r1.trans r2.symm) (key j b u zj q1)
      · rw [List.getElem?_set_ne (Ne.symm zj)] at r1
        rw [List.getElem?_set_ne (Ne.symm zk)] at r2
        exact S.dj j k b c u w x (oth j _ zj q1) (oth k _ zk q2) r1 r2
  · by_cases zj : j = i
    · subst zj
      rw [List.getElem?_set_self hi] at z
      have z' : p.1 = t.1 := by simpa using z
      exact nd.1 (List.mem_map.mpr ⟨t, ht, z'.symm⟩)
    · rw [List.getElem?_set_ne (Ne.symm zj)] at z
      exact S.ts t (List.mem_cons_of_mem _ ht) j b u (oth j _ zj q) z
/-- an owned slot's content changes; all that was shared stays, more may be -/
theorem SR.write {i : Nat} {b : Bool} {o' : Ob} (S : SR K ca F Hs H σ ρ τ) (h : ρ[i]? = some (some (.own b o))) (g1 : σ[i]? = some (some (.ref a)))
    (e : Ex Hs Hs') (ex : Ex Hs' H') (k : ∀ c u, c ≠ a → H c = some u → NT u → H' c = some u) (th : ∀ b, H b ≠ none → H' b ≠ none) (n : ∀ b, Hs b = none → H b ≠ none → Hs' b = none) (nt : NTs Hs') (tb : Tb H') (r : ObR K ca Hs' H' a o') : SR K ca F Hs' H' σ (ρ.set i (some (.own b o'))) τ := by
  obtain ⟨a', g1', g2, g3, g4⟩ := S.ownAt h
  rw [g1] at g1'
  cases g1'
  obtain ⟨ua, hua, nua⟩ := g4.there
  have hna : Hs' a = none := n a g2 (by rw [hua]; exact Option.some_ne_none _)
  have hi : i < ρ.length := (List.getElem?_eq_some_iff.mp h).1
  have oth : ∀ (j : Nat) (x : DV), j ≠ i → (ρ.set i (some (.own b o')))[j]? = some (some x) → ρ[j]? = some (some x) := fun j x z q => by
    rw [List.getElem?_set_ne (Ne.symm z)] at q
    exact q
  have any : ∀ (j : Nat) (c : Bool) (u : Ob), (ρ.set i (some (.own b o')))[j]? = some (some (.own c u)) → ∃ c' u', ρ[j]? = some (some (.own c' u')) := fun j c u q => by
    by_cases z : j = i
    · subst z; exact ⟨_, _, h⟩
    · exact ⟨_, _, oth j _ z q⟩
  refine ⟨ex, S.e0.trans e, fun c u q1 q2 q3 => k c u (fun z => ?_) (S.fr c u q1 q2 q3) q3, fun c q => th c (S.th c q), fun c q1 q2 => n c (S.nw c q1 q2) (S.th c q2), fun j x q => ?_, fun j l c d u w v q1 q2 r1 r2 => ?_, fun p hp => ?_, S.tj, fun p hp j c u q => ?_, by rw [List.length_set]; exact S.ln, nt, tb, Nm.pm e S.pp⟩
  · subst z
    cases b with
    | true => exact q2 g3
    | false =>
      have g3' : F.H c = none := g3
      rw [g3'] at q1; cases q1
  · by_cases z : j = i
    · subst z
      rw [List.getElem?_set_self hi] at q
      cases q
      exact ⟨_, g1, a, rfl, hna, g3, r⟩
    · have q' := oth j x z q
      obtain ⟨v, r1, r2⟩ := S.sl j x q'
      refine ⟨v, r1, ?_⟩
      cases x with
      | sh d => exact Rp.mono e r2
      | own c u =>
        obtain ⟨d, rfl, r3, r4, r5⟩ := r2
        obtain ⟨w, hw, nw⟩ := r5.there
        have hd : d ≠ a := fun y => z (S.dj j i c b u o _ q' h r1 (by rw [g1, y]))
        exact ⟨d, rfl, n d r3 (by rw [hw]; exact Option.some_ne_none _), r4, r5.mono e (by rw [k d w hd hw nw, hw])⟩
  · obtain ⟨c', u', q1'⟩ := any j c u q1
    obtain ⟨d', w', q2'⟩ := any l d w q2
    exact S.dj j l c' d' u' w' v q1' q2' r1 r2
  · obtain ⟨r1, r2, r3⟩ := S.tm p hp
    obtain ⟨w, hw, nw⟩ := r3.there
    have hd : p.1 ≠ a := fun y => S.ts p hp i b o h (by rw [g1, y])
    exact ⟨n p.1 r1 (by rw [hw]; exact Option.some_ne_none _), r2, r3.mono e (by rw [k p.1 w hd hw nw, hw])⟩
  · obtain ⟨c', u', q'⟩ := any j c u q
    exact S.ts p hp j c' u' q'
/-- slots forgotten -/
theorem SR.weak {ρ' : En} {σ' : L2.St} (S : SR K ca F Hs H σ ρ τ) (hl : ρ'.length = σ'.length) (w : ∀ (i : Nat) (x : DV), ρ'[i]? = some (some x) → ρ[i]? = some (some x) ∧ σ'[i]? = σ[i]?) : SR K ca F Hs H σ' ρ' τ :=
  { S with
    sl := fun i x q => by
      obtain ⟨v, r⟩ := S.sl i x (w i x q).1
      exact ⟨v, by rw [(w i x q).2]; exact r.1, r.2⟩
    dj := fun i j b c o u v q1 q2 r1 r2 => S.dj i j b c o u v (w i _ q1).1 (w j _ q2).1 (by rw [← (w i _ q1).2]; exact r1) (by rw [← (w j _ q2).2]; exact r2)
    ts := fun p hp i b o q => by rw [(w i _ q).2]; exact S.ts p hp i b o (w i _ q).1
    ln := hl }
end
end Dv

/-! Dw -/
/-! Dw: pure expressions over deep values. -/
namespace Dv
open PySem PySem.Spec PyProof.Rows L2 Evl LamX
variable [Nm]

/-- a value that may be read now: a shared one, or an owned list of shared things -/
def WR (K : PySem.W.Frag) (ca : CA) (Hs H : Hp) (v : V) (d : D) : Prop :=
  Rp K ca Hs v d ∨ ∃ a u o, v = .ref a ∧ d = o.d ∧ H a = some u ∧ OC K ca Hs u o
section
variable {K : PySem.W.Frag} {ca : CA} {F : Fx} {Hs Hs' H H' : Hp} {σ : L2.St} {ρ : En} {τ : List (Addr × Ob)} {v : V} {d : D}
theorem WR.mono (e : Ex Hs Hs') (k : ExtN H H') (h : WR K ca Hs H v d) : WR K ca Hs' H' v d := by
  rcases h with h | ⟨a, u, o, h1, h2, h3, h4⟩
  · exact .inl (h.mono e)
  · exact .inr ⟨a, u, o, h1, h2, k _ _ h3 h4.nt, h4.mono e⟩
theorem WR.rp (e : Ex Hs H) (h : WR K ca Hs H v d) : Rp K ca H v d := by
  rcases h with h | ⟨a, u, o, rfl, rfl, h3, h4⟩
  · exact h.mono e
  · exact h4.rp e h3
theorem WR.lst {ds : List D} (e : Ex Hs H) (h : WR K ca Hs H v (.lst ds)) : ∃ a xs, v = .ref a ∧ H a = some (.lst xs) ∧ RpAll K ca Hs xs ds := by
  rcases h with h | ⟨a, u, o, h1, h2, h3, h4⟩
  · cases h with
    | lst h1 h2 => exact ⟨_, _, rfl, e _ _ h1, h2⟩
  · cases h4 <;> cases h2
    exact ⟨a, _, h1, h3, by assumption⟩
theorem WR.ins {c : Str} {fs : List (Str × D)} (e : Ex Hs H) (h : WR K ca Hs H v (.ins c fs)) : ∃ a dx vs, v = .ref a ∧ H a = some (.ins (ca c) dx vs) ∧ RpFs K ca Hs vs fs := by
  rcases h with h | ⟨a, u, o, h1, h2, h3, h4⟩
  · cases h with
    | ins h1 h2 => exact ⟨_, _, _, rfl, e _ _ h1, h2⟩
  · cases h4 <;> cases h2
    exact ⟨a, _, _, h1, h3, by assumption⟩
theorem WR.dic {fs : List (Key × D)} (e : Ex Hs H) (h : WR K ca Hs H v (.dic fs)) : ∃ a vs, v = .ref a ∧ H a = some (.dK vs) ∧ RpKs K ca Hs vs fs := by
  rcases h with h | ⟨a, u, o, h1, h2, h3, h4⟩
  · cases h with
    | dic h1 h2 => exact ⟨_, _, rfl, e _ _ h1, h2⟩
  · cases h4 <;> cases h2
    exact ⟨a, _, h1, h3, by assumption⟩
theorem WR.dit {fs : List (List Key × D)} (e : Ex Hs H) (h : WR K ca Hs H v (.dit fs)) : ∃ a vs, v = .ref a ∧ H a = some (.dT vs) ∧ RpKs K ca Hs vs fs := by
  rcases h with h | ⟨a, u, o, h1, h2, h3, h4⟩
  · cases h with
    | dit h1 h2 => exact ⟨_, _, rfl, e _ _ h1, h2⟩
  · cases h4 <;> cases h2
    exact ⟨a, _, h1, h3, by assumption⟩
theorem WR.flat (h : WR K ca Hs H v d) (n : ∀ o : Ob, d ≠ o.d) : Rp K ca Hs v d := by
  rcases h with h | ⟨a, u, o, h1, h2, h3, h4⟩
  · exact h
  · exact absurd h2 (n o)
theorem WR.tup {ds : List D} (e : Ex Hs H) (h : WR K ca Hs H v (.tup ds)) : ∃ a xs, v = .ref a ∧ SqT K H a xs ∧ RpAll K ca Hs xs ds := by
  cases h.flat fun o z => by cases o <;> cases z
  rename_i h1 h2
  exact ⟨_, _, rfl, st_of (e _ _ h1), h2⟩
theorem WR.int {i : Int} (h : WR K ca Hs H v (.int i)) : v = .int i := by
  cases h.flat fun o z => by cases o <;> cases z
  rfl
theorem WR.str {i : Str} (h : WR K ca Hs H v (.str i)) : v = .str i := by
  cases h.flat fun o z => by cases o <;> cases z
  rfl
theorem WR.bl {i : Bool} (h : WR K ca Hs H v (.bl i)) : v = .bl i := by
  cases h.flat fun o z => by cases o <;> cases z
  rfl
theorem WR.non (h : WR K ca Hs H v .non) : v = .non := by
  cases h.flat fun o z => by cases o <;> cases z
  rfl
end

/-- a scalar -/
def imm : D → Option V
  | .non => some .non
  | .bl b => some (.bl b)
  | .int i => some (.int i)
  | .str x => some (.str x)
  | _ => none
theorem imm_rp {K : PySem.W.Frag} {ca : CA} {H : Hp} {d : D} {v : V} (h : imm d = some v) : Rp K ca H v d := by
  cases d <;> simp [imm] at h <;> subst h <;> constructor

abbrev PF := En → Option D
/-- a step that only adds -/
structure Go (Hs H Hs' H' : Hp) : Prop where
  e : Ex Hs Hs'
  k : ExtN H H'
  x : Ex Hs' H'
  n : ∀ b, Hs b = none → H b ≠ none → Hs' b = none
  th : ∀ b, H b ≠ none → H' b ≠ none
  nt : NTs Hs → NTs Hs'
  tb : Tb H → Tb H'
theorem Go.refl {Hs H : Hp} (x : Ex Hs H) : Go Hs H Hs H := ⟨Ex.refl _, ExtN.refl _, x, fun _ h _ => h, fun _ h => h, id, id⟩
theorem Go.trans {Hs H Hs1 H1 Hs2 H2 : Hp} (a : Go Hs H Hs1 H1) (b : Go Hs1 H1 Hs2 H2) : Go Hs H Hs2 H2 :=
  ⟨a.e.trans b.e, a.k.trans b.k, b.x, fun c h1 h2 => b.n c (a.n c h1 h2) (a.th c h2), fun c h => b.th c (a.th c h), fun h => b.nt (a.nt h), fun h => b.tb (a.tb h)⟩
theorem SR.go {K : PySem.W.Frag} {ca : CA} {F : Fx} {Hs Hs' H H' : Hp} {σ : L2.St} {ρ : En} {τ : List (Addr × Ob)} (S : SR K ca F Hs H σ ρ τ) (t : Go Hs H Hs' H') : SR K ca F Hs' H' σ ρ τ := S.step0 t.e t.x t.k t.th t.n (t.nt S.nt) (t.tb S.tb)
theorem Go.alloc {Hs H : Hp} {p : Addr} {u : HO} (x : Ex Hs H) (nu : NT u) (h : H p = none) : Go Hs H (upd Hs p u) (upd H p u) where
  e := Ex.new (fresh_back x h)
  k := ExtN.of (Ex.new h)
  x := fun b w q => by
    by_cases e : b = p
    · subst e; rw [upd_same] at q ⊢; exact q
    · rw [upd_ne e] at q ⊢; exact x b w q
  n := fun b h1 h2 => by
    rw [upd_ne (fun e => h2 (by rw [e]; exact h))]
    exact h1
  th := th_new
  nt := fun q => q.upd nu
  tb := fun q => tb_new q h
theorem nt_lst {xs : List V} : NT (.lst xs) := fun _ z => nomatch z
theorem nt_tup {xs : List V} : NT (.tup xs) := fun _ z => nomatch z
/-- what follows a pure expression -/
def Nx (K : PySem.W.Frag) (ca : CA) (Hs H : Hp) (d : D) (Q : VK) : Prop := ∀ v Hs' H', Go Hs H Hs' H' → Rp K ca Hs' v d → Q v H'
def NxW (K : PySem.W.Frag) (ca : CA) (Hs H : Hp) (d : D) (Q : VK) : Prop := ∀ v Hs' H', Go Hs H Hs' H' → WR K ca Hs' H' v d → Q v H'
def RdP (K : PySem.W.Frag) (ca : CA) (f : PF) : TE := fun σ H Q => ∃ F Hs ρ τ d, SR K ca F Hs H σ ρ τ ∧ f ρ = some d ∧ Nx K ca Hs H d Q
def RdW (K : PySem.W.Frag) (ca : CA) (f : PF) : TE := fun σ H Q => ∃ F Hs ρ τ d, SR K ca F Hs H σ ρ τ ∧ f ρ = some d ∧ NxW K ca Hs H d Q
theorem PEimp {X : Cx} {e : Expr} {t t' : TE} (h : PE X e t) (i : ∀ σ H Q, t' σ H Q → t σ H Q) : PE X e t' := ⟨fun pins s σ H Q I q => h.run pins s σ H Q I (i σ H Q q)⟩
theorem PTimp {X : Cx} {e : Expr} {t t' : TT} (h : PT X e t) (i : ∀ σ H Q, t' σ H Q → t σ H Q) : PT X e t' := ⟨fun pins s σ H Q I q => h.run pins s σ H Q I (i σ H Q q)⟩
section
variable {K : PySem.W.Frag} {ca : CA} {F : Fx} {Hs Hs' H H' : Hp} {σ : L2.St} {ρ : En} {τ : List (Addr × Ob)} {v : V} {d : D}
/-- the answer is here -/
theorem Nx.here {Q : VK} (n : Nx K ca Hs H d Q) (x : Ex Hs H) (r : Rp K ca Hs v d) : Q v H := n v Hs H (Go.refl x) r
theorem NxW.here {Q : VK} (n : NxW K ca Hs H d Q) (x : Ex Hs H) (r : WR K ca Hs H v d) : Q v H := n v Hs H (Go.refl x) r
theorem Nx.to {Q : VK} (n : Nx K ca Hs H d Q) (t : Go Hs H Hs' H') : Nx K ca Hs' H' d Q := fun v Hs2 H2 t2 r => n v Hs2 H2 (t.trans t2) r
/-- a new shared list -/
theorem Nx.newL {Q : VK} {ds : List D} {xs : List V} (n : Nx K ca Hs H (.lst ds) Q) (x : Ex Hs H) (r : RpAll K ca Hs xs ds) : ∀ p, H p = none → Q (.ref p) (upd H p (.lst xs)) := fun p hp =>
  have t : Go Hs H (upd Hs p (.lst xs)) (upd H p (.lst xs)) := Go.alloc x nt_lst hp
  n _ _ _ t (.lst upd_same (r.mono t.e))
theorem Nx.newT {Q : VK} {ds : List D} {xs : List V} (n : Nx K ca Hs H (.tup ds) Q) (x : Ex Hs H) (r : RpAll K ca Hs xs ds) : ∀ p, H p = none → Q (.ref p) (upd H p (.tup xs)) := fun p hp =>
  have t : Go Hs H (upd Hs p (.tup xs)) (upd H p (.tup xs)) := Go.alloc x nt_tup hp
  n _ _ _ t (.tup upd_same (r.mono t.e))
/-- the step into a part -/
theorem RdP.intro {f : PF} {Q : VK} (S : SR K ca F Hs H σ ρ τ) (h : f ρ = some d) (n : Nx K ca Hs H d Q) : RdP K ca f σ H Q := ⟨F, Hs, ρ, τ, d, S, h, n⟩
theorem RdW.intro {f : PF} {Q : VK} (S : SR K ca F Hs H σ ρ τ) (h : f ρ = some d) (n : NxW K ca Hs H d Q) : RdW K ca f σ H Q := ⟨F, Hs, ρ, τ, d, S, h, n⟩
theorem RdW.toP {f : PF} {Q : VK} (h : RdW K ca f σ H Q) : RdP K ca f σ H Q :=
  let ⟨F, Hs, ρ, τ, d, S, e, n⟩ := h
  ⟨F, Hs, ρ, τ, d, S, e, fun v Hs' H' t r => n v Hs' H' t (.inl r)⟩
end
/-- a shared reading serves as one -/
theorem d_w {X : Cx} {ca : CA} {e : Expr} {f : PF} (h : PE X e (RdP X.K ca f)) : PE X e (RdW X.K ca f) := PEimp h fun _ _ _ q => q.toP

/-! ### names, constants -/
def fVar (i : Nat) : PF := fun ρ => match ρ[i]? with
  | some (some (.sh d)) => some d
  | some (some (.own _ o)) => some o.d
  | _ => none
def fShr (i : Nat) : PF := fun ρ => match ρ[i]? with
  | some (some (.sh d)) => some d
  | _ => none
def fC (d : D) : PF := fun _ => some d
section
variable {X : Cx} {ca : CA}
theorem d_var {i : Nat} {e : Expr} (h : PE X e (tVar i)) : PE X e (RdW X.K ca (fVar i)) := PEimp h fun σ H Q q => by
  obtain ⟨F, Hs, ρ, τ, d, S, e, n⟩ := q
  unfold fVar at e
  cases h1 : ρ[i]? with
  | none => rw [h1] at e; cases e
  | some x =>
    rw [h1] at e
    cases x with
    | none => cases e
    | some x =>
      obtain ⟨v, hv, r⟩ := S.sl i x h1
      refine ⟨v, hv, n.here S.ex ?_⟩
      cases x with
      | sh d' => cases e; exact .inl r
      | own b o =>
        cases e
        obtain ⟨a, rfl, _, _, u, h5, h6⟩ := r
        exact .inr ⟨a, u, o, rfl, rfl, h5, h6⟩
theorem d_shr {i : Nat} {e : Expr} (h : PE X e (tVar i)) : PE X e (RdP X.K ca (fShr i)) := PEimp h fun σ H Q q => by
  obtain ⟨F, Hs, ρ, τ, d, S, e, n⟩ := q
  unfold fShr at e
  cases h1 : ρ[i]? with
  | none => rw [h1] at e; cases e
  | some x =>
    rw [h1] at e
    cases x with
    | none => cases e
    | some x =>
      obtain ⟨v, hv, r⟩ := S.sl i x h1
      cases x with
      | sh d' => cases e; exact ⟨v, hv, n.here S.ex r⟩
      | own b o => cases e
theorem d_c {e : Expr} {v : V} {d : D} (h : PE X e (tC v)) (i : imm d = some v) : PE X e (RdP X.K ca (fC d)) := PEimp h fun σ H Q q => by
  obtain ⟨F, Hs, ρ, τ, d', S, e, n⟩ := q
  cases e
  exact n.here S.ex (imm_rp i)
end

/-! ### operators of two -/
abbrev G2 := D → D → Option D
def fOp (g : G2) (fa fb : PF) : PF := fun ρ => match fa ρ with
  | some a => (match fb ρ with
    | some b => g a b
    | none => none)
  | none => none
/-- the operator on values does what g says -/
def OkG (K : PySem.W.Frag) (ca : CA) (r : R2) (g : G2) : Prop := ∀ (F : Fx) (Hs H : Hp) (σ : L2.St) (ρ : En) (τ : List (Addr × Ob)) (x y : V) (dx dy d : D) (Q : VK),
  SR K ca F Hs H σ ρ τ → WR K ca Hs H x dx → WR K ca Hs H y dy → g dx dy = some d → Nx K ca Hs H d Q → r x y H Q
theorem rd_op {K : PySem.W.Frag} {ca : CA} {r : R2} {g : G2} (ok : OkG K ca r g) {fa fb : PF} {σ : L2.St} {H : Hp} {Q : VK} (q : RdP K ca (fOp g fa fb) σ H Q) : tOp r (RdW K ca fa) (RdW K ca fb) σ H Q := by
  obtain ⟨F, Hs, ρ, τ, d, S, e, n⟩ := q
  unfold fOp at e
  cases ha : fa ρ with
  | none => rw [ha] at e; cases e
  | some a =>
    rw [ha] at e
    cases hb : fb ρ with
    | none => simp only [hb] at e; cases e
    | some b =>
      simp only [hb] at e
      refine RdW.intro S ha fun x Hs1 H1 t1 w1 => ?_
      refine RdW.intro (S.go t1) hb fun y Hs2 H2 t2 w2 => ?_
      exact ok F Hs2 H2 σ ρ τ x y a b d Q ((S.go t1).go t2) (w1.mono t2.e t2.k) w2 e (n.to (t1.trans t2))
theorem OkG.or {K : PySem.W.Frag} {ca : CA} {r r' : R2} {g g' : G2} (h : OkG K ca r g) (h' : OkG K ca r' g') : OkG K ca (fun x y H Q => r x y H Q ∨ r' x y H Q) (fun a b => match g a b with | some d => some d | none => g' a b) :=
  fun F Hs H σ ρ τ x y dx dy d Q S wx wy e n => by
    cases q : g dx dy with
    | some d' =>
      simp only [q] at e
      exact .inl (h F Hs H σ ρ τ x y dx dy d Q S wx wy (q.trans e) n)
    | none =>
      simp only [q] at e
      exact .inr (h' F Hs H σ ρ τ x y dx dy d Q S wx wy e n)
def gII (C : Int → Int → Bool) (k : Int → Int → D) : G2
  | .int i, .int j => if C i j = true then some (k i j) else none
  | _, _ => none
theorem okII {K : PySem.W.Frag} {ca : CA} {C : Int → Int → Bool} {C' : Int → Int → Prop} {k : Int → Int → D} {kv : Int → Int → V} (hi : ∀ i j, imm (k i j) = some (kv i j)) (hc : ∀ i j, C i j = true → C' i j) : OkG K ca (rI C' kv) (gII C k) :=
  fun F Hs H σ ρ τ x y dx dy d Q S wx wy e n => by
    unfold gII at e
    split at e
    · rename_i i j
      split at e
      · rename_i c
        cases e
        obtain rfl := wx.int
        obtain rfl := wy.int
        exact ⟨i, j, rfl, rfl, hc i j c, n.here S.ex (imm_rp (hi i j))⟩
      · cases e
    · cases e
def gI0 (k : Int → Int → D) : G2
  | .int i, .int j => some (k i j)
  | _, _ => none
theorem okI0 {K : PySem.W.Frag} {ca : CA} {k : Int → Int → D} {kv : Int → Int → V} (hi : ∀ i j, imm (k i j) = some (kv i j)) : OkG K ca (rI0 kv) (gI0 k) :=
  fun F Hs H σ ρ τ x y dx dy d Q S wx wy e n => by
    unfold gI0 at e
    split at e
    · rename_i i j
      cases e
      obtain rfl := wx.int
      obtain rfl := wy.int
      exact ⟨i, j, rfl, rfl, n.here S.ex (imm_rp (hi i j))⟩
    · cases e
def b64 (i : Int) : Bool := decide (-(2 ^ 64) < i) && decide (i < 2 ^ 64)
theorem b64_ok {i : Int} (h : b64 i = true) : -(2 ^ 64) < i ∧ i < 2 ^ 64 := by
  unfold b64 at h
  rw [Bool.and_eq_true] at h
  exact ⟨of_decide_eq_true h.1, of_decide_eq_true h.2⟩
/-- the length of a text, of a list that may come -/
def szOk (n : Nat) : Bool := decide (n ≤ 100000)
theorem szOk_le {n : Nat} (h : szOk n = true) : n ≤ sizeLine := sz_of (of_decide_eq_true h)
def gAddS : G2
  | .str x, .str y => if szOk (x.length + y.length) = true then some (.str (x ++ y)) else none
  | _, _ => none
def gAddL : G2
  | .lst x, .lst y => if szOk (x.length + y.length) = true then some (.lst (x ++ y)) else none
  | _, _ => none
def gAdd : G2 := fun a b => match gI0 (fun i j => .int (i + j)) a b with
  | some d => some d
  | none => (match gAddS a b with
    | some d => some d
    | none => gAddL a b)
def gMul : G2 := gII (fun i j => b64 i || b64 j) fun i j => .int (i * j)
def gSub : G2 := gI0 fun i j => .int (i - j)
def gMod : G2 := gII (fun _ j => decide (0 < j)) fun i j => .int (i % j)
def gDiv : G2 := gII (fun _ j => decide (0 < j) && decide (j < 1073741824)) fun i j => .int (i / j)
def gPow : G2 := gII (fun i j => decide (0 ≤ j) && decide (j ≤ 1000) && b64 i && b64 (-i)) fun i j => .int (i ^ j.toNat)
def gLt : G2 := gI0 fun i j => .bl (decide (i < j))
def gLe : G2 := gI0 fun i j => .bl (decide (i ≤ j))
def gGt : G2 := gI0 fun i j => .bl (decide (j < i))
def gGe : G2 := gI0 fun i j => .bl (decide (j ≤ i))
section
variable {X : Cx} {ca : CA} {a b : Expr} {fa fb : PF} {pos : Pos}
theorem okAddS {K : PySem.W.Frag} : OkG K ca (fun x y H Q => ∃ i j, x = .str i ∧ y = .str j ∧ i.length + j.length ≤ sizeLine ∧ Q (.str (i ++ j)) H) gAddS :=
  fun F Hs H σ ρ τ x y dx dy d Q S wx wy e n => by
    unfold gAddS at e
    split at e
    · rename_i i j
      split at e
      · rename_i c
        cases e
        obtain rfl := wx.str
        obtain rfl := wy.str
        exact ⟨i, j, rfl, rfl, szOk_le c, n.here S.ex (.str _)⟩
      · cases e
    · cases e
theorem okAddL {K : PySem.W.Frag} : OkG K ca rCat gAddL :=
  fun F Hs H σ ρ τ x y dx dy d Q S wx wy e n => by
    unfold gAddL at e
    split at e
    · rename_i i j
      split at e
      · rename_i c
        cases e
        obtain ⟨p, xs, rfl, h1, r1⟩ := wx.lst S.ex
        obtain ⟨q, ys, rfl, h2, r2⟩ := wy.lst S.ex
        refine ⟨p, q, xs, ys, rfl, rfl, h1, h2, ?_, n.newL S.ex (r1.app r2)⟩
        rw [r1.len, r2.len]
        exact szOk_le c
      · cases e
    · cases e
theorem d_op {op : Operator} {r : R2} {g : G2} (ho : OpR X (binaryOp op) r) (ok : OkG X.K ca r g) (ha : PE X a (RdW X.K ca fa)) (hb : PE X b (RdW X.K ca fb)) : PE X (.BinOp a op b pos) (RdP X.K ca (fOp g fa fb)) := PEimp (pe_op ho ha hb) fun _ _ _ q => rd_op ok q
theorem d_add (ha : PE X a (RdW X.K ca fa)) (hb : PE X b (RdW X.K ca fb)) : PE X (.BinOp a .Add b pos) (RdP X.K ca (fOp gAdd fa fb)) :=
  d_op (op_add.or (op_add_str.or op_cat)) ((okI0 fun _ _ => rfl).or (okAddS.or okAddL)) ha hb
theorem d_sub (ha : PE X a (RdW X.K ca fa)) (hb : PE X b (RdW X.K ca fb)) : PE X (.BinOp a .Sub b pos) (RdP X.K ca (fOp gSub fa fb)) := d_op op_sub (okI0 fun _ _ => rfl) ha hb
theorem d_mul (ha : PE X a (RdW X.K ca fa)) (hb : PE X b (RdW X.K ca fb)) : PE X (.BinOp a .Mult b pos) (RdP X.K ca (fOp gMul fa fb)) := d_op op_mul (okII (fun _ _ => rfl) fun i j h => by
  rcases (Bool.or_eq_true _ _).mp h with h | h
  · exact .inl (b64_ok h)
  · exact .inr (b64_ok h)) ha hb
theorem d_mod (ha : PE X a (RdW X.K ca fa)) (hb : PE X b (RdW X.K ca fb)) : PE X (.BinOp a .Mod b pos) (RdP X.K ca (fOp gMod fa fb)) := d_op op_mod (okII (fun _ _ => rfl) fun i j h => of_decide_eq_true h) ha hb
theorem d_div (ha : PE X a (RdW X.K ca fa)) (hb : PE X b (RdW X.K ca fb)) : PE X (.BinOp a .FloorDiv b pos) (RdP X.K ca (fOp gDiv fa fb)) := d_op op_fdiv (okII (fun _ _ => rfl) fun i j h => by
  rw [Bool.and_eq_true] at h
  exact ⟨of_decide_eq_true h.1, of_decide_eq_true h.2⟩) ha hb
theorem d_pow (ha : PE X a (RdW X.K ca fa)) (hb : PE X b (RdW X.K ca fb)) : PE X (.BinOp a .Pow b pos) (RdP X.K ca (fOp gPow fa fb)) := d_op op_pow (okII (fun _ _ => rfl) fun i j h => by
  simp only [Bool.and_eq_true, decide_eq_true_eq] at h
  obtain ⟨⟨⟨h1, h2⟩, h3⟩, h4⟩ := h
  have := b64_ok h3
  have := b64_ok h4
  refine ⟨h1, by omega, by omega⟩) ha hb
theorem d_cmp {op : CmpOp} {r : R2} {g : G2} (ho : OpR X (compareOp op) r) (ok : OkG X.K ca r g) (ha : PE X a (RdW X.K ca fa)) (hb : PE X b (RdW X.K ca fb)) (hm : behindInMarks op b = false) : PE X (.Compare a [op] [b] pos) (RdP X.K ca (fOp g fa fb)) := PEimp (pe_cmpR ho ha hb hm) fun _ _ _ q => rd_op ok q
theorem d_lt (ha : PE X a (RdW X.K ca fa)) (hb : PE X b (RdW X.K ca fb)) : PE X (.Compare a [.Lt] [b] pos) (RdP X.K ca (fOp gLt fa fb)) := d_cmp op_lt (okI0 fun _ _ => rfl) ha hb (nomark _)
theorem d_le (ha : PE X a (RdW X.K ca fa)) (hb : PE X b (RdW X.K ca fb)) : PE X (.Compare a [.LtE] [b] pos) (RdP X.K ca (fOp gLe fa fb)) := d_cmp op_le (okI0 fun _ _ => rfl) ha hb (nomark _)
theorem d_gt (ha : PE X a (RdW X.K ca fa)) (hb : PE X b (RdW X.K ca fb)) : PE X (.Compare a [.Gt] [b] pos) (RdP X.K ca (fOp gGt fa fb)) := d_cmp op_gt (okI0 fun _ _ => rfl) ha hb (nomark _)
theorem d_ge (ha : PE X a (RdW X.K ca fa)) (hb : PE X b (RdW X.K ca fb)) : PE X (.Compare a [.GtE] [b] pos) (RdP X.K ca (fOp gGe fa fb)) := d_cmp op_ge (okI0 fun _ _ => rfl) ha hb (nomark _)
end
end Dv

/-! Dx -/
/-! Dx: tests, displays, subscripts, comprehensions. -/
namespace Dv
open PySem PySem.Spec PyProof.Rows L2 Evl LamX
variable [Nm]

/-! ### tests -/
abbrev TF := En → Option Bool
def NxT (Hs H : Hp) (b : Bool) (Q : Bool → Hp → Prop) : Prop := ∀ Hs' H', Go Hs H Hs' H' → Q b H'
def RdT (K : PySem.W.Frag) (ca : CA) (f : TF) : TT := fun σ H Q => ∃ F Hs ρ τ b, SR K ca F Hs H σ ρ τ ∧ f ρ = some b ∧ NxT Hs H b Q
def asB : Option D → Option Bool
  | some (.bl b) => some b
  | _ => none
theorem asB_some {o : Option D} {b : Bool} (h : asB o = some b) : o = some (.bl b) := by
  cases o with
  | none => cases h
  | some d => cases d <;> simp [asB] at h; subst h; rfl
def tB' (f : PF) : TF := fun ρ => asB (f ρ)
def truD : D → Option Bool
  | .non => some false
  | .bl b => some b
  | .int i => some (i != 0)
  | .str y => if szOk y.length = true then some ((y.length : Int) != 0) else none
  | .lst ds => some (!ds.isEmpty)
  | .tup ds => some (!ds.isEmpty)
  | _ => none
def tTr (f : PF) : TF := fun ρ => match f ρ with
  | some d => truD d
  | none => none
def tNt (t : TF) : TF := fun ρ => match t ρ with
  | some b => some (!b)
  | none => none
def tAn (t u : TF) : TF := fun ρ => match t ρ with
  | some true => u ρ
  | x => x
def tOr' (t u : TF) : TF := fun ρ => match t ρ with
  | some false => u ρ
  | x => x
def fB (t : TF) : PF := fun ρ => match t ρ with
  | some b => some (.bl b)
  | none => none
def fIf (t : TF) (fa fb : PF) : PF := fun ρ => match t ρ with
  | some true => fa ρ
  | some false => fb ρ
  | none => none
section
variable {K : PySem.W.Frag} {ca : CA} {F : Fx} {Hs Hs' H H' : Hp} {σ : L2.St} {ρ : En} {τ : List (Addr × Ob)} {v : V} {d : D}
theorem RdT.intro {f : TF} {b : Bool} {Q : Bool → Hp → Prop} (S : SR K ca F Hs H σ ρ τ) (h : f ρ = some b) (n : NxT Hs H b Q) : RdT K ca f σ H Q := ⟨F, Hs, ρ, τ, b, S, h, n⟩
theorem isEmpty_rp {xs : List V} {ds : List D} (r : RpAll K ca H xs ds) : xs.isEmpty = ds.isEmpty := by cases r <;> rfl
theorem tru_wr {b : Bool} (e : Ex Hs H) (w : WR K ca Hs H v d) (h : truD d = some b) : TruV K v H b := by
  unfold truD at h
  split at h
  · cases h; rw [w.non]; rfl
  · cases h; rw [w.bl]; rfl
  · cases h; rw [w.int]; rfl
  · split at h
    · rename_i c
      cases h; rw [w.str]; exact ⟨szOk_le c, rfl⟩
    · cases h
  · cases h
    obtain ⟨a, xs, rfl, h1, h2⟩ := w.lst e
    exact .inl ⟨xs, sq_of h1, by rw [isEmpty_rp h2]⟩
  · cases h
    obtain ⟨a, xs, rfl, h1, h2⟩ := w.tup e
    exact .inr (.inl ⟨xs, h1, by rw [isEmpty_rp h2]⟩)
  · cases h
end
section
variable {X : Cx} {ca : CA} {a b e : Expr} {fa fb f : PF} {ta tb : TF} {pos : Pos} {rest : List Expr}
/-- a comparison as a test -/
theorem d_tcmp {op : CmpOp} {r : R2} {g : G2} (ho : OpR X (compareOp op) r) (ok : OkG X.K ca r g) (ha : PE X a (RdW X.K ca fa)) (hb : PE X b (RdW X.K ca fb)) (hm : behindInMarks op b = false) : PT X (.Compare a [op] [b] pos) (RdT X.K ca (tB' (fOp g fa fb))) :=
  PTimp (pt_cmpR ho ha hb hm) fun σ H Q q => by
    obtain ⟨F, Hs, ρ, τ, b, S, e, n⟩ := q
    have e' := asB_some e
    refine rd_op ok (RdP.intro S e' fun v Hs' H' t r => ?_)
    cases r
    exact ⟨b, rfl, n Hs' H' t⟩
theorem d_tlt (ha : PE X a (RdW X.K ca fa)) (hb : PE X b (RdW X.K ca fb)) : PT X (.Compare a [.Lt] [b] pos) (RdT X.K ca (tB' (fOp gLt fa fb))) := d_tcmp op_lt (okI0 fun _ _ => rfl) ha hb (nomark _)
theorem d_tle (ha : PE X a (RdW X.K ca fa)) (hb : PE X b (RdW X.K ca fb)) : PT X (.Compare a [.LtE] [b] pos) (RdT X.K ca (tB' (fOp gLe fa fb))) := d_tcmp op_le (okI0 fun _ _ => rfl) ha hb (nomark _)
theorem d_tgt (ha : PE X a (RdW X.K ca fa)) (hb : PE X b (RdW X.K ca fb)) : PT X (.Compare a [.Gt] [b] pos) (RdT X.K ca (tB' (fOp gGt fa fb))) := d_tcmp op_gt (okI0 fun _ _ => rfl) ha hb (nomark _)
theorem d_tge (ha : PE X a (RdW X.K ca fa)) (hb : PE X b (RdW X.K ca fb)) : PT X (.Compare a [.GtE] [b] pos) (RdT X.K ca (tB' (fOp gGe fa fb))) := d_tcmp op_ge (okI0 fun _ _ => rfl) ha hb (nomark _)
/-- any other expression by its truth -/
theorem d_tru (ha : PE X a (RdW X.K ca fa)) (he : ∀ whole, isTrue a X.env whole = (do let v ← whole; standAt a.pos; holding [v] (truthy v)) := by intro _; rfl) : PT X a (RdT X.K ca (tTr fa)) :=
  PTimp (pt_truth ha he) fun σ H Q q => by
    obtain ⟨F, Hs, ρ, τ, b, S, e, n⟩ := q
    unfold tTr at e
    cases h : fa ρ with
    | none => rw [h] at e; cases e
    | some d =>
      rw [h] at e
      exact RdW.intro S h fun v Hs' H' t w => ⟨b, tru_wr t.x w e, n Hs' H' t⟩
theorem d_tnot (ha : PT X a (RdT X.K ca ta)) : PT X (.UnaryOp .Not a pos) (RdT X.K ca (tNt ta)) := PTimp (pt_not ha) fun σ H Q q => by
  obtain ⟨F, Hs, ρ, τ, b, S, e, n⟩ := q
  unfold tNt at e
  cases h : ta ρ with
  | none => rw [h] at e; cases e
  | some c =>
    rw [h] at e
    cases e
    exact RdT.intro S h fun Hs' H' t => n Hs' H' t
theorem rd_and {K : PySem.W.Frag} {σ : L2.St} {H : Hp} {Q : Bool → Hp → Prop} (q : RdT K ca (tAn ta tb) σ H Q) : tAnd (RdT K ca ta) (RdT K ca tb) σ H Q := by
  obtain ⟨F, Hs, ρ, τ, b, S, e, n⟩ := q
  unfold tAn at e
  cases h : ta ρ with
  | none => rw [h] at e; cases e
  | some c =>
    rw [h] at e
    refine RdT.intro S h fun Hs' H' t => ?_
    cases c with
    | false => cases e; rw [if_neg Bool.false_ne_true]; exact n Hs' H' t
    | true => rw [if_pos rfl]; exact RdT.intro (S.go t) e fun Hs2 H2 t2 => n Hs2 H2 (t.trans t2)
theorem rd_or {K : PySem.W.Frag} {σ : L2.St} {H : Hp} {Q : Bool → Hp → Prop} (q : RdT K ca (tOr' ta tb) σ H Q) : L2.tOr (RdT K ca ta) (RdT K ca tb) σ H Q := by
  obtain ⟨F, Hs, ρ, τ, b, S, e, n⟩ := q
  unfold tOr' at e
  cases h : ta ρ with
  | none => rw [h] at e; cases e
  | some c =>
    rw [h] at e
    refine RdT.intro S h fun Hs' H' t => ?_
    cases c with
    | true => cases e; rw [if_pos rfl]; exact n Hs' H' t
    | false => rw [if_neg Bool.false_ne_true]; exact RdT.intro (S.go t) e fun Hs2 H2 t2 => n Hs2 H2 (t.trans t2)
theorem PWimp {X : Cx} {e : Expr} {t t' : TT} (h : PW X e t) (i : ∀ σ H Q, t' σ H Q → t σ H Q) : PW X e t' := ⟨fun wh pins s σ H Q I q => h.run wh pins s σ H Q I (i σ H Q q)⟩
theorem d_wand1 (ha : PT X a (RdT X.K ca ta)) : PW X (.BoolOp .And [a] pos) (RdT X.K ca ta) := pw_and1 ha
theorem d_wor1 (ha : PT X a (RdT X.K ca ta)) : PW X (.BoolOp .Or [a] pos) (RdT X.K ca ta) := pw_or1 ha
theorem d_wand (ha : PT X a (RdT X.K ca ta)) (hb : PW X (.BoolOp .And (b :: rest) pos) (RdT X.K ca tb)) : PW X (.BoolOp .And (a :: b :: rest) pos) (RdT X.K ca (tAn ta tb)) := PWimp (pw_and ha hb) fun _ _ _ q => rd_and q
theorem d_wor (ha : PT X a (RdT X.K ca ta)) (hb : PW X (.BoolOp .Or (b :: rest) pos) (RdT X.K ca tb)) : PW X (.BoolOp .Or (a :: b :: rest) pos) (RdT X.K ca (tOr' ta tb)) := PWimp (pw_or ha hb) fun _ _ _ q => rd_or q
/-! .. as values -/
def fAn (fa fb : PF) : PF := fun ρ => match fa ρ with
  | some (.bl true) => fb ρ
  | some (.bl false) => some (.bl false)
  | _ => none
def fOr (fa fb : PF) : PF := fun ρ => match fa ρ with
  | some (.bl false) => fb ρ
  | some (.bl true) => some (.bl true)
  | _ => none
def fNt (fa : PF) : PF := fun ρ => match fa ρ with
  | some (.bl b) => some (.bl (!b))
  | _ => none
def fNeg (fa : PF) : PF := fun ρ => match fa ρ with
  | some (.int i) => some (.int (-i))
  | _ => none
theorem d_one {op} (ha : PE X a (RdP X.K ca fa)) : PE X (.BoolOp op [a] pos) (RdP X.K ca fa) := pe_one ha
theorem d_and (ha : PE X a (RdP X.K ca fa)) (hb : PE X (.BoolOp .And (b :: rest) pos) (RdP X.K ca fb)) : PE X (.BoolOp .And (a :: b :: rest) pos) (RdP X.K ca (fAn fa fb)) := PEimp (pe_and ha hb) fun σ H Q q => by
  obtain ⟨F, Hs, ρ, τ, d, S, e, n⟩ := q
  unfold fAn at e
  split at e
  · rename_i h
    refine RdP.intro S h fun v Hs' H' t r => ?_
    cases r
    exact ⟨true, rfl, by rw [if_pos rfl]; exact RdP.intro (S.go t) e (n.to t)⟩
  · rename_i h
    refine RdP.intro S h fun v Hs' H' t r => ?_
    cases r
    cases e
    exact ⟨false, rfl, by rw [if_neg Bool.false_ne_true]; exact n _ _ _ t (.bl false)⟩
  · cases e
theorem d_or (ha : PE X a (RdP X.K ca fa)) (hb : PE X (.BoolOp .Or (b :: rest) pos) (RdP X.K ca fb)) : PE X (.BoolOp .Or (a :: b :: rest) pos) (RdP X.K ca (fOr fa fb)) := PEimp (pe_or ha hb) fun σ H Q q => by
  obtain ⟨F, Hs, ρ, τ, d, S, e, n⟩ := q
  unfold fOr at e
  split at e
  · rename_i h
    refine RdP.intro S h fun v Hs' H' t r => ?_
    cases r
    exact ⟨false, rfl, by rw [if_neg Bool.false_ne_true]; exact RdP.intro (S.go t) e (n.to t)⟩
  · rename_i h
    refine RdP.intro S h fun v Hs' H' t r => ?_
    cases r
    cases e
    exact ⟨true, rfl, by rw [if_pos rfl]; exact n _ _ _ t (.bl true)⟩
  · cases e
theorem d_not (ha : PE X a (RdP X.K ca fa)) : PE X (.UnaryOp .Not a pos) (RdP X.K ca (fNt fa)) := PEimp (pe_not ha) fun σ H Q q => by
  obtain ⟨F, Hs, ρ, τ, d, S, e, n⟩ := q
  unfold fNt at e
  split at e
  · rename_i c h
    cases e
    refine RdP.intro S h fun v Hs' H' t r => ?_
    cases r
    exact ⟨c, rfl, n _ _ _ t (.bl _)⟩
  · cases e
theorem d_neg (ha : PE X a (RdP X.K ca fa)) : PE X (.UnaryOp .USub a pos) (RdP X.K ca (fNeg fa)) := PEimp (pe_un un_neg ha) fun σ H Q q => by
  obtain ⟨F, Hs, ρ, τ, d, S, e, n⟩ := q
  unfold fNeg at e
  split at e
  · rename_i c h
    cases e
    refine RdP.intro S h fun v Hs' H' t r => ?_
    cases r
    exact ⟨c, rfl, n _ _ _ t (.int _)⟩
  · cases e
theorem d_if {c : Expr} (hc : PT X c (RdT X.K ca ta)) (ha : PE X a (RdP X.K ca fa)) (hb : PE X b (RdP X.K ca fb)) : PE X (.IfExp c a b pos) (RdP X.K ca (fIf ta fa fb)) := PEimp (pe_ifExp hc ha hb) fun σ H Q q => by
  obtain ⟨F, Hs, ρ, τ, d, S, e, n⟩ := q
  unfold fIf at e
  split at e
  · rename_i h
    exact RdT.intro S h fun Hs' H' t => by rw [if_pos rfl]; exact RdP.intro (S.go t) e (n.to t)
  · rename_i h
    exact RdT.intro S h fun Hs' H' t => by rw [if_neg Bool.false_ne_true]; exact RdP.intro (S.go t) e (n.to t)
  · cases e
/-- a chain of two comparisons of ints -/
def fCh (g g' : G2) (fa fb fc : PF) : PF := fun ρ => match fa ρ, fb ρ, fc ρ with
  | some x, some y, some z => (match g x y with
    | some (.bl true) => g' y z
    | some (.bl false) => some (.bl false)
    | _ => none)
  | _, _, _ => none
theorem d_chain {c : Expr} {fc : PF} {op op' : CmpOp} {r r' : R2} {g g' : G2} (ho : OpR X (compareOp op) r) (ho' : OpR X (compareOp op') r') (ok : OkG X.K ca r g) (ok' : OkG X.K ca r' g') (ha : PE X a (RdW X.K ca fa)) (hb : PE X b (RdW X.K ca fb)) (hc : PE X c (RdW X.K ca fc))
    (hp : PE X (.Compare a [op, op'] [b, c] pos) (tChain r r' (RdW X.K ca fa) (RdW X.K ca fb) (RdW X.K ca fc))) : PE X (.Compare a [op, op'] [b, c] pos) (RdP X.K ca (fCh g g' fa fb fc)) := PEimp hp fun σ H Q q => by
  obtain ⟨F, Hs, ρ, τ, d, S, e, n⟩ := q
  unfold fCh at e
  split at e
  · rename_i x y z h1 h2 h3
    refine RdW.intro S h1 fun u Hs1 H1 t1 w1 => ?_
    refine RdW.intro (S.go t1) h2 fun v Hs2 H2 t2 w2 => ?_
    have S2 := (S.go t1).go t2
    split at e
    · rename_i hg
      refine ok F Hs2 H2 σ ρ τ u v x y _ _ S2 (w1.mono t2.e t2.k) w2 hg fun q Hs3 H3 t3 r3 => ?_
      cases r3
      refine ⟨true, rfl, ?_⟩
      rw [if_pos rfl]
      refine RdW.intro (S2.go t3) h3 fun w Hs4 H4 t4 w4 => ?_
      exact ok' F Hs4 H4 σ ρ τ v w y z d Q ((S2.go t3).go t4) ((w2.mono t3.e t3.k).mono t4.e t4.k) w4 e (n.to (((t1.trans t2).trans t3).trans t4))
    · rename_i hg
      cases e
      refine ok F Hs2 H2 σ ρ τ u v x y _ _ S2 (w1.mono t2.e t2.k) w2 hg fun q Hs3 H3 t3 r3 => ?_
      cases r3
      refine ⟨false, rfl, ?_⟩
      rw [if_neg Bool.false_ne_true]
      exact n _ _ _ ((t1.trans t2).trans t3) (.bl false)
    · cases e
  · cases e
end

/-! ### arguments, displays -/
abbrev AF := En → Option (List D)
def RdA (K : PySem.W.Frag) (ca : CA) (f : AF) : TA := fun σ H Q => ∃ F Hs ρ τ ds, SR K ca F Hs H σ ρ τ ∧ f ρ = some ds ∧
  ∀ vs Hs' H', Go Hs H Hs' H' → RpAll K ca Hs' vs ds → Q vs H'
inductive WRs (K : PySem.W.Frag) (ca : CA) (Hs H : Hp) : List V → List D → Prop
  | nil : WRs K ca Hs H [] []
  | cons {v : V} {d : D} {vs : List V} {ds : List D} : WR K ca Hs H v d → WRs K ca Hs H vs ds → WRs K ca Hs H (v :: vs) (d :: ds)
def RdAW (K : PySem.W.Frag) (ca : CA) (f : AF) : TA := fun σ H Q => ∃ F Hs ρ τ ds, SR K ca F Hs H σ ρ τ ∧ f ρ = some ds ∧
  ∀ vs Hs' H', Go Hs H Hs' H' → WRs K ca Hs' H' vs ds → Q vs H'
def aNil : AF := fun _ => some []
def aCons (f : PF) (r : AF) : AF := fun ρ => match f ρ with
  | some d => (match r ρ with
    | some ds => some (d :: ds)
    | none => none)
  | none => none
def fTup (f : AF) : PF := fun ρ => match f ρ with
  | some ds => if szOk ds.length = true then some (.tup ds) else none
  | none => none
def fLst (f : AF) : PF := fun ρ => match f ρ with
  | some ds => if szOk ds.length = true then some (.lst ds) else none
  | none => none
theorem PAimp {X : Cx} {es : List Expr} {t t' : TA} (h : PA X es t) (i : ∀ σ H Q, t' σ H Q → t σ H Q) : PA X es t' := ⟨fun pos pins s σ H Q I q => h.run pos pins s σ H Q I (i σ H Q q)⟩
section
variable {X : Cx} {ca : CA} {e : Expr} {es : List Expr} {f : PF} {r : AF} {pos : Pos}
theorem a_nil : PA X [] (RdA X.K ca aNil) := PAimp pa_nil fun σ H Q q => by
  obtain ⟨F, Hs, ρ, τ, ds, S, e, n⟩ := q
  cases e
  exact n [] Hs H (Go.refl S.ex) .nil
theorem a_cons (he : PE X e (RdP X.K ca f)) (hr : PA X es (RdA X.K ca r)) (hs : starEach (e :: es) X.env = (false, eval e X.env) :: starEach es X.env := by rfl) : PA X (e :: es) (RdA X.K ca (aCons f r)) := PAimp (pa_cons he hr hs) fun σ H Q q => by
  obtain ⟨F, Hs, ρ, τ, ds, S, e, n⟩ := q
  unfold aCons at e
  split at e
  · rename_i d h1
    split at e
    · rename_i dr h2
      cases e
      refine RdP.intro S h1 fun v Hs1 H1 t1 r1 => ?_
      exact ⟨F, Hs1, ρ, τ, dr, S.go t1, h2, fun vs Hs2 H2 t2 r2 => n (v :: vs) Hs2 H2 (t1.trans t2) (.cons (r1.mono t2.e) r2)⟩
    · cases e
  · cases e
theorem aw_nil : PA X [] (RdAW X.K ca aNil) := PAimp pa_nil fun σ H Q q => by
  obtain ⟨F, Hs, ρ, τ, ds, S, e, n⟩ := q
  cases e
  exact n [] Hs H (Go.refl S.ex) .nil
theorem WRs.mono {K : PySem.W.Frag} {Hs Hs' H H' : Hp} (e : Ex Hs Hs') (k : ExtN H H') : ∀ {vs : List V} {ds : List D}, WRs K ca Hs H vs ds → WRs K ca Hs' H' vs ds
  | _, _, .nil => .nil
  | _, _, .cons h r => .cons (h.mono e k) (WRs.mono e k r)
theorem aw_cons (he : PE X e (RdW X.K ca f)) (hr : PA X es (RdAW X.K ca r)) (hs : starEach (e :: es) X.env = (false, eval e X.env) :: starEach es X.env := by rfl) : PA X (e :: es) (RdAW X.K ca (aCons f r)) := PAimp (pa_cons he hr hs) fun σ H Q q => by
  obtain ⟨F, Hs, ρ, τ, ds, S, e, n⟩ := q
  unfold aCons at e
  split at e
  · rename_i d h1
    split at e
    · rename_i dr h2
      cases e
      refine RdW.intro S h1 fun v Hs1 H1 t1 r1 => ?_
      exact ⟨F, Hs1, ρ, τ, dr, S.go t1, h2, fun vs Hs2 H2 t2 r2 => n (v :: vs) Hs2 H2 (t1.trans t2) (.cons (r1.mono t2.e t2.k) r2)⟩
    · cases e
  · cases e
theorem d_tup {x1} (h : PA X es (RdA X.K ca r)) : PE X (.Tuple es x1 pos) (RdP X.K ca (fTup r)) := PEimp (pe_tup h) fun σ H Q q => by
  obtain ⟨F, Hs, ρ, τ, d, S, e, n⟩ := q
  unfold fTup at e
  split at e
  · rename_i ds h1
    split at e
    · rename_i c
      cases e
      exact ⟨F, Hs, ρ, τ, ds, S, h1, fun vs Hs1 H1 t1 r1 => ⟨by rw [r1.len]; exact szOk_le c, (n.to t1).newT t1.x r1⟩⟩
    · cases e
  · cases e
theorem d_lst (h : PA X es (RdA X.K ca r)) : PE X (.List es pos) (RdP X.K ca (fLst r)) := PEimp (pe_lst h) fun σ H Q q => by
  obtain ⟨F, Hs, ρ, τ, d, S, e, n⟩ := q
  unfold fLst at e
  split at e
  · rename_i ds h1
    split at e
    · rename_i c
      cases e
      exact ⟨F, Hs, ρ, τ, ds, S, h1, fun vs Hs1 H1 t1 r1 => ⟨by rw [r1.len]; exact szOk_le c, (n.to t1).newL t1.x r1⟩⟩
    · cases e
  · cases e
end

/-! ### items and slices -/
def gIx : G2
  | .lst ds, .int i => atI ds i
  | .tup ds, .int i => atI ds i
  | .str z, .int i => if szOk z.length = true then (match atI z.cps.toList i with
    | some c => some (.str ⟨#[c]⟩)
    | none => none) else none
  | .scr ns, .int i => (match atI ns i with
    | some c => some (.int c)
    | none => none)
  | _, _ => none
section
variable {K : PySem.W.Frag} {ca : CA} {H : Hp}
theorem atI_rp {vs : List V} {ds : List D} {i : Int} {d : D} (r : RpAll K ca H vs ds) (h : atI ds i = some d) : ∃ v, atI vs i = some v ∧ Rp K ca H v d := by
  unfold atI at h ⊢
  rw [r.len]
  cases q : ixN ds.length i with
  | none => rw [q] at h; cases h
  | some j =>
    rw [q] at h
    exact r.get h
theorem okIx : OkG K ca (rIx K) gIx := fun F Hs H σ ρ τ x y dx dy d Q S wx wy e n => by
  unfold gIx at e
  split at e
  · obtain rfl := wy.int
    obtain ⟨a, xs, rfl, h1, h2⟩ := wx.lst S.ex
    obtain ⟨v, h3, h4⟩ := atI_rp h2 e
    exact .inl ⟨a, xs, _, v, rfl, rfl, sq_of h1, h3, n.here S.ex h4⟩
  · obtain rfl := wy.int
    obtain ⟨a, xs, rfl, h1, h2⟩ := wx.tup S.ex
    obtain ⟨v, h3, h4⟩ := atI_rp h2 e
    exact .inr (.inl ⟨a, xs, _, v, rfl, rfl, h1, h3, n.here S.ex h4⟩)
  · obtain rfl := wy.int
    obtain rfl := wx.str
    split at e
    · rename_i c
      split at e
      · rename_i cc hc
        cases e
        exact .inr (.inr ⟨_, _, cc, rfl, rfl, szOk_le c, hc, n.here S.ex (.str _)⟩)
      · cases e
    · cases e
  · obtain rfl := wy.int
    split at e
    · rename_i c hc
      cases e
      · have wf := wx.flat fun o z => by cases o <;> cases z
        cases wf with
        | scr h =>
          refine .inl ⟨_, _, _, .int c, rfl, rfl, ex_l S.ex h, ?_, n.here S.ex (.int _)⟩
          unfold atI at hc ⊢
          rw [List.length_map]
          rename_i ns i _ _
          cases q : ixN ns.length i with
          | none => rw [q] at hc; cases hc
          | some j =>
            rw [q] at hc
            have hc' : ns[j]? = some c := hc
            show (ns.map V.int)[j]? = _
            rw [List.getElem?_map, hc']
            rfl
    · cases e
  · cases e
end
section
variable {X : Cx} {ca : CA} {a b : Expr} {fa fb : PF} {pos p2 : Pos}
theorem d_ix (ha : PE X a (RdW X.K ca fa)) (hb : PE X b (RdW X.K ca fb)) (hs : PlainIx b) : PE X (.Subscript a b pos) (RdP X.K ca (fOp gIx fa fb)) := PEimp (pe_ix ix_seq ha hb hs) fun _ _ _ q => rd_op okIx q
end
end Dv

/-! Dy -/
/-! Dy: what is walked, targets, list comprehensions. -/
namespace Dv
open PySem PySem.Spec PyProof.Rows L2 Evl LamX
variable [Nm]

/-! ### targets -/
inductive Tg where
  | nm (i : Nat)
  | tp (is : List Nat)
  | tn (is : List Nat) (j : Nat)
def Tg.slots : Tg → List Nat
  | .nm i => [i]
  | .tp is => is
  | .tn is j => is ++ [j]
def setAll : List Nat → List D → En → Option En
  | [], [], ρ => some ρ
  | i :: is, d :: ds, ρ => if i < ρ.length then setAll is ds (ρ.set i (some (.sh d))) else none
  | _, _, _ => none
def Tg.asg : Tg → D → En → Option En
  | .nm i, d, ρ => if i < ρ.length then some (ρ.set i (some (.sh d))) else none
  | .tp is, .tup ds, ρ => setAll is ds ρ
  | .tn is j, .tup [.tup ds, e], ρ => (match setAll is ds ρ with
    | some ρ1 => if j < ρ1.length then some (ρ1.set j (some (.sh e))) else none
    | none => none)
  | _, _, _ => none
def gNames : List Nat → TGs
  | [] => gNil
  | i :: is => gCons (gName i) (gNames is)
def gTg (K : PySem.W.Frag) : Tg → TG
  | .nm i => gName i
  | .tp is => gTup K is.length (gNames is)
  | .tn is j => gTup K 2 (gCons (gTup K is.length (gNames is)) (gCons (gName j) gNil))
theorem wipe_set {σ : L2.St} {i : Nat} {x : Option V} : ∀ {vs : List Nat}, i ∈ vs → wipe (σ.set i x) vs = wipe σ vs
  | v :: vs, h => by
    unfold wipe
    by_cases hi : i ∈ vs
    · rw [wipe_set hi]
    · have e : i = v := by
        rcases List.mem_cons.mp h with e | e
        · exact e
        · exact absurd e hi
      subst e
      have key : ∀ (us : List Nat), i ∉ us → (wipe (σ.set i x) us) = (wipe σ us).set i x := by
        intro us
        induction us with
        | nil => intro _; rfl
        | cons u us ih =>
          intro hu
          have hu1 : i ≠ u := fun z => hu (by rw [z]; exact List.mem_cons_self)
          have hu2 : i ∉ us := fun z => hu (List.mem_cons_of_mem _ z)
          unfold wipe
          rw [ih hu2]
          exact List.set_comm _ _ hu1
      rw [key vs hi, List.set_set]
section
variable {K : PySem.W.Frag} {ca : CA} {F : Fx} {Hs H : Hp} {τ : List (Addr × Ob)}
theorem names_ok : ∀ (is : List Nat) (ds : List D) (vs : List V) (σ : L2.St) (ρ ρ' : En) (Q : L2.St → Hp → Prop), SR K ca F Hs H σ ρ τ → RpAll K ca Hs vs ds → setAll is ds ρ = some ρ' →
    (∀ σ', SR K ca F Hs H σ' ρ' τ → (∀ us, (∀ i ∈ is, i ∈ us) → wipe σ' us = wipe σ us) → Q σ' H) → gNames is vs σ H Q
  | [], ds, vs, σ, ρ, ρ', Q, S, r, h, q => by
    cases ds with
    | nil =>
      cases r
      cases h
      exact ⟨rfl, q σ S fun _ _ => rfl⟩
    | cons d ds => cases h
  | i :: is, ds, vs, σ, ρ, ρ', Q, S, r, h, q => by
    cases ds with
    | nil => cases h
    | cons d ds =>
      cases r with
      | cons r1 r2 =>
        rename_i v vs
        unfold setAll at h
        split at h
        · rename_i hi
          refine ⟨v, vs, rfl, ?_⟩
          refine names_ok is ds vs _ _ _ Q (S.setS (by rw [← S.ln]; exact hi) r1) r2 h fun σ' S' w => q σ' S' fun us hu => ?_
          rw [w us fun j hj => hu j (List.mem_cons_of_mem _ hj), wipe_set (hu i List.mem_cons_self)]
        · cases h
theorem setAll_len : ∀ (is : List Nat) (ds : List D) (ρ ρ' : En), setAll is ds ρ = some ρ' → is.length = ds.length := by
  intro is
  induction is with
  | nil => intro ds ρ ρ' h; cases ds with
    | nil => rfl
    | cons _ _ => cases h
  | cons i is ih => intro ds ρ ρ' h; cases ds with
    | nil => cases h
    | cons d ds =>
      unfold setAll at h
      split at h
      · exact congrArg Nat.succ (ih _ _ _ h)
      · cases h
theorem tp_ok {is : List Nat} {ds : List D} {v : V} {σ : L2.St} {ρ ρ' : En} {Q : L2.St → Hp → Prop} (S : SR K ca F Hs H σ ρ τ) (r : Rp K ca Hs v (.tup ds)) (h : setAll is ds ρ = some ρ')
    (q : ∀ σ', SR K ca F Hs H σ' ρ' τ → (∀ us, (∀ i ∈ is, i ∈ us) → wipe σ' us = wipe σ us) → Q σ' H) : gTup K is.length (gNames is) v σ H Q := by
  cases r with
  | tup h1 h2 =>
    rename_i a xs
    refine ⟨a, xs, rfl, st_of (S.ex _ _ h1), ?_, names_ok is ds xs σ ρ ρ' Q S h2 h q⟩
    rw [h2.len]
    exact (setAll_len is ds ρ ρ' h).symm
theorem tg_ok {tg : Tg} {d : D} {v : V} {σ : L2.St} {ρ ρ' : En} {Q : L2.St → Hp → Prop} (S : SR K ca F Hs H σ ρ τ) (r : Rp K ca Hs v d) (h : tg.asg d ρ = some ρ')
    (q : ∀ σ', SR K ca F Hs H σ' ρ' τ → (∀ us, (∀ i ∈ tg.slots, i ∈ us) → wipe σ' us = wipe σ us) → Q σ' H) : gTg K tg v σ H Q := by
  cases tg with
  | nm i =>
    simp only [Tg.asg] at h
    split at h
    · rename_i hi
      cases h
      exact q _ (S.setS (by rw [← S.ln]; exact hi) r) fun us hu => wipe_set (hu i (List.mem_singleton.mpr rfl))
    · cases h
  | tp is =>
    cases d with
    | tup ds => exact tp_ok S r h q
    | _ => cases h
  | tn is j =>
    unfold Tg.asg at h
    split at h
    · rename_i heq; cases heq
    · rename_i heq; cases heq
    · rename_i is2 j2 ds e ρ2 heq
      cases heq
      split at h
      rotate_left
      · cases h
      rename_i ρ1 h1
      split at h
      rotate_left
      · cases h
      rename_i hj
      cases h
      cases r with
      | tup k1 k2 =>
        rename_i a xs
        cases k2 with
        | cons r1 r2 =>
          cases r2 with
          | cons r2 r3 =>
            cases r3
            rename_i v1 v2
            refine ⟨a, _, rfl, st_of (S.ex _ _ k1), rfl, v1, [v2], rfl, tp_ok S r1 h1 fun σ1 S1 w1 => ⟨v2, [], rfl, rfl, ?_⟩⟩
            refine q _ (S1.setS (by rw [← S1.ln]; exact hj) r2) fun us hu => ?_
            rw [wipe_set (hu j (List.mem_append_right _ (List.mem_singleton.mpr rfl))), w1 us fun i hi => hu i (List.mem_append_left _ hi)]
    · cases h
end

/-! ### what is walked -/
/-- J walks things that stand for ds, while what stands in B stands -/
def ItOk (K : PySem.W.Frag) (ca : CA) (Hs B : Hp) (J : It) (ds : List D) : Prop := ∃ (G : Hp → Prop) (Y : Nat → Hp → V → Hp → Prop), Walk J ds.length G Y ∧ (∀ H1, ExtN B H1 → G H1) ∧
  ∀ (i : Nat) (x : V) (Hs1 H1 H2 : Hp), Ex Hs Hs1 → Ex Hs1 H1 → i < ds.length → Y i H1 x H2 → ∃ (Hs2 : Hp) (d : D), Go Hs1 H1 Hs2 H2 ∧ ds[i]? = some d ∧ Rp K ca Hs2 x d
def RdIW (K : PySem.W.Frag) (ca : CA) (f : AF) : TI := fun σ H R => ∃ F Hs ρ τ ds, SR K ca F Hs H σ ρ τ ∧ f ρ = some ds ∧ ∀ J Hs' H', Go Hs H Hs' H' → ItOk K ca Hs' H' J ds → R J H'
def RdIS (K : PySem.W.Frag) (ca : CA) (f : AF) : TI := fun σ H R => ∃ F Hs ρ τ ds, SR K ca F Hs H σ ρ τ ∧ f ρ = some ds ∧ ∀ J Hs' H', Go Hs H Hs' H' → ItOk K ca Hs' Hs' J ds → R J H'
theorem PIimp {X : Cx} {tg e : Expr} {t t' : TI} (h : PI X tg e t) (i : ∀ σ H R, t' σ H R → t σ H R) : PI X tg e t' := ⟨fun pins s σ H R I q => h.run pins s σ H R I (i σ H R q)⟩
theorem PIor {X : Cx} {tg e : Expr} {t t' : TI} (h : PI X tg e t) (h' : PI X tg e t') : PI X tg e (fun σ H R => t σ H R ∨ t' σ H R) := ⟨fun pins s σ H R I q => q.elim (h.run pins s σ H R I) (h'.run pins s σ H R I)⟩
def iSeq (f : PF) : AF := fun ρ => match f ρ with
  | some (.lst ds) => some ds
  | some (.tup ds) => some ds
  | some (.str z) => some (z.cps.toList.map fun c => .str ⟨#[c]⟩)
  | _ => none
def iRange (f : PF) : AF := fun ρ => match f ρ with
  | some (.int n) => if 0 ≤ n ∧ n ≤ 100000 then some ((List.range n.toNat).map fun (i : Nat) => .int (i : Int)) else none
  | _ => none
def iEn (f : PF) : AF := fun ρ => match f ρ with
  | some (.lst ds) => some (ds.zipIdx.map fun p => .tup [.int (p.2 : Int), p.1])
  | _ => none
section
variable {K : PySem.W.Frag} {ca : CA} {Hs H B : Hp}
theorem exN_t {K : PySem.W.Frag} {H H' : Hp} {a : Addr} {xs : List V} (e : ExtN H H') (h : SqT K H a xs) : SqT K H' a xs := by
  rcases h with (h | ⟨o, h⟩) | h
  · exact .inl (.inl (e _ _ h nt_tup))
  · exact .inl (.inr ⟨o, e _ _ h fun _ z => nomatch z⟩)
  · exact .inr h
theorem itL {a : Addr} {xs : List V} {ds : List D} (h : B a = some (.lst xs)) (r : RpAll K ca Hs xs ds) : ItOk K ca Hs B (Itl K a) ds := by
  have w : Walk (Itl K a) xs.length (fun H => SqL K H a xs) (YAt xs) := walk_list
  rw [r.len] at w
  refine ⟨_, _, w, fun H1 e => sq_of (e _ _ h nt_lst), fun i x Hs1 H1 H2 e1 ex hi y => ?_⟩
  obtain ⟨rfl, hx⟩ := y
  obtain ⟨d, h1, h2⟩ := r.getV hx
  exact ⟨Hs1, d, Go.refl ex, h1, h2.mono e1⟩
theorem itT {a : Addr} {xs : List V} {ds : List D} (h : SqT K B a xs) (r : RpAll K ca Hs xs ds) : ItOk K ca Hs B (Itt K a) ds := by
  have w : Walk (Itt K a) xs.length (fun H => SqT K H a xs) (YAt xs) := walk_tup
  rw [r.len] at w
  refine ⟨_, _, w, fun H1 e => exN_t e h, fun i x Hs1 H1 H2 e1 ex hi y => ?_⟩
  obtain ⟨rfl, hx⟩ := y
  obtain ⟨d, h1, h2⟩ := r.getV hx
  exact ⟨Hs1, d, Go.refl ex, h1, h2.mono e1⟩
theorem itS {z : Str} : ItOk K ca Hs B (Its z) (z.cps.toList.map fun c => .str ⟨#[c]⟩) := by
  have w : Walk (Its z) z.cps.size (fun _ => True) (fun i H v H' => H' = H ∧ ∃ c, z.cps[i]? = some c ∧ v = .str ⟨#[c]⟩) := walk_str
  have el : (z.cps.toList.map fun c => D.str ⟨#[c]⟩).length = z.cps.size := by simp
  rw [← el] at w
  refine ⟨_, _, w, fun _ _ => trivial, fun i x Hs1 H1 H2 e1 ex hi y => ?_⟩
  obtain ⟨rfl, c, hc, rfl⟩ := y
  refine ⟨Hs1, .str ⟨#[c]⟩, Go.refl ex, ?_, .str _⟩
  rw [List.getElem?_map, Array.getElem?_toList, hc]
  rfl
theorem itR {n : Nat} : ItOk K ca Hs B (Itr 0 n) ((List.range n).map fun (i : Nat) => .int (i : Int)) := by
  have w : Walk (Itr 0 n) n (fun _ => True) (YFn fun i => .int (0 + i)) := walk_range
  have el : ((List.range n).map fun (i : Nat) => D.int (i : Int)).length = n := by simp
  refine ⟨fun _ => True, YFn fun i => .int (0 + i), el.symm ▸ w, fun _ _ => trivial, fun i x Hs1 H1 H2 e1 ex hi y => ?_⟩
  obtain ⟨rfl, rfl⟩ := y
  refine ⟨Hs1, .int (i : Int), Go.refl ex, ?_, ?_⟩
  · rw [el] at hi
    rw [List.getElem?_map, List.getElem?_range hi]
    rfl
  · show Rp K ca Hs1 (.int (0 + (i : Int))) _
    rw [Int.zero_add]
    exact .int _
theorem itE {a : Addr} {xs : List V} {ds : List D} (h : B a = some (.lst xs)) (r : RpAll K ca Hs xs ds) : ItOk K ca Hs B (Ite K a) (ds.zipIdx.map fun p => .tup [.int (p.2 : Int), p.1]) := by
  have w : Walk (Ite K a) xs.length (fun H => SqL K H a xs) (YPair (fun i => some (.int (i : Nat))) (fun i => xs[i]?)) := walk_enum
  have el : (ds.zipIdx.map fun p => D.tup [.int (p.2 : Int), p.1]).length = xs.length := by simp [r.len]
  refine ⟨_, _, el.symm ▸ w, fun H1 e => sq_of (e _ _ h nt_lst), fun i x Hs1 H1 H2 e1 ex hi y => ?_⟩
  obtain ⟨T, u, v, rfl, hT, rfl, hu, hv⟩ := y
  cases hu
  obtain ⟨d, h1, h2⟩ := r.getV hv
  have t : Go Hs1 H1 (upd Hs1 T (.tup [.int (i : Nat), v])) (upd H1 T (.tup [.int (i : Nat), v])) := Go.alloc ex nt_tup hT
  refine ⟨_, .tup [.int (i : Int), d], t, ?_, .tup upd_same (.cons (.int _) (.cons (h2.mono (e1.trans t.e)) .nil))⟩
  rw [List.getElem?_map, List.getElem?_zipIdx, h1]
  simp
end
section
variable {X : Cx} {ca : CA} {tg e : Expr} {f : PF} {pos p : Pos}
/-- a list or a tuple or a text -/
theorem i_seqW (he : PE X e (RdW X.K ca f)) : PI X tg e (RdIW X.K ca (iSeq f)) := PIimp (PIor (pi_list he) (PIor (pi_tup he) (pi_str he))) fun σ H R q => by
  obtain ⟨F, Hs, ρ, τ, ds, S, e, n⟩ := q
  unfold iSeq at e
  split at e
  · rename_i h
    cases e
    refine .inl (RdW.intro S h fun v Hs' H' t w => ?_)
    obtain ⟨a, xs, rfl, h1, r⟩ := w.lst t.x
    exact ⟨a, rfl, ⟨xs, sq_of h1⟩, n _ _ _ t (itL h1 r)⟩
  · rename_i h
    cases e
    refine .inr (.inl (RdW.intro S h fun v Hs' H' t w => ?_))
    obtain ⟨a, xs, rfl, h1, r⟩ := w.tup t.x
    exact ⟨a, rfl, ⟨xs, h1⟩, n _ _ _ t (itT h1 r)⟩
  · rename_i h
    cases e
    refine .inr (.inr (RdW.intro S h fun v Hs' H' t w => ?_))
    obtain rfl := w.str
    exact ⟨_, rfl, n _ _ _ t itS⟩
  · cases e
theorem i_seqS (he : PE X e (RdP X.K ca f)) : PI X tg e (RdIS X.K ca (iSeq f)) := PIimp (PIor (pi_list he) (PIor (pi_tup he) (pi_str he))) fun σ H R q => by
  obtain ⟨F, Hs, ρ, τ, ds, S, e, n⟩ := q
  unfold iSeq at e
  split at e
  · rename_i h
    cases e
    refine .inl (RdP.intro S h fun v Hs' H' t w => ?_)
    cases w with
    | lst h1 r => exact ⟨_, rfl, ⟨_, sq_of (t.x _ _ h1)⟩, n _ _ _ t (itL h1 r)⟩
  · rename_i h
    cases e
    refine .inr (.inl (RdP.intro S h fun v Hs' H' t w => ?_))
    cases w with
    | tup h1 r => exact ⟨_, rfl, ⟨_, st_of (t.x _ _ h1)⟩, n _ _ _ t (itT (st_of h1) r)⟩
  · rename_i h
    cases e
    refine .inr (.inr (RdP.intro S h fun v Hs' H' t w => ?_))
    cases w
    exact ⟨_, rfl, n _ _ _ t itS⟩
  · cases e
theorem rg_aux {K : PySem.W.Frag} {σ : L2.St} {H : Hp} {ds : List D} {F : Fx} {Hs : Hp} {ρ : En} {τ : List (Addr × Ob)} {R : It → Hp → Prop} (S : SR K ca F Hs H σ ρ τ) (h : iRange f ρ = some ds) (n : ∀ J Hs' H', Go Hs H Hs' H' → ItOk K ca Hs' Hs' J ds → R J H') : iRng1 (RdA K ca (aCons f aNil)) σ H R := by
  unfold iRange at h
  split at h
  · rename_i m h1
    split at h
    · rename_i hm
      cases h
      refine ⟨F, Hs, ρ, τ, [.int m], S, by simp only [aCons, h1, aNil], fun vs Hs' H' t r => ?_⟩
      cases r with
      | cons r rr =>
        cases r
        cases rr
        exact ⟨m, rfl, by omega, by omega, n _ _ _ t itR⟩
    · cases h
  · cases h
end
end Dv
namespace Dv
open PySem PySem.Spec PyProof.Rows L2 Evl LamX
variable [Nm]
section
variable {X : Cx} {ca : CA} {tg e : Expr} {f : PF} {pos p tpos : Pos} {elts : List Expr} {kk : Nat}
theorem ItOk.weak {K : PySem.W.Frag} {Hs B B' : Hp} {J : It} {ds : List D} (h : ItOk K ca Hs B J ds) (e : Ex B B') : ItOk K ca Hs B' J ds := by
  obtain ⟨G, Y, w, g, y⟩ := h
  exact ⟨G, Y, w, fun H1 e1 => g H1 ((ExtN.of e).trans e1), y⟩
/-- a strong walk serves as a weak one -/
theorem i_w {it : AF} (h : PI X tg e (RdIS X.K ca it)) : PI X tg e (RdIW X.K ca it) := PIimp h fun σ H R q => by
  obtain ⟨F, Hs, ρ, τ, ds, S, e, n⟩ := q
  exact ⟨F, Hs, ρ, τ, ds, S, e, fun J Hs' H' t ok => n J Hs' H' t (ok.weak t.x)⟩
theorem a_one (he : PE X e (RdP X.K ca f)) (hs : starEach [e] X.env = (false, eval e X.env) :: starEach [] X.env := by rfl) : PA X [e] (RdA X.K ca (aCons f aNil)) := a_cons he a_nil hs
theorem i_range (hg : Gl X "range") (hm : X.mg "range" = none) (he : PE X e (RdP X.K ca f)) (hs : starEach [e] X.env = [(false, eval e X.env)] := by rfl) : PI X tg (.Call (.Name "range" p) [e] [] pos) (RdIS X.K ca (iRange f)) :=
  PIimp (pi_range1 hg hm (a_one he hs) hs) fun σ H R q => by
    obtain ⟨F, Hs, ρ, τ, ds, S, e, n⟩ := q
    exact rg_aux S e n
theorem i_enumS (hg : Gl X "enumerate") (hm : X.mg "enumerate" = none) (he : PE X e (RdP X.K ca f)) (hs : starEach [e] X.env = [(false, eval e X.env)] := by rfl) : PI X (.Tuple elts kk tpos) (.Call (.Name "enumerate" p) [e] [] pos) (RdIS X.K ca (iEn f)) :=
  PIimp (pi_enum hg hm (a_one he hs) hs) fun σ H R q => by
    obtain ⟨F, Hs, ρ, τ, ds, S, e, n⟩ := q
    unfold iEn at e
    split at e
    · rename_i d h1
      cases e
      refine ⟨F, Hs, ρ, τ, [.lst d], S, by simp only [aCons, h1, aNil], fun vs Hs' H' t r => ?_⟩
      cases r with
      | cons r rr =>
        cases rr
        cases r with
        | lst h2 r2 => exact ⟨_, _, rfl, sq_of (t.x _ _ h2), n _ _ _ t (itE h2 r2)⟩
    · cases e
theorem i_enumW (hg : Gl X "enumerate") (hm : X.mg "enumerate" = none) (he : PE X e (RdW X.K ca f)) (hs : starEach [e] X.env = [(false, eval e X.env)] := by rfl) : PI X (.Tuple elts kk tpos) (.Call (.Name "enumerate" p) [e] [] pos) (RdIW X.K ca (iEn f)) :=
  PIimp (pi_enum hg hm (aw_cons he aw_nil hs) hs) fun σ H R q => by
    obtain ⟨F, Hs, ρ, τ, ds, S, e, n⟩ := q
    unfold iEn at e
    split at e
    · rename_i d h1
      cases e
      refine ⟨F, Hs, ρ, τ, [.lst d], S, by simp only [aCons, h1, aNil], fun vs Hs' H' t r => ?_⟩
      cases r with
      | cons r rr =>
        cases rr
        obtain ⟨a, xs, rfl, h2, r2⟩ := r.lst t.x
        exact ⟨_, _, rfl, sq_of h2, n _ _ _ t (itE h2 r2)⟩
    · cases e
end
end Dv

/-! Dz -/
/-! Dz: list comprehensions; built-ins by name; equality, membership of data. -/
namespace Dv
open PySem PySem.Spec PyProof.Rows L2 Evl LamX
variable [Nm]

def tYs : TF := fun _ => some true
def wipeE (ρ : En) : List Nat → En
  | [] => ρ
  | v :: vs => (wipeE ρ vs).set v none
def lcGo (tg : Tg) (ft : TF) (fe : PF) (ρ : En) : List D → Option (List D)
  | [] => some []
  | d :: ds => (match tg.asg d ρ with
    | none => none
    | some ρ1 => (match ft ρ1 with
      | none => none
      | some true => (match fe ρ1 with
        | none => none
        | some y => (match lcGo tg ft fe ρ ds with
          | some ys => some (y :: ys)
          | none => none))
      | some false => lcGo tg ft fe ρ ds))
def fLc (it : AF) (tg : Tg) (ft : TF) (fe : PF) (ow : List Nat) : PF := fun ρ => match it ρ with
  | some ds => if szOk ds.length = true then (match lcGo tg ft fe (wipeE ρ ow) ds with
    | some ys => some (.lst ys)
    | none => none) else none
  | none => none
theorem wipeE_get {ρ : En} {i : Nat} {x : DV} : ∀ {vs : List Nat}, (wipeE ρ vs)[i]? = some (some x) → ρ[i]? = some (some x) ∧ i ∉ vs
  | [], h => ⟨h, by simp⟩
  | v :: vs, h => by
    unfold wipeE at h
    by_cases hi : v = i
    · subst hi
      by_cases hv : v < (wipeE ρ vs).length
      · rw [List.getElem?_set_self hv] at h; cases h
      · rw [List.getElem?_eq_none (by simpa using hv)] at h; cases h
    · rw [List.getElem?_set_ne hi] at h
      obtain ⟨h1, h2⟩ := wipeE_get h
      exact ⟨h1, by simp only [List.mem_cons, not_or]; exact ⟨fun e => hi e.symm, h2⟩⟩
theorem wipeE_len (ρ : En) : ∀ vs : List Nat, (wipeE ρ vs).length = ρ.length
  | [] => rfl
  | v :: vs => by unfold wipeE; rw [List.length_set, wipeE_len ρ vs]
theorem wipe_get {σ : L2.St} {i : Nat} : ∀ {vs : List Nat}, i ∉ vs → (wipe σ vs)[i]? = σ[i]?
  | [], _ => rfl
  | v :: vs, h => by
    unfold wipe
    rw [List.getElem?_set_ne (fun e => h (by rw [e]; exact List.mem_cons_self))]
    exact wipe_get fun z => h (List.mem_cons_of_mem _ z)
theorem lcGo_len {tg : Tg} {ft : TF} {fe : PF} {ρ : En} : ∀ {ds ys : List D}, lcGo tg ft fe ρ ds = some ys → ys.length ≤ ds.length
  | [], ys, h => by cases h; exact Nat.le_refl _
  | d :: ds, ys, h => by
    unfold lcGo at h
    split at h
    · cases h
    · split at h
      · cases h
      · split at h
        · cases h
        · split at h
          · rename_i q
            cases h
            exact Nat.succ_le_succ (lcGo_len q)
          · cases h
      · exact Nat.le_succ_of_le (lcGo_len h)
section
variable {K : PySem.W.Frag} {ca : CA} {F : Fx} {Hs H : Hp} {σ : L2.St} {ρ : En} {τ : List (Addr × Ob)}
theorem SR.wiped (S : SR K ca F Hs H σ ρ τ) (vs : List Nat) : SR K ca F Hs H (wipe σ vs) (wipeE ρ vs) τ :=
  S.weak (by rw [wipeE_len, wipe_length]; exact S.ln) fun i x h => ⟨(wipeE_get h).1, wipe_get (wipeE_get h).2⟩
theorem rd_lc {it : AF} {tg : Tg} {ft : TF} {fe : PF} {ow : List Nat} (hsub : ∀ i ∈ tg.slots, i ∈ ow) {Q : VK} (q : RdP K ca (fLc it tg ft fe ow) σ H Q) : tLc (RdIW K ca it) (gTg K tg) (RdT K ca ft) (RdP K ca fe) ow σ H Q := by
  obtain ⟨F, Hs, ρ, τ, d, S, e, n⟩ := q
  unfold fLc at e
  split at e
  rotate_left
  · cases e
  rename_i ds hit
  split at e
  rotate_left
  · cases e
  rename_i hsz
  split at e
  rotate_left
  · cases e
  rename_i ys hgo
  cases e
  refine ⟨F, Hs, ρ, τ, ds, S, hit, fun J Hs1 H1 t1 ok => ?_⟩
  intro D hD
  obtain ⟨G, Y, w, hG, hY⟩ := ok
  have S1 := S.go t1
  have hDs : Hs1 D = none := (S1.fresh hD).1
  refine lc_it w (fun i H' => ∃ Hs' vs zs rest, Go Hs1 H1 Hs' H' ∧ Hs' D = none ∧ H' D = some (.lst vs) ∧ RpAll K ca Hs' vs zs ∧ ys = zs ++ rest ∧ lcGo tg ft fe (wipeE ρ ow) (ds.drop i) = some rest)
    ⟨Hs1, [], [], ys, ⟨Ex.refl _, ExtN.of (Ex.new hD), t1.x.trans (Ex.new hD), fun b h1 _ => h1, th_new, id, fun q => tb_new q hD⟩, hDs, upd_same, .nil, rfl, hgo⟩
    (fun i H' hi ⟨Hs', vs, zs, rest, t, _⟩ => hG H' t.k) (fun i x H3 H4 hi hp hy => ?_) fun H' hp => ?_
  · obtain ⟨Hs3, vs, zs, rest, t3, d3, v3, r3, e3, g3⟩ := hp
    obtain ⟨Hs4, d, t4, hd, rd⟩ := hY i x Hs3 H3 H4 t3.e t3.x hi hy
    have t13 := t3.trans t4
    have dd : ds.drop i = d :: ds.drop (i + 1) := by
      rw [List.drop_eq_getElem_cons hi]
      congr 1
      rw [List.getElem?_eq_getElem hi] at hd
      exact Option.some.inj hd
    rw [dd] at g3
    unfold lcGo at g3
    have S4 := (S1.go t13).wiped ow
    split at g3
    · cases g3
    rename_i ρ1 hasg
    refine tg_ok S4 rd hasg fun σ2 S5 hw => ⟨?_, ?_⟩
    · have e1 := hw ow hsub
      have e2 : wipe (wipe σ ow) ow = wipe σ ow := by
        have key : ∀ (us : List Nat) (s : L2.St), wipe (wipe s us) us = wipe s us := by
          intro us
          induction us with
          | nil => intro s; rfl
          | cons u us ih =>
            intro s
            show (wipe ((wipe s us).set u none) us).set u none = (wipe s us).set u none
            by_cases hu : u ∈ us
            · rw [wipe_set hu, ih]
            · have k2 : ∀ (ws : List Nat) (s : L2.St), u ∉ ws → wipe (s.set u none) ws = (wipe s ws).set u none := by
                intro ws
                induction ws with
                | nil => intro s _; rfl
                | cons y ws ih2 =>
                  intro s hn
                  have n1 : u ≠ y := fun z => hn (by rw [z]; exact List.mem_cons_self)
                  have n2 : u ∉ ws := fun z => hn (List.mem_cons_of_mem _ z)
                  show (wipe (s.set u none) ws).set y none = ((wipe s ws).set y none).set u none
                  rw [ih2 s n2]
                  exact List.set_comm _ _ n1
              rw [k2 us _ hu, ih, List.set_set]
        exact key ow σ
      rw [e1, e2]
    · split at g3
      · cases g3
      · rename_i hft
        refine RdT.intro S5 hft fun Hs6 H6 t6 => ?_
        rw [if_pos rfl]
        split at g3
        · cases g3
        rename_i y hfe
        split at g3
        · rename_i rest' hr
          cases g3
          refine RdP.intro (S5.go t6) hfe fun v Hs7 H7 t7 r7 => ?_
          have tt := t4.trans (t6.trans t7)
          have h3n : H3 D ≠ none := by rw [v3]; exact Option.some_ne_none _
          have d7 : Hs7 D = none := tt.n D d3 h3n
          have hl : vs.length < sizeLine := by
            rw [r3.len]
            have h1 := lcGo_len hgo
            rw [e3, List.length_append, List.length_cons] at h1
            have h2 : ds.length ≤ 100000 := of_decide_eq_true hsz
            exact sz_lt (by omega)
          refine ⟨vs, tt.k D _ v3 nt_lst, hl, Hs7, vs ++ [v], zs ++ [y], rest', ?_, d7, upd_same, (r3.mono tt.e).app (.one r7), by rw [e3]; simp, hr⟩
          have tf := t3.trans tt
          refine ⟨tf.e, fun b u hb hn => ?_, fun b u hb => ?_, fun b h1 h2 => tf.n b h1 h2, fun b hb => th_new b (tf.th b hb), tf.nt, fun hb => tb_put (tf.tb hb) (tt.k D _ v3 nt_lst) nt_lst fun _ _ z => nomatch z⟩
          · rw [upd_ne (fun z => by rw [z, hD] at hb; cases hb)]
            exact tf.k b u hb hn
          · rw [upd_ne (fun z => by rw [z, d7] at hb; cases hb)]
            exact tf.x b u hb
        · cases g3
      · rename_i hft
        refine RdT.intro S5 hft fun Hs6 H6 t6 => ?_
        rw [if_neg Bool.false_ne_true]
        have tt := t4.trans t6
        have h3n : H3 D ≠ none := by rw [v3]; exact Option.some_ne_none _
        exact ⟨Hs6, vs, zs, rest, t3.trans tt, tt.n D d3 h3n, tt.k D _ v3 nt_lst, r3.mono tt.e, e3, g3⟩
  · obtain ⟨Hs', vs, zs, rest, t, d', v', r', e', g'⟩ := hp
    rw [List.drop_length] at g'
    cases g'
    rw [List.append_nil] at e'
    subst e'
    -- the new list is shared from now on
    have tf := t1.trans t
    have ed : Ex Hs' (upd Hs' D (.lst vs)) := Ex.new d'
    refine n _ (upd Hs' D (.lst vs)) H' ⟨tf.e.trans ed, tf.k, ex_share d' v' t.x, fun b h1 h2 => ?_, tf.th, fun q => (tf.nt q).upd nt_lst, tf.tb⟩ (.lst upd_same (r'.mono ed))
    have hb : b ≠ D := fun z => by
      rw [z] at h2
      cases q : H D with
      | none => exact h2 q
      | some u => exact absurd hD (t1.th D (by rw [q]; exact Option.some_ne_none _))
    rw [upd_ne hb]
    exact tf.n b h1 h2
end
section
variable {X : Cx} {ca : CA}
theorem t_yes : RdT X.K ca tYs = RdT X.K ca tYs := rfl
theorem ts_nil : PTs X [] (RdT X.K ca tYs) := ⟨fun pins s σ H Q I q => by
  obtain ⟨F, Hs, ρ, τ, b, S, e, n⟩ := q
  cases e
  exact pts_nil.run pins s σ H Q I (n Hs H (Go.refl S.ex))⟩
theorem ts_one {c : Expr} {t : TF} (h : PT X c (RdT X.K ca t)) : PTs X [c] (RdT X.K ca t) := pts_one h
theorem d_lc {elt tg iter : Expr} {ifs : List Expr} {scope : Scope} {own : List (Str × Nat)} {pos : Pos} {it : AF} {g : Tg} {ft : TF} {fe : PF} (hc : X.calm = true) (hN : X.N.Nodup) (hi : PI X tg iter (RdIW X.K ca it)) (ok : BlkOk X.N X.env.scope scope own)
    (hg : ∀ (s : Shared) (H : Hp) (C : Addr) (cl : List (Str × Addr)) (fp : List Addr), PG (X.blk s H scope (compEnvC scope cl C X.env) fp) tg (gTg X.K g)) (ht : ∀ (s : Shared) (H : Hp) (C : Addr) (cl : List (Str × Addr)) (fp : List Addr), PTs (X.blk s H scope (compEnvC scope cl C X.env) fp) ifs (RdT X.K ca ft))
    (he : ∀ (s : Shared) (H : Hp) (C : Addr) (cl : List (Str × Addr)) (fp : List Addr), PE (X.blk s H scope (compEnvC scope cl C X.env) fp) elt (RdP X.K ca fe)) (hsub : ∀ i ∈ g.slots, i ∈ own.map (·.2)) (hs : ∀ x, foldedSetIterable iter X.env x = pure x := by intro _; rfl) :
    PE X (.ListComp elt [⟨tg, iter, ifs, 0⟩] scope pos) (RdP X.K ca (fLc it g ft fe (own.map (·.2)))) := PEimp (pe_lc hc hN hi ok hg ht he hs) fun _ _ _ q => rd_lc hsub q
end

/-! ### equality and membership of data -/
mutual
def toPy : D → Option PyData
  | .non => some .none
  | .bl b => some (.bool b)
  | .int i => some (.int i)
  | .str x => some (.str x)
  | .lst ds => (toPys ds).map .list
  | .tup ds => (toPys ds).map .tuple
  | _ => none
def toPys : List D → Option (List PyData)
  | [] => some []
  | d :: ds => (match toPy d with
    | some p => (toPys ds).map (p :: ·)
    | none => none)
end
mutual
theorem rp_dp {K : PySem.W.Frag} {ca : CA} {H : Hp} : ∀ {v : V} {d : D} {p : PyData}, Rp K ca H v d → toPy d = some p → Dp K H v p
  | _, _, _, .non, h => by simp only [toPy, Option.some.injEq] at h; subst h; exact .non
  | _, _, _, .bl b, h => by simp only [toPy, Option.some.injEq] at h; subst h; exact .bl b
  | _, _, _, .int b, h => by simp only [toPy, Option.some.injEq] at h; subst h; exact .int b
  | _, _, _, .str b, h => by simp only [toPy, Option.some.injEq] at h; subst h; exact .str b
  | _, _, _, .lst h1 h2, h => by
    simp only [toPy, Option.map_eq_some_iff] at h
    obtain ⟨ps, h3, rfl⟩ := h
    exact .lst (sq_of h1) (rp_dps h2 h3)
  | _, _, _, .tup h1 h2, h => by
    simp only [toPy, Option.map_eq_some_iff] at h
    obtain ⟨ps, h3, rfl⟩ := h
    exact .tup (st_of h1) (rp_dps h2 h3)
  | _, _, _, .ins _ _, h => by simp [toPy] at h
  | _, _, _, .dic _ _, h => by simp [toPy] at h
  | _, _, _, .dit _ _, h => by simp [toPy] at h
  | _, _, _, .scr _, h => by simp [toPy] at h
theorem rp_dps {K : PySem.W.Frag} {ca : CA} {H : Hp} : ∀ {vs : List V} {ds : List D} {ps : List PyData}, RpAll K ca H vs ds → toPys ds = some ps → DpAll K H vs ps
  | _, _, _, .nil, h => by simp only [toPys, Option.some.injEq] at h; subst h; exact .nil
  | _, _, _, .cons h1 h2, h => by
    unfold toPys at h
    split at h
    · rename_i p hp
      simp only [Option.map_eq_some_iff] at h
      obtain ⟨ps, h3, rfl⟩ := h
      exact .cons (rp_dp h1 hp) (rp_dps h2 h3)
    · cases h
end
def pyS (d : D) : Option PyData := match toPy d with
  | some p => if SeqAt.shaped p = true then some p else none
  | none => none
def gEq : G2 := fun a b => match pyS a, pyS b with
  | some p, some q => some (.bl (PyData.eqv p q))
  | _, _ => none
def gNe : G2 := fun a b => match pyS a, pyS b with
  | some p, some q => some (.bl (!PyData.eqv p q))
  | _, _ => none
def gInL : G2 := fun a b => match pyS a, b with
  | some p, .lst ds => (match pyS (.lst ds) with
    | some (.list ps) => some (.bl (ps.any fun z => PyData.eqv z p))
    | _ => none)
  | _, _ => none
def gNiL : G2 := fun a b => match pyS a, b with
  | some p, .lst ds => (match pyS (.lst ds) with
    | some (.list ps) => some (.bl (!ps.any fun z => PyData.eqv z p))
    | _ => none)
  | _, _ => none
def gInS : G2
  | .str i, .str j => some (.bl (!(Builtin.Str.occurrences j i 0 j.length 1).isEmpty))
  | _, _ => none
def gNiS : G2
  | .str i, .str j => some (.bl (!(!(Builtin.Str.occurrences j i 0 j.length 1).isEmpty)))
  | _, _ => none
def gIn : G2 := fun a b => match gInL a b with
  | some d => some d
  | none => gInS a b
def gNi : G2 := fun a b => match gNiL a b with
  | some d => some d
  | none => gNiS a b
def isNon : D → Bool
  | .non => true
  | .raw v => decide (v = .non)
  | _ => false
def gIsN : G2 := fun a b => match b with
  | .non => some (.bl (isNon a))
  | _ => none
def gNotN : G2 := fun a b => match b with
  | .non => some (.bl (!isNon a))
  | _ => none
def gIsB : G2
  | .bl a, .bl b => some (.bl (decide (a = b)))
  | _, _ => none
def gNotB : G2
  | .bl a, .bl b => some (.bl (!decide (a = b)))
  | _, _ => none
def gIs : G2 := fun a b => match gIsN a b with
  | some d => some d
  | none => gIsB a b
def gIsNot : G2 := fun a b => match gNotN a b with
  | some d => some d
  | none => gNotB a b
section
variable {K : PySem.W.Frag} {ca : CA} {Hs H : Hp} {v : V} {d : D}
theorem pyS_dp {p : PyData} (x : Ex Hs H) (w : WR K ca Hs H v d) (h : pyS d = some p) : Dp K H v p ∧ SeqAt.shaped p = true := by
  unfold pyS at h
  split at h
  · rename_i p' hp
    split at h
    · rename_i c
      cases h
      exact ⟨rp_dp (w.rp x) hp, c⟩
    · cases h
  · cases h
theorem okEq : OkG K ca (rEqD K) gEq := fun F Hs H σ ρ τ x y dx dy d Q S wx wy e n => by
  unfold gEq at e
  split at e
  · rename_i p q h1 h2
    cases e
    obtain ⟨a1, a2⟩ := pyS_dp S.ex wx h1
    obtain ⟨b1, b2⟩ := pyS_dp S.ex wy h2
    exact ⟨p, q, a1, b1, a2, b2, n.here S.ex (.bl _)⟩
  · cases e
theorem okNe : OkG K ca (rNeD K) gNe := fun F Hs H σ ρ τ x y dx dy d Q S wx wy e n => by
  unfold gNe at e
  split at e
  · rename_i p q h1 h2
    cases e
    obtain ⟨a1, a2⟩ := pyS_dp S.ex wx h1
    obtain ⟨b1, b2⟩ := pyS_dp S.ex wy h2
    exact ⟨p, q, a1, b1, a2, b2, n.here S.ex (.bl _)⟩
  · cases e
theorem okInL : OkG K ca (rInD K) gInL := fun F Hs H σ ρ τ x y dx dy d Q S wx wy e n => by
  unfold gInL at e
  split at e
  · rename_i p ds h1
    split at e
    · rename_i ps h2
      cases e
      obtain ⟨a1, a2⟩ := pyS_dp S.ex wx h1
      obtain ⟨b1, b2⟩ := pyS_dp S.ex wy h2
      exact ⟨p, ps, a1, b1, a2, b2, n.here S.ex (.bl _)⟩
    · cases e
  · cases e
theorem okNiL : OkG K ca (rNotInD K) gNiL := fun F Hs H σ ρ τ x y dx dy d Q S wx wy e n => by
  unfold gNiL at e
  split at e
  · rename_i p ds h1
    split at e
    · rename_i ps h2
      cases e
      obtain ⟨a1, a2⟩ := pyS_dp S.ex wx h1
      obtain ⟨b1, b2⟩ := pyS_dp S.ex wy h2
      exact ⟨p, ps, a1, b1, a2, b2, n.here S.ex (.bl _)⟩
    · cases e
  · cases e
theorem okInS : OkG K ca (fun x y H Q => ∃ i j, x = .str i ∧ y = .str j ∧ Q (.bl (!(Builtin.Str.occurrences j i 0 j.length 1).isEmpty)) H) gInS := fun F Hs H σ ρ τ x y dx dy d Q S wx wy e n => by
  unfold gInS at e
  split at e
  · cases e
    obtain rfl := wx.str
    obtain rfl := wy.str
    exact ⟨_, _, rfl, rfl, n.here S.ex (.bl _)⟩
  · cases e
theorem okNiS : OkG K ca (fun x y H Q => ∃ i j, x = .str i ∧ y = .str j ∧ Q (.bl (!(!(Builtin.Str.occurrences j i 0 j.length 1).isEmpty))) H) gNiS := fun F Hs H σ ρ τ x y dx dy d Q S wx wy e n => by
  unfold gNiS at e
  split at e
  · cases e
    obtain rfl := wx.str
    obtain rfl := wy.str
    exact ⟨_, _, rfl, rfl, n.here S.ex (.bl _)⟩
  · cases e
theorem non_iff (w : WR K ca Hs H v d) : decide (v = .non) = isNon d := by
  rcases w with w | ⟨a, xs, ds, rfl, rfl, _, _⟩
  · cases w <;> rfl
  · cases ds <;> rfl
theorem okIsN : OkG K ca (fun x y H Q => y = .non ∧ Q (.bl (decide (x = .non))) H) gIsN := fun F Hs H σ ρ τ x y dx dy d Q S wx wy e n => by
  unfold gIsN at e
  split at e
  · refine ⟨wy.non, n.here S.ex ?_⟩
    rw [non_iff wx]
    cases e
    exact .bl _
  · cases e
theorem okNotN : OkG K ca (fun x y H Q => y = .non ∧ Q (.bl (!decide (x = .non))) H) gNotN := fun F Hs H σ ρ τ x y dx dy d Q S wx wy e n => by
  unfold gNotN at e
  split at e
  · refine ⟨wy.non, n.here S.ex ?_⟩
    rw [non_iff wx]
    cases e
    exact .bl _
  · cases e
theorem okIsB : OkG K ca rIsB gIsB := fun F Hs H σ ρ τ x y dx dy d Q S wx wy e n => by
  unfold gIsB at e
  split at e
  · cases e
    exact ⟨_, _, wx.bl, wy.bl, n.here S.ex (.bl _)⟩
  · cases e
theorem okNotB : OkG K ca rNotB gNotB := fun F Hs H σ ρ τ x y dx dy d Q S wx wy e n => by
  unfold gNotB at e
  split at e
  · cases e
    exact ⟨_, _, wx.bl, wy.bl, n.here S.ex (.bl _)⟩
  · cases e
end
section
variable {X : Cx} {ca : CA} {a b : Expr} {fa fb : PF} {pos : Pos}
theorem d_eq (hu : X.A.units + 64 < cLine) (ha : PE X a (RdW X.K ca fa)) (hb : PE X b (RdW X.K ca fb)) : PE X (.Compare a [.Eq] [b] pos) (RdP X.K ca (fOp gEq fa fb)) := d_cmp (op_eqD hu) okEq ha hb (nomark _)
theorem d_ne (hu : X.A.units + 64 < cLine) (ha : PE X a (RdW X.K ca fa)) (hb : PE X b (RdW X.K ca fb)) : PE X (.Compare a [.NotEq] [b] pos) (RdP X.K ca (fOp gNe fa fb)) := d_cmp (op_neD hu) okNe ha hb (nomark _)
theorem d_teq (hu : X.A.units + 64 < cLine) (ha : PE X a (RdW X.K ca fa)) (hb : PE X b (RdW X.K ca fb)) : PT X (.Compare a [.Eq] [b] pos) (RdT X.K ca (tB' (fOp gEq fa fb))) := d_tcmp (op_eqD hu) okEq ha hb (nomark _)
theorem d_tne (hu : X.A.units + 64 < cLine) (ha : PE X a (RdW X.K ca fa)) (hb : PE X b (RdW X.K ca fb)) : PT X (.Compare a [.NotEq] [b] pos) (RdT X.K ca (tB' (fOp gNe fa fb))) := d_tcmp (op_neD hu) okNe ha hb (nomark _)
theorem d_in (hu : X.A.units + 65 < cLine) (ha : PE X a (RdW X.K ca fa)) (hb : PE X b (RdW X.K ca fb)) (hm : behindInMarks .In b = false := by rfl) : PE X (.Compare a [.In] [b] pos) (RdP X.K ca (fOp gIn fa fb)) := d_cmp ((op_inD hu).or op_in_str) (okInL.or okInS) ha hb hm
theorem d_ni (hu : X.A.units + 65 < cLine) (ha : PE X a (RdW X.K ca fa)) (hb : PE X b (RdW X.K ca fb)) (hm : behindInMarks .NotIn b = false := by rfl) : PE X (.Compare a [.NotIn] [b] pos) (RdP X.K ca (fOp gNi fa fb)) := d_cmp ((op_notInD hu).or op_notin_str) (okNiL.or okNiS) ha hb hm
theorem d_tin (hu : X.A.units + 65 < cLine) (ha : PE X a (RdW X.K ca fa)) (hb : PE X b (RdW X.K ca fb)) (hm : behindInMarks .In b = false := by rfl) : PT X (.Compare a [.In] [b] pos) (RdT X.K ca (tB' (fOp gIn fa fb))) := d_tcmp ((op_inD hu).or op_in_str) (okInL.or okInS) ha hb hm
theorem d_tni (hu : X.A.units + 65 < cLine) (ha : PE X a (RdW X.K ca fa)) (hb : PE X b (RdW X.K ca fb)) (hm : behindInMarks .NotIn b = false := by rfl) : PT X (.Compare a [.NotIn] [b] pos) (RdT X.K ca (tB' (fOp gNi fa fb))) := d_tcmp ((op_notInD hu).or op_notin_str) (okNiL.or okNiS) ha hb hm
theorem d_is (ha : PE X a (RdW X.K ca fa)) (hb : PE X b (RdW X.K ca fb)) : PE X (.Compare a [.Is] [b] pos) (RdP X.K ca (fOp gIs fa fb)) := d_cmp (op_isN.or op_isBl) (okIsN.or okIsB) ha hb (nomark _)
theorem d_isnot (ha : PE X a (RdW X.K ca fa)) (hb : PE X b (RdW X.K ca fb)) : PE X (.Compare a [.IsNot] [b] pos) (RdP X.K ca (fOp gIsNot fa fb)) := d_cmp (op_notN.or op_notBl) (okNotN.or okNotB) ha hb (nomark _)
theorem d_tis (ha : PE X a (RdW X.K ca fa)) (hb : PE X b (RdW X.K ca fb)) : PT X (.Compare a [.Is] [b] pos) (RdT X.K ca (tB' (fOp gIs fa fb))) := d_tcmp (op_isN.or op_isBl) (okIsN.or okIsB) ha hb (nomark _)
theorem d_tisnot (ha : PE X a (RdW X.K ca fa)) (hb : PE X b (RdW X.K ca fb)) : PT X (.Compare a [.IsNot] [b] pos) (RdT X.K ca (tB' (fOp gIsNot fa fb))) := d_tcmp (op_notN.or op_notBl) (okNotN.or okNotB) ha hb (nomark _)
end
end Dv

/-! Ea -/
/-! Ea: expressions that change what is owned; what is new. -/
namespace Dv
open PySem PySem.Spec PyProof.Rows L2 Evl LamX
variable [Nm]

abbrev SF := En → Option (D × En)
abbrev NF' := En → Option (Ob × En)
abbrev STF := En → Option (Bool × En)
def RdI (K : PySem.W.Frag) (ca : CA) (f : SF) : TE := fun σ H Q => ∃ F Hs ρ τ d ρ', SR K ca F Hs H σ ρ τ ∧ f ρ = some (d, ρ') ∧
  ∀ v Hs' H', Ex Hs Hs' → SR K ca F Hs' H' σ ρ' τ → Rp K ca Hs' v d → Q v H'
def RdN (K : PySem.W.Frag) (ca : CA) (f : NF') : TE := fun σ H Q => ∃ F Hs ρ τ o ρ', SR K ca F Hs H σ ρ τ ∧ f ρ = some (o, ρ') ∧
  ∀ a Hs' H', Ex Hs Hs' → SR K ca F Hs' H' σ ρ' ((a, o) :: τ) → Q (.ref a) H'
def RdTI (K : PySem.W.Frag) (ca : CA) (f : STF) : TT := fun σ H Q => ∃ F Hs ρ τ b ρ', SR K ca F Hs H σ ρ τ ∧ f ρ = some (b, ρ') ∧
  ∀ Hs' H', Ex Hs Hs' → SR K ca F Hs' H' σ ρ' τ → Q b H'
/-- pure as it is -/
def sP (p : PF) : SF := fun ρ => match p ρ with
  | some d => some (d, ρ)
  | none => none
def sT (t : TF) : STF := fun ρ => match t ρ with
  | some b => some (b, ρ)
  | none => none
/-- an owned name, from now on shared -/
def sFrz (i : Nat) : SF := fun ρ => match ρ[i]? with
  | some (some (.sh d)) => some (d, ρ)
  | some (some (.own false o)) => some (o.d, ρ.set i (some (.sh o.d)))
  | _ => none
def sOp (g : G2) (fa fb : SF) : SF := fun ρ => match fa ρ with
  | some (a, ρ1) => (match fb ρ1 with
    | some (b, ρ2) => (match g a b with
      | some d => some (d, ρ2)
      | none => none)
    | none => none)
  | none => none
def sB (f : SF) : STF := fun ρ => match f ρ with
  | some (.bl b, ρ') => some (b, ρ')
  | _ => none
def sAn (t u : STF) : STF := fun ρ => match t ρ with
  | some (true, ρ') => u ρ'
  | x => x
def sOr (t u : STF) : STF := fun ρ => match t ρ with
  | some (false, ρ') => u ρ'
  | x => x
def sNt (t : STF) : STF := fun ρ => match t ρ with
  | some (b, ρ') => some (!b, ρ')
  | none => none
def sIf (t : STF) (fa fb : SF) : SF := fun ρ => match t ρ with
  | some (true, ρ') => fa ρ'
  | some (false, ρ') => fb ρ'
  | none => none
/-- a new thing that is shared at once -/
def sNew (f : NF') : SF := fun ρ => match f ρ with
  | some (o, ρ') => some (o.d, ρ')
  | none => none
/-- what a pure expression makes of nothing that was there: a list of its own -/
def nLst (f : AF) : NF' := fun ρ => match f ρ with
  | some ds => if szOk ds.length = true then some (.lst ds, ρ) else none
  | none => none
section
variable {K : PySem.W.Frag} {ca : CA} {F : Fx} {Hs Hs' H H' : Hp} {σ : L2.St} {ρ ρ' : En} {τ : List (Addr × Ob)} {d : D}
theorem RdI.intro {f : SF} {Q : VK} (S : SR K ca F Hs H σ ρ τ) (h : f ρ = some (d, ρ')) (n : ∀ v Hs' H', Ex Hs Hs' → SR K ca F Hs' H' σ ρ' τ → Rp K ca Hs' v d → Q v H') : RdI K ca f σ H Q := ⟨F, Hs, ρ, τ, d, ρ', S, h, n⟩
theorem RdTI.intro {f : STF} {b : Bool} {Q : Bool → Hp → Prop} (S : SR K ca F Hs H σ ρ τ) (h : f ρ = some (b, ρ')) (n : ∀ Hs' H', Ex Hs Hs' → SR K ca F Hs' H' σ ρ' τ → Q b H') : RdTI K ca f σ H Q := ⟨F, Hs, ρ, τ, b, ρ', S, h, n⟩
end
section
variable {X : Cx} {ca : CA} {a b e : Expr} {p : PF} {fa fb f : SF} {t u : STF} {pos : Pos} {rest : List Expr}
theorem s_pure (h : PE X e (RdP X.K ca p)) : PE X e (RdI X.K ca (sP p)) := PEimp h fun σ H Q q => by
  obtain ⟨F, Hs, ρ, τ, d, ρ', S, e, n⟩ := q
  unfold sP at e
  split at e
  · rename_i d h
    cases e
    exact RdP.intro S h fun v Hs' H' t r => n v Hs' H' t.e (S.go t) r
  · cases e
theorem s_tpure {t : TF} (h : PT X e (RdT X.K ca t)) : PT X e (RdTI X.K ca (sT t)) := PTimp h fun σ H Q q => by
  obtain ⟨F, Hs, ρ, τ, d, ρ', S, e, n⟩ := q
  unfold sT at e
  split at e
  · rename_i d h
    cases e
    exact RdT.intro S h fun Hs' H' t => n Hs' H' t.e (S.go t)
  · cases e
theorem s_frz {i : Nat} (h : PE X e (tVar i)) : PE X e (RdI X.K ca (sFrz i)) := PEimp h fun σ H Q q => by
  obtain ⟨F, Hs, ρ, τ, d, ρ', S, e, n⟩ := q
  unfold sFrz at e
  split at e
  · rename_i d h
    cases e
    obtain ⟨v, hv, r⟩ := S.sl i _ h
    exact ⟨v, hv, n v Hs H (Ex.refl _) S r⟩
  · rename_i o h
    cases e
    obtain ⟨Hs', a, S', e', hv, r⟩ := S.freezeS h
    exact ⟨_, hv, n _ Hs' H e' S' r⟩
  · cases e
theorem rd_opI {K : PySem.W.Frag} {r : R2} {g : G2} (ok : OkG K ca r g) {σ : L2.St} {H : Hp} {Q : VK} (q : RdI K ca (sOp g fa fb) σ H Q) : tOp r (RdI K ca fa) (RdI K ca fb) σ H Q := by
  obtain ⟨F, Hs, ρ, τ, d, ρ', S, e, n⟩ := q
  unfold sOp at e
  split at e
  · rename_i x ρ1 h1
    split at e
    · rename_i y ρ2 h2
      split at e
      · rename_i z h3
        cases e
        refine RdI.intro S h1 fun v1 Hs1 H1 e1 S1 r1 => ?_
        refine RdI.intro S1 h2 fun v2 Hs2 H2 e2 S2 r2 => ?_
        exact ok F Hs2 H2 σ _ τ v1 v2 x y d Q S2 (.inl (r1.mono e2)) (.inl r2) h3 fun v Hs3 H3 t r3 => n v Hs3 H3 ((e1.trans e2).trans t.e) (S2.go t) r3
      · cases e
    · cases e
  · cases e
theorem s_op {op : Operator} {r : R2} {g : G2} (ho : OpR X (binaryOp op) r) (ok : OkG X.K ca r g) (ha : PE X a (RdI X.K ca fa)) (hb : PE X b (RdI X.K ca fb)) : PE X (.BinOp a op b pos) (RdI X.K ca (sOp g fa fb)) := PEimp (pe_op ho ha hb) fun _ _ _ q => rd_opI ok q
theorem s_add (ha : PE X a (RdI X.K ca fa)) (hb : PE X b (RdI X.K ca fb)) : PE X (.BinOp a .Add b pos) (RdI X.K ca (sOp gAdd fa fb)) := s_op (op_add.or (op_add_str.or op_cat)) ((okI0 fun _ _ => rfl).or (okAddS.or okAddL)) ha hb
theorem s_sub (ha : PE X a (RdI X.K ca fa)) (hb : PE X b (RdI X.K ca fb)) : PE X (.BinOp a .Sub b pos) (RdI X.K ca (sOp gSub fa fb)) := s_op op_sub (okI0 fun _ _ => rfl) ha hb
theorem s_ix (ha : PE X a (RdI X.K ca fa)) (hb : PE X b (RdI X.K ca fb)) (hs : PlainIx b) : PE X (.Subscript a b pos) (RdI X.K ca (sOp gIx fa fb)) := PEimp (pe_ix ix_seq ha hb hs) fun _ _ _ q => rd_opI okIx q
theorem s_tcmp {op : CmpOp} {r : R2} {g : G2} (ho : OpR X (compareOp op) r) (ok : OkG X.K ca r g) (ha : PE X a (RdI X.K ca fa)) (hb : PE X b (RdI X.K ca fb)) (hm : behindInMarks op b = false) : PT X (.Compare a [op] [b] pos) (RdTI X.K ca (sB (sOp g fa fb))) :=
  PTimp (pt_cmpR ho ha hb hm) fun σ H Q q => by
    obtain ⟨F, Hs, ρ, τ, b, ρ', S, e, n⟩ := q
    unfold sB at e
    split at e
    · rename_i c ρ1 h
      cases e
      refine rd_opI ok (RdI.intro S h fun v Hs' H' e1 S' r => ?_)
      cases r
      exact ⟨b, rfl, n Hs' H' e1 S'⟩
    · cases e
theorem s_teq (hu : X.A.units + 64 < cLine) (ha : PE X a (RdI X.K ca fa)) (hb : PE X b (RdI X.K ca fb)) : PT X (.Compare a [.Eq] [b] pos) (RdTI X.K ca (sB (sOp gEq fa fb))) := s_tcmp (op_eqD hu) okEq ha hb (nomark _)
theorem s_tne (hu : X.A.units + 64 < cLine) (ha : PE X a (RdI X.K ca fa)) (hb : PE X b (RdI X.K ca fb)) : PT X (.Compare a [.NotEq] [b] pos) (RdTI X.K ca (sB (sOp gNe fa fb))) := s_tcmp (op_neD hu) okNe ha hb (nomark _)
theorem s_tnot (ha : PT X a (RdTI X.K ca t)) : PT X (.UnaryOp .Not a pos) (RdTI X.K ca (sNt t)) := PTimp (pt_not ha) fun σ H Q q => by
  obtain ⟨F, Hs, ρ, τ, b, ρ', S, e, n⟩ := q
  unfold sNt at e
  split at e
  · rename_i c ρ1 h
    cases e
    exact RdTI.intro S h n
  · cases e
theorem s_wand1 (ha : PT X a (RdTI X.K ca t)) : PW X (.BoolOp .And [a] pos) (RdTI X.K ca t) := pw_and1 ha
theorem s_wor1 (ha : PT X a (RdTI X.K ca t)) : PW X (.BoolOp .Or [a] pos) (RdTI X.K ca t) := pw_or1 ha
theorem s_wand (ha : PT X a (RdTI X.K ca t)) (hb : PW X (.BoolOp .And (b :: rest) pos) (RdTI X.K ca u)) : PW X (.BoolOp .And (a :: b :: rest) pos) (RdTI X.K ca (sAn t u)) := PWimp (pw_and ha hb) fun σ H Q q => by
  obtain ⟨F, Hs, ρ, τ, b, ρ', S, e, n⟩ := q
  unfold sAn at e
  split at e
  · rename_i ρ1 h
    refine RdTI.intro S h fun Hs' H' e1 S' => ?_
    rw [if_pos rfl]
    exact RdTI.intro S' e fun Hs2 H2 e2 S2 => n Hs2 H2 (e1.trans e2) S2
  · rename_i hne
    refine RdTI.intro S e fun Hs' H' e1 S' => ?_
    cases b with
    | true => exact absurd e (hne ρ')
    | false => rw [if_neg Bool.false_ne_true]; exact n Hs' H' e1 S'
theorem s_wor (ha : PT X a (RdTI X.K ca t)) (hb : PW X (.BoolOp .Or (b :: rest) pos) (RdTI X.K ca u)) : PW X (.BoolOp .Or (a :: b :: rest) pos) (RdTI X.K ca (sOr t u)) := PWimp (pw_or ha hb) fun σ H Q q => by
  obtain ⟨F, Hs, ρ, τ, b, ρ', S, e, n⟩ := q
  unfold sOr at e
  split at e
  · rename_i ρ1 h
    refine RdTI.intro S h fun Hs' H' e1 S' => ?_
    rw [if_neg Bool.false_ne_true]
    exact RdTI.intro S' e fun Hs2 H2 e2 S2 => n Hs2 H2 (e1.trans e2) S2
  · rename_i hne
    refine RdTI.intro S e fun Hs' H' e1 S' => ?_
    cases b with
    | false => exact absurd e (hne ρ')
    | true => rw [if_pos rfl]; exact n Hs' H' e1 S'
theorem s_if {c : Expr} (hc : PT X c (RdTI X.K ca t)) (ha : PE X a (RdI X.K ca fa)) (hb : PE X b (RdI X.K ca fb)) : PE X (.IfExp c a b pos) (RdI X.K ca (sIf t fa fb)) := PEimp (pe_ifExp hc ha hb) fun σ H Q q => by
  obtain ⟨F, Hs, ρ, τ, d, ρ', S, e, n⟩ := q
  unfold sIf at e
  split at e
  · rename_i ρ1 h
    exact RdTI.intro S h fun Hs' H' e1 S' => by rw [if_pos rfl]; exact RdI.intro S' e fun v Hs2 H2 e2 S2 r => n v Hs2 H2 (e1.trans e2) S2 r
  · rename_i ρ1 h
    exact RdTI.intro S h fun Hs' H' e1 S' => by rw [if_neg Bool.false_ne_true]; exact RdI.intro S' e fun v Hs2 H2 e2 S2 r => n v Hs2 H2 (e1.trans e2) S2 r
  · cases e
theorem s_new {f : NF'} (h : PE X e (RdN X.K ca f)) : PE X e (RdI X.K ca (sNew f)) := PEimp h fun σ H Q q => by
  obtain ⟨F, Hs, ρ, τ, d, ρ', S, e, n⟩ := q
  unfold sNew at e
  split at e
  · rename_i o ρ1 h
    cases e
    refine ⟨F, Hs, ρ, τ, o, ρ', S, h, fun a Hs' H' e1 S' => ?_⟩
    obtain ⟨Hs2, S2, e2, r⟩ := S'.freezeT
    exact n _ Hs2 H' (e1.trans e2) S2 r
  · cases e
/-! arguments -/
abbrev SAF := En → Option (List D × En)
def RdAI (K : PySem.W.Frag) (ca : CA) (f : SAF) : TA := fun σ H Q => ∃ F Hs ρ τ ds ρ', SR K ca F Hs H σ ρ τ ∧ f ρ = some (ds, ρ') ∧
  ∀ vs Hs' H', Ex Hs Hs' → SR K ca F Hs' H' σ ρ' τ → RpAll K ca Hs' vs ds → Q vs H'
def saNil : SAF := fun ρ => some ([], ρ)
def saCons (f : SF) (r : SAF) : SAF := fun ρ => match f ρ with
  | some (d, ρ1) => (match r ρ1 with
    | some (ds, ρ2) => some (d :: ds, ρ2)
    | none => none)
  | none => none
theorem sa_nil : PA X [] (RdAI X.K ca saNil) := PAimp pa_nil fun σ H Q q => by
  obtain ⟨F, Hs, ρ, τ, d, ρ', S, e, n⟩ := q
  cases e
  exact n [] Hs H (Ex.refl _) S .nil
theorem sa_cons {es : List Expr} {r : SAF} (he : PE X e (RdI X.K ca f)) (hr : PA X es (RdAI X.K ca r)) (hs : starEach (e :: es) X.env = (false, eval e X.env) :: starEach es X.env := by rfl) : PA X (e :: es) (RdAI X.K ca (saCons f r)) := PAimp (pa_cons he hr hs) fun σ H Q q => by
  obtain ⟨F, Hs, ρ, τ, d, ρ', S, e, n⟩ := q
  unfold saCons at e
  split at e
  · rename_i x ρ1 h1
    split at e
    · rename_i xs ρ2 h2
      cases e
      refine RdI.intro S h1 fun v Hs1 H1 e1 S1 r1 => ?_
      exact ⟨F, Hs1, ρ1, τ, xs, ρ', S1, h2, fun vs Hs2 H2 e2 S2 r2 => n (v :: vs) Hs2 H2 (e1.trans e2) S2 (.cons (r1.mono e2) r2)⟩
    · cases e
  · cases e
def sTup (f : SAF) : SF := fun ρ => match f ρ with
  | some (ds, ρ') => if szOk ds.length = true then some (.tup ds, ρ') else none
  | none => none
def nLstI (f : SAF) : NF' := fun ρ => match f ρ with
  | some (ds, ρ') => if szOk ds.length = true then some (.lst ds, ρ') else none
  | none => none
theorem s_tup {es : List Expr} {r : SAF} {x1} (h : PA X es (RdAI X.K ca r)) : PE X (.Tuple es x1 pos) (RdI X.K ca (sTup r)) := PEimp (pe_tup h) fun σ H Q q => by
  obtain ⟨F, Hs, ρ, τ, d, ρ', S, e, n⟩ := q
  unfold sTup at e
  split at e
  · rename_i ds ρ1 h1
    split at e
    · rename_i c
      cases e
      exact ⟨F, Hs, ρ, τ, ds, _, S, h1, fun vs Hs1 H1 e1 S1 r1 => ⟨by rw [r1.len]; exact szOk_le c, fun p hp => by
        have t : Go Hs1 H1 (upd Hs1 p (.tup vs)) (upd H1 p (.tup vs)) := Go.alloc S1.ex nt_tup hp
        exact n _ _ _ (e1.trans t.e) (S1.go t) (.tup upd_same (r1.mono t.e))⟩⟩
    · cases e
  · cases e
theorem n_lst {es : List Expr} {r : SAF} (h : PA X es (RdAI X.K ca r)) : PE X (.List es pos) (RdN X.K ca (nLstI r)) := PEimp (pe_lst h) fun σ H Q q => by
  obtain ⟨F, Hs, ρ, τ, d, ρ', S, e, n⟩ := q
  unfold nLstI at e
  split at e
  · rename_i ds ρ1 h1
    split at e
    · rename_i c
      cases e
      exact ⟨F, Hs, ρ, τ, ds, _, S, h1, fun vs Hs1 H1 e1 S1 r1 => ⟨by rw [r1.len]; exact szOk_le c, fun p hp => n p Hs1 _ e1 (S1.temp hp r1)⟩⟩
    · cases e
  · cases e
end
end Dv

/-! Eb -/
/-! Eb: statements. -/
namespace Dv
open PySem PySem.Spec PyProof.Rows L2 Evl LamX
variable [Nm]

inductive RV where
  | sh (d : D)
  | new (o : Ob)
inductive Out where
  | nx (ρ : En) | bk (ρ : En) | ct (ρ : En) | rt (r : RV) (ρ : En)
abbrev SS := En → Option Out
/-- what a return hands on -/
def RetR (K : PySem.W.Frag) (ca : CA) (F : Fx) (Hs H : Hp) (ρ : En) (v : V) : RV → Prop
  | .sh d => (∃ σ, SR K ca F Hs H σ ρ []) ∧ Rp K ca Hs v d
  | .new o => ∃ a, v = .ref a ∧ ∃ σ, SR K ca F Hs H σ ρ [(a, o)]
def EndR (K : PySem.W.Frag) (ca : CA) (F : Fx) (Hs : Hp) (D : Ends) : Out → Prop
  | .nx ρ => ∀ σ' Hs' H', Ex Hs Hs' → SR K ca F Hs' H' σ' ρ [] → D.nx σ' H'
  | .bk ρ => ∀ σ' Hs' H', Ex Hs Hs' → SR K ca F Hs' H' σ' ρ [] → D.bk σ' H'
  | .ct ρ => ∀ σ' Hs' H', Ex Hs Hs' → SR K ca F Hs' H' σ' ρ [] → D.ct σ' H'
  | .rt r ρ => ∀ v Hs' H', Ex Hs Hs' → RetR K ca F Hs' H' ρ v r → D.rt v H'
def RdS (K : PySem.W.Frag) (ca : CA) (g : SS) : TS := fun D σ H => ∃ F Hs ρ o, SR K ca F Hs H σ ρ [] ∧ g ρ = some o ∧ EndR K ca F Hs D o
theorem PSimp {X : Cx} {st : Stmt} {t t' : TS} (h : PS X st t) (i : ∀ D σ H, t' D σ H → t D σ H) : PS X st t' := ⟨fun pins s σ H D I q => h.run pins s σ H D I (i D σ H q)⟩
theorem PSsimp {X : Cx} {st : List Stmt} {t t' : TS} (h : PSs X st t) (i : ∀ D σ H, t' D σ H → t D σ H) : PSs X st t' := ⟨fun pins s σ H D I q => h.run pins s σ H D I (i D σ H q)⟩
section
variable {K : PySem.W.Frag} {ca : CA} {F : Fx} {Hs Hs' H H' : Hp} {σ : L2.St} {ρ ρ' : En} {D : Ends} {g : SS} {o : Out}
theorem RdS.intro (S : SR K ca F Hs H σ ρ []) (h : g ρ = some o) (n : EndR K ca F Hs D o) : RdS K ca g D σ H := ⟨F, Hs, ρ, o, S, h, n⟩
theorem EndR.to (n : EndR K ca F Hs D o) (e : Ex Hs Hs') : EndR K ca F Hs' D o := by
  cases o with
  | nx ρ => exact fun σ' H1 H2 e1 S => n σ' H1 H2 (e.trans e1) S
  | bk ρ => exact fun σ' H1 H2 e1 S => n σ' H1 H2 (e.trans e1) S
  | ct ρ => exact fun σ' H1 H2 e1 S => n σ' H1 H2 (e.trans e1) S
  | rt r ρ => exact fun v H1 H2 e1 S => n v H1 H2 (e.trans e1) S
end
/-! ### the semantics -/
def gNil' : SS := fun ρ => some (.nx ρ)
def gSeq (g h : SS) : SS := fun ρ => match g ρ with
  | some (.nx ρ') => h ρ'
  | x => x
def gIf (t : STF) (g h : SS) : SS := fun ρ => match t ρ with
  | some (true, ρ') => g ρ'
  | some (false, ρ') => h ρ'
  | none => none
def gSet (i : Nat) (f : SF) : SS := fun ρ => match f ρ with
  | some (d, ρ') => if i < ρ'.length then some (.nx (ρ'.set i (some (.sh d)))) else none
  | none => none
def gSetN (i : Nat) (f : NF') : SS := fun ρ => match f ρ with
  | some (o, ρ') => if i < ρ'.length then some (.nx (ρ'.set i (some (.own false o)))) else none
  | none => none
def gTgt (tg : Tg) (f : SF) : SS := fun ρ => match f ρ with
  | some (d, ρ') => (match tg.asg d ρ' with
    | some ρ2 => some (.nx ρ2)
    | none => none)
  | none => none
def gRet (f : SF) : SS := fun ρ => match f ρ with
  | some (d, ρ') => some (.rt (.sh d) ρ')
  | none => none
def gRetN (f : NF') : SS := fun ρ => match f ρ with
  | some (o, ρ') => some (.rt (.new o) ρ')
  | none => none
def gRetNone : SS := fun ρ => some (.rt (.sh .non) ρ)
def gDrop (f : SF) : SS := fun ρ => match f ρ with
  | some (_, ρ') => some (.nx ρ')
  | none => none
def ownL (ρ : En) (i : Nat) : Option (Bool × List D) := match ρ[i]? with
  | some (some (.own b (.lst ds))) => some (b, ds)
  | _ => none
def gApp (i : Nat) (f : SF) : SS := fun ρ => match ownL ρ i with
  | none => none
  | some _ => (match f ρ with
    | some (d, ρ') => (match ownL ρ' i with
      | some (b, ds) => if szOk (ds.length + 1) = true then some (.nx (ρ'.set i (some (.own b (.lst (ds ++ [d])))))) else none
      | none => none)
    | none => none)
def gExt (i : Nat) (f : SF) : SS := fun ρ => match ownL ρ i with
  | none => none
  | some _ => (match f ρ with
    | some (.lst es, ρ') => (match ownL ρ' i with
      | some (b, ds) => if szOk (ds.length + es.length) = true then some (.nx (ρ'.set i (some (.own b (.lst (ds ++ es)))))) else none
      | none => none)
    | _ => none)
/-- xs.pop(e) -/
def sPop (i : Nat) (f : SF) : SF := fun ρ => match ownL ρ i with
  | none => none
  | some _ => (match f ρ with
    | some (.int k, ρ') => (match ownL ρ' i with
      | some (b, ds) => if 0 ≤ k ∧ k ≤ 100000 then (match ds[k.toNat]? with
        | some d => some (d, ρ'.set i (some (.own b (.lst (ds.eraseIdx k.toNat)))))
        | none => none) else none
      | none => none)
    | _ => none)
theorem ownL_some {ρ : En} {i : Nat} {b : Bool} {ds : List D} (h : ownL ρ i = some (b, ds)) : ρ[i]? = some (some (.own b (.lst ds))) := by
  unfold ownL at h
  split at h
  · rename_i q; cases h; exact q
  · cases h
def forGo (tg : Tg) (g : SS) : List D → En → Option Out
  | [], ρ => some (.nx ρ)
  | d :: ds, ρ => (match tg.asg d ρ with
    | none => none
    | some ρ1 => (match g ρ1 with
      | some (.nx ρ2) => forGo tg g ds ρ2
      | some (.ct ρ2) => forGo tg g ds ρ2
      | some (.bk ρ2) => some (.nx ρ2)
      | x => x))
def gFor (it : AF) (tg : Tg) (g : SS) : SS := fun ρ => match it ρ with
  | some ds => forGo tg g ds ρ
  | none => none
def whGo (t : TF) (g : SS) : Nat → En → Option Out
  | 0, _ => none
  | n + 1, ρ => (match t ρ with
    | some false => some (.nx ρ)
    | some true => (match g ρ with
      | some (.nx ρ2) => whGo t g n ρ2
      | some (.ct ρ2) => whGo t g n ρ2
      | some (.bk ρ2) => some (.nx ρ2)
      | x => x)
    | none => none)
/-- as many turns as it takes -/
noncomputable def gWh (t : TF) (g : SS) : SS := fun ρ => open Classical in if h : ∃ n o, whGo t g n ρ = some o then whGo t g (Classical.choose h) ρ else none
theorem whGo_mono {t : TF} {g : SS} : ∀ {n : Nat} {ρ : En} {o : Out}, whGo t g n ρ = some o → ∀ m, whGo t g (n + m) ρ = some o
  | 0, ρ, o, h, m => by cases h
  | n + 1, ρ, o, h, m => by
    rw [show n + 1 + m = (n + m) + 1 by omega]
    unfold whGo at h ⊢
    cases q : t ρ with
    | none => rw [q] at h; cases h
    | some b =>
      cases b with
      | false => rw [q] at h; exact h
      | true =>
        simp only [q] at h ⊢
        cases r : g ρ with
        | none => rw [r] at h; cases h
        | some x =>
          cases x with
          | nx ρ2 => simp only [r] at h ⊢; exact whGo_mono h m
          | ct ρ2 => simp only [r] at h ⊢; exact whGo_mono h m
          | bk ρ2 => simp only [r] at h ⊢; exact h
          | rt _ _ => simp only [r] at h ⊢; exact h
theorem gWh_eq {t : TF} {g : SS} {ρ : En} {o : Out} {n : Nat} (h : whGo t g n ρ = some o) : gWh t g ρ = some o := by
  unfold gWh
  have hx : ∃ n o, whGo t g n ρ = some o := ⟨n, o, h⟩
  rw [dif_pos hx]
  obtain ⟨o', ho⟩ := Classical.choose_spec hx
  have h1 := whGo_mono h (Classical.choose hx)
  have h2 := whGo_mono ho n
  rw [Nat.add_comm] at h2
  rw [h2] at h1
  rw [ho]
  exact h1
section
variable {X : Cx} {ca : CA} {st : Stmt} {rest : List Stmt} {g h : SS} {e : Expr} {f : SF} {pos : Pos}
theorem g_nil : PSs X [] (RdS X.K ca gNil') := PSsimp pss_nil fun D σ H q => by
  obtain ⟨F, Hs, ρ, o, S, e, n⟩ := q
  cases e
  exact n σ Hs H (Ex.refl _) S
theorem g_seq (h1 : PS X st (RdS X.K ca g)) (h2 : PSs X rest (RdS X.K ca h)) : PSs X (st :: rest) (RdS X.K ca (gSeq g h)) := PSsimp (pss_cons h1 h2) fun D σ H q => by
  obtain ⟨F, Hs, ρ, o, S, e, n⟩ := q
  unfold gSeq at e
  cases hg : g ρ with
  | none => rw [hg] at e; cases e
  | some x =>
    rw [hg] at e
    refine ⟨F, Hs, ρ, x, S, hg, ?_⟩
    cases x with
    | nx ρ' => exact fun σ' Hs' H' e1 S' => RdS.intro S' e (n.to e1)
    | bk ρ' => cases e; exact n
    | ct ρ' => cases e; exact n
    | rt r ρ' => cases e; exact n
theorem g_one (h1 : PS X st (RdS X.K ca g)) : PSs X [st] (RdS X.K ca g) := pss_one h1
theorem g_if {t : STF} {c : Expr} {a b : List Stmt} (hc : PT X c (RdTI X.K ca t)) (ha : PSs X a (RdS X.K ca g)) (hb : PSs X b (RdS X.K ca h)) : PS X (.If c a b pos) (RdS X.K ca (gIf t g h)) := PSimp (ps_if hc ha hb) fun D σ H q => by
  obtain ⟨F, Hs, ρ, o, S, e, n⟩ := q
  unfold gIf at e
  split at e
  · rename_i ρ1 h1
    exact RdTI.intro S h1 fun Hs' H' e1 S' => by rw [if_pos rfl]; exact RdS.intro S' e (n.to e1)
  · rename_i ρ1 h1
    exact RdTI.intro S h1 fun Hs' H' e1 S' => by rw [if_neg Bool.false_ne_true]; exact RdS.intro S' e (n.to e1)
  · cases e
theorem g_set {i : Nat} {tg : Expr} (hp : PS X (.Assign [tg] e pos) (tAsg (RdI X.K ca f) (gName i))) : PS X (.Assign [tg] e pos) (RdS X.K ca (gSet i f)) := PSimp hp fun D σ H q => by
  obtain ⟨F, Hs, ρ, o, S, e, n⟩ := q
  unfold gSet at e
  split at e
  · rename_i d ρ1 h1
    split at e
    · rename_i hi
      cases e
      exact RdI.intro S h1 fun v Hs' H' e1 S' r => n _ Hs' H' e1 (S'.setS (by rw [← S'.ln]; exact hi) r)
    · cases e
  · cases e
theorem g_setN {i : Nat} {tg : Expr} {f : NF'} (hp : PS X (.Assign [tg] e pos) (tAsg (RdN X.K ca f) (gName i))) : PS X (.Assign [tg] e pos) (RdS X.K ca (gSetN i f)) := PSimp hp fun D σ H q => by
  obtain ⟨F, Hs, ρ, o, S, e, n⟩ := q
  unfold gSetN at e
  split at e
  · rename_i d ρ1 h1
    split at e
    · rename_i hi
      cases e
      exact ⟨F, Hs, ρ, [], d, ρ1, S, h1, fun a Hs' H' e1 S' => n _ Hs' H' e1 (S'.setT (by rw [← S'.ln]; exact hi))⟩
    · cases e
  · cases e
theorem g_tgt {tg : Expr} {t : Tg} (hp : PS X (.Assign [tg] e pos) (tAsg (RdI X.K ca f) (gTg X.K t))) : PS X (.Assign [tg] e pos) (RdS X.K ca (gTgt t f)) := PSimp hp fun D σ H q => by
  obtain ⟨F, Hs, ρ, o, S, e, n⟩ := q
  unfold gTgt at e
  split at e
  · rename_i d ρ1 h1
    split at e
    · rename_i ρ2 h2
      cases e
      exact RdI.intro S h1 fun v Hs' H' e1 S' r => tg_ok S' r h2 fun σ' S2 _ => n _ Hs' H' e1 S2
    · cases e
  · cases e
theorem g_ret (he : PE X e (RdI X.K ca f)) : PS X (.Return (some e) pos) (RdS X.K ca (gRet f)) := PSimp (ps_ret he) fun D σ H q => by
  obtain ⟨F, Hs, ρ, o, S, e, n⟩ := q
  unfold gRet at e
  split at e
  · rename_i d ρ1 h1
    cases e
    exact RdI.intro S h1 fun v Hs' H' e1 S' r => n v Hs' H' e1 ⟨⟨σ, S'⟩, r⟩
  · cases e
theorem g_retN {f : NF'} (he : PE X e (RdN X.K ca f)) : PS X (.Return (some e) pos) (RdS X.K ca (gRetN f)) := PSimp (ps_ret he) fun D σ H q => by
  obtain ⟨F, Hs, ρ, o, S, e, n⟩ := q
  unfold gRetN at e
  split at e
  · rename_i d ρ1 h1
    cases e
    exact ⟨F, Hs, ρ, [], d, ρ1, S, h1, fun a Hs' H' e1 S' => n _ Hs' H' e1 ⟨a, rfl, σ, S'⟩⟩
  · cases e
theorem g_retNone : PS X (.Return none pos) (RdS X.K ca gRetNone) := PSimp ps_retN fun D σ H q => by
  obtain ⟨F, Hs, ρ, o, S, e, n⟩ := q
  cases e
  exact n _ Hs H (Ex.refl _) ⟨⟨σ, S⟩, .non⟩
theorem g_drop (hp : PS X (.Expr e pos) (tDrop (RdI X.K ca f))) : PS X (.Expr e pos) (RdS X.K ca (gDrop f)) := PSimp hp fun D σ H q => by
  obtain ⟨F, Hs, ρ, o, S, e, n⟩ := q
  unfold gDrop at e
  split at e
  · rename_i d ρ1 h1
    cases e
    exact RdI.intro S h1 fun v Hs' H' e1 S' r => n _ Hs' H' e1 S'
  · cases e
/-- an owned list grows -/
theorem SR.grow {K : PySem.W.Frag} {F : Fx} {Hs H : Hp} {σ : L2.St} {ρ : En} {τ : List (Addr × Ob)} {i : Nat} {b : Bool} {ds es : List D} {a : Addr} {ws : List V} (S : SR K ca F Hs H σ ρ τ) (h : ρ[i]? = some (some (.own b (.lst ds)))) (g1 : σ[i]? = some (some (.ref a)))
    (h2 : RpAll K ca Hs ws es) : SR K ca F Hs (upd H a (.lst ws)) σ (ρ.set i (some (.own b (.lst es)))) τ := by
  obtain ⟨a', g1', g2, g3, g4⟩ := S.ownAt h
  rw [g1] at g1'
  cases g1'
  obtain ⟨u0, k1, k2⟩ := g4
  refine S.write h g1 (Ex.refl _) (fun c u hc => ?_) (fun c u hc hu _ => ?_) th_new (fun c hc _ => hc) S.nt (tb_put S.tb k1 k2.nt k2.nc) ⟨.lst ws, upd_same, .lst h2⟩
  · rw [upd_ne (fun z => by rw [z, g2] at hc; cases hc)]
    exact S.ex c u hc
  · rw [upd_ne hc]
    exact hu
theorem erase_rp {K : PySem.W.Frag} {H : Hp} : ∀ {vs : List V} {ds : List D} (k : Nat), RpAll K ca H vs ds → RpAll K ca H (vs.eraseIdx k) (ds.eraseIdx k)
  | _, _, _, .nil => .nil
  | _, _, 0, .cons _ r => r
  | _, _, k + 1, .cons h r => .cons h (erase_rp k r)
theorem tyV_own {K : PySem.W.Frag} {F : Fx} {Hs H : Hp} {σ : L2.St} {ρ : En} {τ : List (Addr × Ob)} {i : Nat} {x : Bool × List D} (S : SR K ca F Hs H σ ρ τ) (h : ownL ρ i = some x) : ∃ a, σ[i]? = some (some (.ref a)) ∧ tyV K "list" (.ref a) H ∧
    ∀ {Hs' H' : Hp} {ρ' : En} {τ' : List (Addr × Ob)} {b : Bool} {ds : List D}, SR K ca F Hs' H' σ ρ' τ' → ownL ρ' i = some (b, ds) → ∃ vs, H' a = some (.lst vs) ∧ RpAll K ca Hs' vs ds := by
  obtain ⟨b, ds⟩ := x
  obtain ⟨a, g1, _, _, g4⟩ := S.ownAt (ownL_some h)
  obtain ⟨vs, h1, _⟩ := obl g4
  refine ⟨a, g1, .inl ⟨rfl, vs, sq_of h1⟩, fun S' h' => ?_⟩
  obtain ⟨a', g1', _, _, g4'⟩ := S'.ownAt (ownL_some h')
  rw [g1] at g1'
  cases g1'
  exact obl g4'
theorem g_app {i : Nat} {o : Expr} {apos cpos : Pos} (hp : PS X (.Expr (.Call (.Attribute o "append" apos) [e] [] cpos) pos) (tDrop (tBM X.K "list" rAppend (tVar i) (tCons (RdI X.K ca f) tNil)))) :
    PS X (.Expr (.Call (.Attribute o "append" apos) [e] [] cpos) pos) (RdS X.K ca (gApp i f)) := PSimp hp fun D σ H q => by
  obtain ⟨F, Hs, ρ, o, S, e, n⟩ := q
  unfold gApp at e
  split at e
  · cases e
  rename_i x hx
  split at e
  · rename_i d ρ1 h1
    split at e
    · rename_i b ds h2
      split at e
      · rename_i hz
        cases e
        obtain ⟨a, g1, ty, nxt⟩ := tyV_own S hx
        refine ⟨_, g1, ty, RdI.intro S h1 fun v Hs' H' e1 S' r => ?_⟩
        obtain ⟨vs, k1, k2⟩ := nxt S' h2
        refine ⟨a, vs, v, rfl, rfl, k1, ?_, n _ Hs' _ e1 (S'.grow (ownL_some h2) g1 (k2.app (.one r)))⟩
        rw [k2.len]
        have := of_decide_eq_true hz
        exact sz_lt (by omega)
      · cases e
    · cases e
  · cases e
theorem g_ext {i : Nat} {o : Expr} {apos cpos : Pos} (hp : PS X (.Expr (.Call (.Attribute o "extend" apos) [e] [] cpos) pos) (tDrop (tBM X.K "list" rExtend (tVar i) (tCons (RdI X.K ca f) tNil)))) :
    PS X (.Expr (.Call (.Attribute o "extend" apos) [e] [] cpos) pos) (RdS X.K ca (gExt i f)) := PSimp hp fun D σ H q => by
  obtain ⟨F, Hs, ρ, o, S, e, n⟩ := q
  unfold gExt at e
  split at e
  · cases e
  rename_i x hx
  split at e
  · rename_i es ρ1 h1
    split at e
    · rename_i b ds h2
      split at e
      · rename_i hz
        cases e
        obtain ⟨a, g1, ty, nxt⟩ := tyV_own S hx
        refine ⟨_, g1, ty, RdI.intro S h1 fun v Hs' H' e1 S' r => ?_⟩
        obtain ⟨vs, k1, k2⟩ := nxt S' h2
        cases r with
        | lst r1 r2 =>
          rename_i c ws
          refine ⟨a, c, vs, ws, rfl, rfl, k1, S'.ex _ _ r1, ?_, n _ Hs' _ e1 (S'.grow (ownL_some h2) g1 (k2.app r2))⟩
          rw [k2.len, r2.len]
          exact szOk_le hz
      · cases e
    · cases e
  · cases e
theorem s_pop {i : Nat} (hp : PE X e (tBM X.K "list" rPopAt (tVar i) (tCons (RdI X.K ca f) tNil))) : PE X e (RdI X.K ca (sPop i f)) := PEimp hp fun σ H Q q => by
  obtain ⟨F, Hs, ρ, τ, d, ρ', S, e, n⟩ := q
  unfold sPop at e
  split at e
  · cases e
  rename_i x hx
  split at e
  · rename_i k ρ1 h1
    split at e
    · rename_i b ds h2
      split at e
      · rename_i hz
        split at e
        · rename_i d' h3
          cases e
          obtain ⟨a, g1, ty, nxt⟩ := tyV_own S hx
          refine ⟨_, g1, ty, RdI.intro S h1 fun v Hs' H' e1 S' r => ?_⟩
          obtain ⟨vs, k1, k2⟩ := nxt S' h2
          cases r
          obtain ⟨y, y1, y2⟩ := k2.get h3
          have hk : seqIndex? k vs.length = some k.toNat := by
            have hlt : k.toNat < vs.length := (List.getElem?_eq_some_iff.mp y1).1
            have : ixN vs.length k = some k.toNat := by
              unfold ixN
              rw [if_pos hz.1, if_pos (by omega)]
            exact (ixN_seq this).1
          exact ⟨a, vs, k, k.toNat, y, rfl, rfl, k1, by omega, by omega, hk, y1, n _ Hs' _ e1 (S'.grow (ownL_some h2) g1 (erase_rp _ k2)) y2⟩
        · cases e
      · cases e
    · cases e
  · cases e
end
section
variable {K : PySem.W.Frag} {ca : CA}
theorem forGo_step {tg : Tg} {g : SS} {d : D} {ds : List D} {ρ : En} {o : Out} (h : forGo tg g (d :: ds) ρ = some o) : ∃ ρ1, tg.asg d ρ = some ρ1 ∧ ∃ x, g ρ1 = some x ∧
    ((∃ ρ2, (x = .nx ρ2 ∨ x = .ct ρ2) ∧ forGo tg g ds ρ2 = some o) ∨ (∃ ρ2, x = .bk ρ2 ∧ o = .nx ρ2) ∨ (∃ r ρ2, x = .rt r ρ2 ∧ o = x)) := by
  unfold forGo at h
  split at h
  · cases h
  rename_i ρ1 h1
  refine ⟨ρ1, h1, ?_⟩
  split at h
  · rename_i ρ2 h2; exact ⟨_, h2, .inl ⟨ρ2, .inl rfl, h⟩⟩
  · rename_i ρ2 h2; exact ⟨_, h2, .inl ⟨ρ2, .inr rfl, h⟩⟩
  · rename_i ρ2 h2; cases h; exact ⟨_, h2, .inr (.inl ⟨ρ2, rfl, rfl⟩)⟩
  · rename_i h2 h3 h4
    cases o with
    | nx ρ2 => exact absurd h (h2 ρ2)
    | ct ρ2 => exact absurd h (h3 ρ2)
    | bk ρ2 => exact absurd h (h4 ρ2)
    | rt r ρ2 => exact ⟨_, h, .inr (.inr ⟨r, ρ2, rfl, rfl⟩)⟩
theorem rd_for {it : AF} {tg : Tg} {g : SS} {D : Ends} {σ : L2.St} {H : Hp} (q : RdS K ca (gFor it tg g) D σ H) : tFor (RdIS K ca it) (gTg K tg) (RdS K ca g) D σ H := by
  obtain ⟨F, Hs, ρ, o, S, e, n⟩ := q
  unfold gFor at e
  split at e
  rotate_left
  · cases e
  rename_i ds hit
  refine ⟨F, Hs, ρ, [], ds, S, hit, fun J Hs1 H1 t1 ok => ?_⟩
  obtain ⟨G, Y, w, hG, hY⟩ := ok
  refine for_it w (fun i σ' H' => ∃ Hs' ρ', Ex Hs1 Hs' ∧ SR K ca F Hs' H' σ' ρ' [] ∧ ((forGo tg g (ds.drop i) ρ' = some o ∧ i ≤ ds.length) )) ⟨Hs1, ρ, Ex.refl _, S.go t1, e, Nat.zero_le _⟩
    (fun i σ' H' hi ⟨Hs', ρ', e1, S', _⟩ => hG H' (ExtN.of (e1.trans S'.ex))) (fun i x σ' H3 H4 hi hp hy => ?_) fun σ' H' hp => ?_
  · obtain ⟨Hs3, ρ3, e3, S3, g3, _⟩ := hp
    obtain ⟨Hs4, d, t4, hd, rd⟩ := hY i x Hs3 H3 H4 e3 S3.ex hi hy
    have dd : ds.drop i = d :: ds.drop (i + 1) := by
      rw [List.drop_eq_getElem_cons hi]
      congr 1
      rw [List.getElem?_eq_getElem hi] at hd
      exact Option.some.inj hd
    rw [dd] at g3
    obtain ⟨ρ4, h4, y, h5, h6⟩ := forGo_step g3
    refine tg_ok (S3.go t4) rd h4 fun σ5 S5 _ => ?_
    refine RdS.intro S5 h5 ?_
    have e4 := e3.trans t4.e
    rcases h6 with ⟨ρ6, hy, h7⟩ | ⟨ρ6, rfl, rfl⟩ | ⟨r, ρ6, rfl, rfl⟩
    · rcases hy with rfl | rfl
      · exact fun σ7 Hs7 H7 e7 S7 => ⟨Hs7, ρ6, e4.trans e7, S7, h7, hi⟩
      · exact fun σ7 Hs7 H7 e7 S7 => ⟨Hs7, ρ6, e4.trans e7, S7, h7, hi⟩
    · exact fun σ7 Hs7 H7 e7 S7 => n σ7 Hs7 H7 (t1.e.trans (e4.trans e7)) S7
    · exact fun v Hs7 H7 e7 R7 => n v Hs7 H7 (t1.e.trans (e4.trans e7)) R7
  · obtain ⟨Hs', ρ', e1, S', g', _⟩ := hp
    rw [List.drop_length] at g'
    cases g'
    exact n σ' Hs' H' (t1.e.trans e1) S'
theorem rd_wh {t : TF} {g : SS} {D : Ends} {σ : L2.St} {H : Hp} (q : RdS K ca (gWh t g) D σ H) : tWhile (RdT K ca t) (RdS K ca g) D σ H := by
  obtain ⟨F, Hs, ρ, o, S, e, n⟩ := q
  unfold gWh at e
  split at e
  rotate_left
  · cases e
  rename_i hx
  refine ⟨fun m σ' H' => ∃ Hs' ρ', Ex Hs Hs' ∧ SR K ca F Hs' H' σ' ρ' [] ∧ whGo t g m ρ' = some o, ⟨_, Hs, ρ, Ex.refl _, S, e⟩, fun m σ1 H1 hw => ?_⟩
  obtain ⟨Hs1, ρ1, e1, S1, h1⟩ := hw
  cases m with
  | zero => cases h1
  | succ m =>
    unfold whGo at h1
    cases ht : t ρ1 with
    | none => rw [ht] at h1; cases h1
    | some b =>
      refine RdT.intro S1 ht fun Hs2 H2 t2 => ?_
      cases b with
      | false =>
        rw [ht] at h1
        cases h1
        rw [if_neg Bool.false_ne_true]
        exact n σ1 Hs2 H2 (e1.trans t2.e) (S1.go t2)
      | true =>
        rw [if_pos rfl]
        simp only [ht] at h1
        refine ⟨fun σ' H' => ∃ Hs' ρ', Ex Hs Hs' ∧ SR K ca F Hs' H' σ' ρ' [] ∧ whGo t g m ρ' = some o, fun σ' H' hh => ⟨m, Nat.lt_succ_self m, hh⟩, ?_⟩
        cases hg : g ρ1 with
        | none => rw [hg] at h1; cases h1
        | some x =>
          refine RdS.intro (S1.go t2) hg ?_
          have e2 := e1.trans t2.e
          cases x with
          | nx ρ2 => simp only [hg] at h1; exact fun σ7 Hs7 H7 e7 S7 => ⟨Hs7, ρ2, e2.trans e7, S7, h1⟩
          | ct ρ2 => simp only [hg] at h1; exact fun σ7 Hs7 H7 e7 S7 => ⟨Hs7, ρ2, e2.trans e7, S7, h1⟩
          | bk ρ2 => simp only [hg] at h1; cases h1; exact fun σ7 Hs7 H7 e7 S7 => n σ7 Hs7 H7 (e2.trans e7) S7
          | rt r ρ2 => simp only [hg] at h1; cases h1; exact fun v Hs7 H7 e7 R7 => n v Hs7 H7 (e2.trans e7) R7
end
section
variable {X : Cx} {ca : CA}
theorem g_for {it : AF} {tg : Tg} {g : SS} {te iter : Expr} {body : List Stmt} {pos : Pos} (hp : PS X (.For te iter body [] pos) (tFor (RdIS X.K ca it) (gTg X.K tg) (RdS X.K ca g))) : PS X (.For te iter body [] pos) (RdS X.K ca (gFor it tg g)) := PSimp hp fun _ _ _ q => rd_for q
theorem g_wh {t : TF} {g : SS} {c : Expr} {body : List Stmt} {pos : Pos} (hp : PS X (.While c body [] pos) (tWhile (RdT X.K ca t) (RdS X.K ca g))) : PS X (.While c body [] pos) (RdS X.K ca (gWh t g)) := PSimp hp fun _ _ _ q => rd_wh q
end
end Dv

/-! Ec -/
/-! Ec: defs and their calls. -/
namespace Dv
open PySem PySem.Spec PyProof.Rows L2 Evl LamX
variable [Nm]

/-- what is handed back -/
def RvR (K : PySem.W.Frag) (ca : CA) (H Hs' H' : Hp) (v : V) : RV → Prop
  | .sh d => Rp K ca Hs' v d
  | .new o => ∃ a, v = .ref a ∧ H a = none ∧ Hs' a = none ∧ ObR K ca Hs' H' a o
/-- what a call finds: the shared part, the tables -/
structure Bs (Hs H : Hp) : Prop where
  x : Ex Hs H
  nt : NTs Hs
  tb : Tb H
  pp : Nm.pn Hs
abbrev SemP := List D → Option RV
abbrev SemB := Ob → List D → Option (RV × Ob)
/-- a def that changes nothing that was there -/
def spP (K : PySem.W.Frag) (ca : CA) (sem : SemP) : Sp := fun vs H Q _ => ∃ Hs ds rv, Bs Hs H ∧ RpAll K ca Hs vs ds ∧ sem ds = some rv ∧ ∀ v Hs' H', Go Hs H Hs' H' → RvR K ca H Hs' H' v rv → Q v H'
/-- all but the object at a stays -/
structure GoB (a : Addr) (Hs H Hs' H' : Hp) : Prop where
  e : Ex Hs Hs'
  k : ∀ c u, c ≠ a → H c = some u → NT u → H' c = some u
  x : Ex Hs' H'
  n : ∀ b, Hs b = none → H b ≠ none → Hs' b = none
  th : ∀ b, H b ≠ none → H' b ≠ none
  nt : NTs Hs → NTs Hs'
  tb : Tb H → Tb H'

/-- a def that changes its first argument alone -/
def spB (K : PySem.W.Frag) (ca : CA) (sem : SemB) : Sp := fun vs H Q _ => ∃ Hs a ws o ds rv o', Bs Hs H ∧ vs = .ref a :: ws ∧ Hs a = none ∧ ObR K ca Hs H a o ∧ RpAll K ca Hs ws ds ∧ sem o ds = some (rv, o') ∧
  ∀ v Hs' H', GoB a Hs H Hs' H' → ObR K ca Hs' H' a o' → RvR K ca H Hs' H' v rv → Q v H'
def ownO (ρ : En) (i : Nat) : Option (Bool × Ob) := match ρ[i]? with
  | some (some (.own b o)) => some (b, o)
  | _ => none
theorem ownO_some {ρ : En} {i : Nat} {b : Bool} {o : Ob} (h : ownO ρ i = some (b, o)) : ρ[i]? = some (some (.own b o)) := by
  unfold ownO at h
  split at h
  · rename_i q; cases h; exact q
  · cases h
def init (n m : Nat) (xs : List DV) : En := xs.map some ++ List.replicate (n - m) none
def runP (n m : Nat) (g : SS) : SemP := fun ds => if ds.length = m then (match g (init n m (ds.map .sh)) with
  | some (.rt rv _) => some rv
  | some (.nx _) => some (.sh .non)
  | _ => none) else none
def runB (n m : Nat) (g : SS) : SemB := fun o ds => if ds.length + 1 = m then (match g (init n m (.own true o :: ds.map .sh)) with
  | some (.rt rv ρ) => (match ownO ρ 0 with
    | some (true, o') => some (rv, o')
    | _ => none)
  | some (.nx ρ) => (match ownO ρ 0 with
    | some (true, o') => some (.sh .non, o')
    | _ => none)
  | _ => none) else none
section
variable {K : PySem.W.Frag} {ca : CA} {F : Fx} {Hs Hs' H H' : Hp} {σ : L2.St} {ρ ρ' : En} {τ : List (Addr × Ob)} {a : Addr} {o : Ob}
/-- what a def's end hands on -/
theorem SR.goOut (S : SR K ca ⟨Hs, H, []⟩ Hs' H' σ ρ τ) : Go Hs H Hs' H' := ⟨S.e0, fun b u h => S.fr b u h (by simp), S.ex, S.nw, S.th, fun _ => S.nt, fun _ => S.tb⟩
theorem SR.goBOut (S : SR K ca ⟨Hs, H, [a]⟩ Hs' H' σ ρ τ) : GoB a Hs H Hs' H' := ⟨S.e0, fun b u hb h => S.fr b u h (by simpa using hb), S.ex, S.nw, S.th, fun _ => S.nt, fun _ => S.tb⟩
theorem SR.bs (S : SR K ca F Hs H σ ρ τ) : Bs Hs H := ⟨S.ex, S.nt, S.tb, S.pp⟩
theorem rvOut {v : V} {rv : RV} {mu : List Addr} (R : RetR K ca ⟨Hs, H, mu⟩ Hs' H' ρ v rv) : RvR K ca H Hs' H' v rv := by
  cases rv with
  | sh d => exact R.2
  | new o =>
    obtain ⟨a, rfl, σ, S⟩ := R
    obtain ⟨h1, h2, h3⟩ := S.tm _ List.mem_cons_self
    exact ⟨a, rfl, h2, h1, h3⟩
theorem retS {v : V} {rv : RV} (R : RetR K ca F Hs' H' ρ v rv) : ∃ σ τ, SR K ca F Hs' H' σ ρ τ := by
  cases rv with
  | sh d => obtain ⟨⟨σ, S⟩, _⟩ := R; exact ⟨σ, _, S⟩
  | new o => obtain ⟨a, _, σ, S⟩ := R; exact ⟨σ, _, S⟩
theorem start_len {N : List Str} {vs : List V} (h : vs.length ≤ N.length) : (L2.start N vs).length = N.length := by
  unfold L2.start
  rw [List.length_append, List.length_map, List.length_replicate]
  omega
theorem init_get {n m : Nat} {xs : List DV} {i : Nat} {x : DV} (h : (init n m xs)[i]? = some (some x)) : xs[i]? = some x := by
  unfold init at h
  by_cases hi : i < (xs.map (some : DV → Option DV)).length
  · rw [List.getElem?_append_left hi, List.getElem?_map] at h
    cases q : xs[i]? with
    | none => rw [q] at h; cases h
    | some y => rw [q] at h; cases h; rfl
  · rw [List.getElem?_append_right (by omega), List.getElem?_replicate] at h
    split at h <;> cases h
theorem start_get {N : List Str} {vs : List V} {i : Nat} {v : V} (h : vs[i]? = some v) : (L2.start N vs)[i]? = some (some v) := by
  unfold L2.start
  have hi : i < (vs.map (some : V → Option V)).length := by
    rw [List.length_map]
    exact (List.getElem?_eq_some_iff.mp h).1
  rw [List.getElem?_append_left hi, List.getElem?_map, h]
  rfl
theorem SR.startP {N : List Str} {vs : List V} {ds : List D} (x : Bs Hs H) (r : RpAll K ca Hs vs ds) (hl : ds.length ≤ N.length) : SR K ca ⟨Hs, H, []⟩ Hs H (L2.start N vs) (init N.length ds.length (ds.map .sh)) [] where
  ex := x.x
  nt := x.nt
  tb := x.tb
  pp := x.pp
  e0 := Ex.refl _
  fr := fun b u h _ _ => h
  th := fun b h => h
  nw := fun b h _ => h
  sl := fun i y h => by
    have h1 := init_get h
    rw [List.getElem?_map] at h1
    cases q : ds[i]? with
    | none => rw [q] at h1; cases h1
    | some d =>
      rw [q] at h1
      cases h1
      obtain ⟨v, hv, hr⟩ := r.get q
      exact ⟨v, start_get hv, hr⟩
  dj := fun i j b c o u v h _ _ _ => by
    have h1 := init_get h
    rw [List.getElem?_map] at h1
    cases q : ds[i]? with
    | none => rw [q] at h1; cases h1
    | some d => rw [q] at h1; cases h1
  tm := fun p hp => by cases hp
  tj := List.nodup_nil
  ts := fun p hp => by cases hp
  ln := by
    rw [start_len (by rw [r.len]; exact hl)]
    unfold init
    rw [List.length_append, List.length_map, List.length_map, List.length_replicate]
    omega
theorem SR.startB {N : List Str} {vs : List V} {ds : List D} (x : Bs Hs H) (r : RpAll K ca Hs vs ds) (hl : ds.length + 1 ≤ N.length) (hn : Hs a = none) (ho : ObR K ca Hs H a o) : SR K ca ⟨Hs, H, [a]⟩ Hs H (L2.start N (.ref a :: vs)) (init N.length (ds.length + 1) (.own true o :: ds.map .sh)) [] where
  ex := x.x
  nt := x.nt
  tb := x.tb
  pp := x.pp
  e0 := Ex.refl _
  fr := fun b u h _ _ => h
  th := fun b h => h
  nw := fun b h _ => h
  sl := fun i y h => by
    have h1 := init_get h
    cases i with
    | zero =>
      cases h1
      exact ⟨.ref a, rfl, a, rfl, hn, by rw [if_pos rfl]; exact List.mem_singleton.mpr rfl, ho⟩
    | succ i =>
      have h1 : (ds.map DV.sh)[i]? = some y := h1
      rw [List.getElem?_map] at h1
      cases q : ds[i]? with
      | none => rw [q] at h1; cases h1
      | some d =>
        rw [q] at h1
        cases h1
        obtain ⟨v, hv, hr⟩ := r.get q
        exact ⟨v, start_get (by simpa using hv), hr⟩
  dj := fun i j b c o u v h h' _ _ => by
    have h1 := init_get h
    have h2 := init_get h'
    cases i with
    | zero =>
      cases j with
      | zero => rfl
      | succ j =>
        have h2 : (ds.map DV.sh)[j]? = some _ := h2
        rw [List.getElem?_map] at h2
        cases q : ds[j]? with
        | none => rw [q] at h2; cases h2
        | some d => rw [q] at h2; cases h2
    | succ i =>
      have h1 : (ds.map DV.sh)[i]? = some _ := h1
      rw [List.getElem?_map] at h1
      cases q : ds[i]? with
      | none => rw [q] at h1; cases h1
      | some d => rw [q] at h1; cases h1
  tm := fun p hp => by cases hp
  tj := List.nodup_nil
  ts := fun p hp => by cases hp
  ln := by
    rw [start_len (by rw [List.length_cons, r.len]; exact hl)]
    unfold init
    rw [List.length_append, List.length_map, List.length_cons, List.length_map, List.length_replicate]
    omega
/-- a new thing beside what is owned -/
theorem SR.addT (S0 : SR K ca F Hs H σ ρ τ) (S : SR K ca F Hs' H' σ ρ' τ) (hown : ∀ (i : Nat) (b : Bool) (u : Ob), ρ'[i]? = some (some (.own b u)) → ∃ b' u', ρ[i]? = some (some (.own b' u')))
    (h : H a = none) (hn : Hs' a = none) (ho : ObR K ca Hs' H' a o) : SR K ca F Hs' H' σ ρ' ((a, o) :: τ) := by
  refine { S with tm := fun p hp => ?_, tj := ?_, ts := fun p hp i b u q z => ?_ }
  · rcases List.mem_cons.mp hp with rfl | hp
    · exact ⟨hn, none_of_ne fun z => S0.th _ z h, ho⟩
    · exact S.tm p hp
  · rw [List.map_cons, List.nodup_cons]
    refine ⟨fun hm => ?_, S.tj⟩
    obtain ⟨p, hp, e⟩ := List.mem_map.mp hm
    obtain ⟨_, _, h3⟩ := S0.tm p hp
    obtain ⟨u, hu, _⟩ := h3.there
    rw [show p.1 = a from e, h] at hu
    cases hu
  · rcases List.mem_cons.mp hp with rfl | hp
    · obtain ⟨b', u', q'⟩ := hown i b u q
      obtain ⟨c, h1, _, _, h4⟩ := S0.ownAt q'
      rw [h1] at z
      cases z
      obtain ⟨w, hw, _⟩ := h4.there
      have hw' : H a = some w := hw
      rw [h] at hw'; cases hw'
    · exact S.ts p hp i b u q z
end
section
variable {P : Program} {w : World} {K : PySem.W.Frag} {ca : CA} {mg : Str → Option Value} {base : Heap} {x qual : Str} {params : Arguments} {body : List Stmt} {scope : Scope} {dvs : List V} {kws : List (Str × V)} {f : Addr} {fd : FuncData} {N ps : List Str} {k : Nat} {g : SS}
/-- THE RULE for a def that changes nothing -/
theorem fnP (F : FunD K x qual params body scope dvs kws f fd) (S : FnScope N ps scope) (hl : ps.length ≤ N.length)
    (hg : ∀ (cdv : Value) (A : Around) (outer : List Env) (s : Shared) (H : Hp) (E : XK), Room k (A.deeper (envOfC qual scope s.heap.objs.size f cdv)) → PSs (cxOf CX0 P w K mg base N qual scope f cdv A outer s H E).nox body (RdS K ca g)) :
    FnOk P w K mg base CX0 (k + 1) f fd ps (spP K ca (runP N.length ps.length g)) := by
  refine F.ok S (fun vs H Q E h => ?_) (fun cdv A outer s H vs Q E hr h => ⟨_, PSs.nox (hg cdv A outer s H E hr), ?_⟩)
  · obtain ⟨Hs, ds, rv, _, r, e, _⟩ := h
    unfold runP at e
    split at e
    · rename_i q; rw [r.len, q]
    · cases e
  · obtain ⟨Hs, ds, rv, x, r, e, n⟩ := h
    unfold runP at e
    split at e
    rotate_left
    · cases e
    rename_i hd
    rw [← hd] at e
    have S0 := SR.startP (N := N) x r (by rw [hd]; exact hl)
    split at e
    · rename_i rv' ρ' hg'
      cases e
      exact RdS.intro S0 hg' fun v Hs' H' e1 R => by
        obtain ⟨σ, τ, S'⟩ := retS R
        exact n v Hs' H' S'.goOut (rvOut R)
    · rename_i ρ' hg'
      cases e
      exact RdS.intro S0 hg' fun σ' Hs' H' e1 S' => n .non Hs' H' S'.goOut .non
    · cases e
/-- THE RULE for a def that changes its first argument -/
theorem fnB (F : FunD K x qual params body scope dvs kws f fd) (S : FnScope N ps scope) (hl : ps.length ≤ N.length)
    (hg : ∀ (cdv : Value) (A : Around) (outer : List Env) (s : Shared) (H : Hp) (E : XK), Room k (A.deeper (envOfC qual scope s.heap.objs.size f cdv)) → PSs (cxOf CX0 P w K mg base N qual scope f cdv A outer s H E).nox body (RdS K ca g)) :
    FnOk P w K mg base CX0 (k + 1) f fd ps (spB K ca (runB N.length ps.length g)) := by
  refine F.ok S (fun vs H Q E h => ?_) (fun cdv A outer s H vs Q E hr h => ⟨_, PSs.nox (hg cdv A outer s H E hr), ?_⟩)
  · obtain ⟨Hs, a, ws, o, ds, rv, o', _, rfl, _, _, r, e, _⟩ := h
    unfold runB at e
    split at e
    · rename_i q; rw [List.length_cons, r.len, q]
    · cases e
  · obtain ⟨Hs, a, ws, o, ds, rv, o', x, rfl, hn, ho, r, e, n⟩ := h
    unfold runB at e
    split at e
    rotate_left
    · cases e
    rename_i hd
    rw [← hd] at e
    have S0 := SR.startB (N := N) x r (by rw [hd]; exact hl) hn ho
    have out : ∀ {σ : L2.St} {Hs' H' : Hp} {ρ' : En} {τ : List (Addr × Ob)} {u : Ob}, SR K ca ⟨Hs, H, [a]⟩ Hs' H' σ ρ' τ → ρ'[0]? = some (some (.own true u)) → ObR K ca Hs' H' a u := fun S' h0 => by
      obtain ⟨c, _, _, h3, h4⟩ := S'.ownAt h0
      rw [if_pos rfl] at h3
      have hc : c = a := List.mem_singleton.mp h3
      rw [← hc]
      exact h4
    split at e
    · rename_i rv' ρ' hg'
      split at e
      · rename_i o2 h0
        cases e
        exact RdS.intro S0 hg' fun v Hs' H' e1 R => by
          obtain ⟨σ, τ, S'⟩ := retS R
          exact n v Hs' H' S'.goBOut (out S' (ownO_some h0)) (rvOut R)
      · cases e
    · rename_i ρ' hg'
      split at e
      · rename_i o2 h0
        cases e
        exact RdS.intro S0 hg' fun σ' Hs' H' e1 S' => n .non Hs' H' S'.goBOut (out S' (ownO_some h0)) .non
      · cases e
    · cases e
end
/-! ### calls -/
def rvD : RV → D
  | .sh d => d
  | .new o => o.d
def fCall (sem : SemP) (fa : AF) : PF := fun ρ => match fa ρ with
  | some ds => (match sem ds with
    | some rv => some (rvD rv)
    | none => none)
  | none => none
def sCall (sem : SemP) (fa : SAF) : SF := fun ρ => match fa ρ with
  | some (ds, ρ1) => (match sem ds with
    | some rv => some (rvD rv, ρ1)
    | none => none)
  | none => none
def nCall (sem : SemP) (fa : SAF) : NF' := fun ρ => match fa ρ with
  | some (ds, ρ1) => (match sem ds with
    | some (.new o) => some (o, ρ1)
    | _ => none)
  | none => none
def bCall (i : Nat) (sem : SemB) (fa : SAF) : En → Option (RV × En) := fun ρ => match ownO ρ i with
  | none => none
  | some _ => (match fa ρ with
    | some (ds, ρ1) => (match ownO ρ1 i with
      | some (b, o) => (match sem o ds with
        | some (rv, o') => some (rv, ρ1.set i (some (.own b o')))
        | none => none)
      | none => none)
    | none => none)
def sCallB (i : Nat) (sem : SemB) (fa : SAF) : SF := fun ρ => match bCall i sem fa ρ with
  | some (rv, ρ') => some (rvD rv, ρ')
  | none => none
def nCallB (i : Nat) (sem : SemB) (fa : SAF) : NF' := fun ρ => match bCall i sem fa ρ with
  | some (.new o, ρ') => some (o, ρ')
  | _ => none
section
variable {X : Cx} {ca : CA} {e : Expr} {fa : SAF}
theorem rv_share {K : PySem.W.Frag} {Hs H Hs' H' : Hp} {v : V} {rv : RV} (t : Go Hs H Hs' H') (r : RvR K ca H Hs' H' v rv) : ∃ Hs2, Go Hs H Hs2 H' ∧ Rp K ca Hs2 v (rvD rv) := by
  cases rv with
  | sh d => exact ⟨Hs', t, r⟩
  | new o =>
    obtain ⟨a, rfl, h1, h2, h3⟩ := r
    · obtain ⟨vs, h4, h5⟩ := h3
      have ed : Ex Hs' (upd Hs' a vs) := Ex.new h2
      refine ⟨upd Hs' a vs, ⟨t.e.trans ed, t.k, ex_share h2 h4 t.x, fun b q1 q2 => ?_, t.th, fun q => (t.nt q).upd h5.nt, t.tb⟩, h5.rp ed upd_same⟩
      rw [upd_ne (fun z => q2 (by rw [z]; exact h1))]
      exact t.n b q1 q2
theorem c_pure {af : AF} {sem : SemP} (h : PE X e (tCall (spP X.K ca sem) [] E0 (RdA X.K ca af))) : PE X e (RdP X.K ca (fCall sem af)) := PEimp h fun σ H Q q => by
  obtain ⟨F, Hs, ρ, τ, d, S, e, n⟩ := q
  unfold fCall at e
  split at e
  · rename_i ds h1
    split at e
    · rename_i rv h2
      cases e
      refine ⟨F, Hs, ρ, τ, ds, S, h1, fun vs Hs1 H1 t1 r1 => ?_⟩
      show spP X.K ca sem (vs ++ []) H1 Q E0
      rw [List.append_nil]
      refine ⟨Hs1, ds, rv, (S.go t1).bs, r1, h2, fun v Hs2 H2 t2 r2 => ?_⟩
      obtain ⟨Hs3, t3, r3⟩ := rv_share t2 r2
      exact n v Hs3 H2 (t1.trans t3) r3
    · cases e
  · cases e
theorem c_call {sem : SemP} (h : PE X e (tCall (spP X.K ca sem) [] E0 (RdAI X.K ca fa))) : PE X e (RdI X.K ca (sCall sem fa)) := PEimp h fun σ H Q q => by
  obtain ⟨F, Hs, ρ, τ, d, ρ', S, e, n⟩ := q
  unfold sCall at e
  split at e
  · rename_i ds ρ1 h1
    split at e
    · rename_i rv h2
      cases e
      refine ⟨F, Hs, ρ, τ, ds, ρ', S, h1, fun vs Hs1 H1 e1 S1 r1 => ?_⟩
      show spP X.K ca sem (vs ++ []) H1 Q E0
      rw [List.append_nil]
      refine ⟨Hs1, ds, rv, S1.bs, r1, h2, fun v Hs2 H2 t2 r2 => ?_⟩
      obtain ⟨Hs3, t3, r3⟩ := rv_share t2 r2
      exact n v Hs3 H2 (e1.trans t3.e) (S1.go t3) r3
    · cases e
  · cases e
theorem c_callN {sem : SemP} (h : PE X e (tCall (spP X.K ca sem) [] E0 (RdAI X.K ca fa))) : PE X e (RdN X.K ca (nCall sem fa)) := PEimp h fun σ H Q q => by
  obtain ⟨F, Hs, ρ, τ, o, ρ', S, e, n⟩ := q
  unfold nCall at e
  split at e
  · rename_i ds ρ1 h1
    split at e
    · rename_i rv h2
      cases e
      refine ⟨F, Hs, ρ, τ, ds, ρ', S, h1, fun vs Hs1 H1 e1 S1 r1 => ?_⟩
      show spP X.K ca sem (vs ++ []) H1 Q E0
      rw [List.append_nil]
      refine ⟨Hs1, ds, _, S1.bs, r1, h2, fun v Hs2 H2 t2 r2 => ?_⟩
      obtain ⟨a, rfl, k1, k2, k3⟩ := r2
      exact n a Hs2 H2 (e1.trans t2.e) (S1.addT (S1.go t2) (fun i b u q => ⟨b, u, q⟩) k1 k2 k3)
    · cases e
  · cases e
theorem rd_callB {K : PySem.W.Frag} {i : Nat} {sem : SemB} {σ : L2.St} {H : Hp} {Q : VK} {F : Fx} {Hs : Hp} {ρ ρ' : En} {τ : List (Addr × Ob)} {rv : RV} (S : SR K ca F Hs H σ ρ τ) (e : bCall i sem fa ρ = some (rv, ρ'))
    (n : ∀ v Hs' H', Ex Hs Hs' → (match rv with | .sh d => SR K ca F Hs' H' σ ρ' τ ∧ Rp K ca Hs' v d | .new o => ∃ a, v = .ref a ∧ SR K ca F Hs' H' σ ρ' ((a, o) :: τ)) → Q v H') : tCall (spB K ca sem) [] E0 (tCons (tVar i) (RdAI K ca fa)) σ H Q := by
  unfold bCall at e
  split at e
  · cases e
  rename_i x hx
  obtain ⟨bx, ox⟩ := x
  split at e
  · rename_i ds ρ1 h1
    split at e
    · rename_i b o h2
      split at e
      · rename_i rv' o' h3
        cases e
        obtain ⟨a, g1, _, _, _⟩ := S.ownAt (ownO_some hx)
        refine ⟨_, g1, F, Hs, ρ, τ, ds, ρ1, S, h1, fun vs Hs1 H1 e1 S1 r1 => ?_⟩
        obtain ⟨a', g1', g2, g3, g4⟩ := S1.ownAt (ownO_some h2)
        rw [g1] at g1'
        cases g1'
        show spB K ca sem (.ref a :: vs ++ []) H1 Q E0
        rw [List.append_nil]
        refine ⟨Hs1, a, vs, o, ds, rv, o', S1.bs, rfl, g2, g4, r1, h3, fun v Hs2 H2 t2 k2 r2 => n v Hs2 H2 (e1.trans t2.e) ?_⟩
        have S2 := S1.write (ownO_some h2) g1 t2.e t2.x t2.k t2.th t2.n (t2.nt S1.nt) (t2.tb S1.tb) k2
        cases rv with
        | sh d => exact ⟨S2, r2⟩
        | new u =>
          obtain ⟨c, rfl, k3, k4, k5⟩ := r2
          refine ⟨c, rfl, S1.addT S2 (fun j b' u' q => ?_) k3 k4 k5⟩
          by_cases hj : i = j
          · subst hj; exact ⟨_, _, ownO_some h2⟩
          · rw [List.getElem?_set_ne hj] at q
            exact ⟨_, _, q⟩
      · cases e
    · cases e
  · cases e
theorem c_callB {i : Nat} {sem : SemB} (h : PE X e (tCall (spB X.K ca sem) [] E0 (tCons (tVar i) (RdAI X.K ca fa)))) : PE X e (RdI X.K ca (sCallB i sem fa)) := PEimp h fun σ H Q q => by
  obtain ⟨F, Hs, ρ, τ, d, ρ', S, e, n⟩ := q
  unfold sCallB at e
  split at e
  · rename_i rv ρ1 h1
    cases e
    refine rd_callB S h1 fun v Hs' H' e1 r => ?_
    cases rv with
    | sh d => exact n v Hs' H' e1 r.1 r.2
    | new o =>
      obtain ⟨a, rfl, S'⟩ := r
      obtain ⟨Hs2, S2, e2, r2⟩ := S'.freezeT
      exact n _ Hs2 H' (e1.trans e2) S2 r2
  · cases e
theorem c_callBN {i : Nat} {sem : SemB} (h : PE X e (tCall (spB X.K ca sem) [] E0 (tCons (tVar i) (RdAI X.K ca fa)))) : PE X e (RdN X.K ca (nCallB i sem fa)) := PEimp h fun σ H Q q => by
  obtain ⟨F, Hs, ρ, τ, o, ρ', S, e, n⟩ := q
  unfold nCallB at e
  split at e
  · rename_i u ρ1 h1
    cases e
    refine rd_callB S h1 fun v Hs' H' e1 r => ?_
    obtain ⟨a, rfl, S'⟩ := r
    exact n a Hs' H' e1 S'
  · cases e
end
end Dv

/-! Eg -/
/-! Eg: defs that are called where no repr is under way. -/
namespace Dv
open PySem PySem.Spec PyProof.Rows L2 Evl LamX
variable [Nm]

/-- a def's promise, kept wherever no guard stands -/
structure FnG (P : Program) (w : World) (K : PySem.W.Frag) (mg : Str → Option Value) (base : Heap) (k : Nat) (f : Addr) (fd : FuncData) (ps : List Str) (sp : Sp) : Prop where
  ln : ∀ vs H Q E, sp vs H Q E → vs.length = ps.length
  go : ∀ (A : Around) (out : List Env) (s : Shared) (H : Hp) (ar : Args) (us : List Value) (vs : List V) (Q : VK) (E : XK), A.guards = some [] → Room k A → Env0 P w K mg base A out s H →
    BindsTo s fd ar (ps.zip us) → Vals vs us → sp vs H Q E → codeAny (model P w) A (.call (.ref f) ar) (CR CX0 out P w H s Q E) s
section
variable {P : Program} {w : World} {K : PySem.W.Frag} {mg : Str → Option Value} {base : Heap} {k j : Nat} {f : Addr} {fd : FuncData} {ps : List Str} {sp sp' : Sp}
theorem FnG.up (F : FnG P w K mg base j f fd ps sp) (h : j ≤ k) : FnG P w K mg base k f fd ps sp := ⟨F.ln, fun A out s H ar us vs Q E g r => F.go A out s H ar us vs Q E g (r.mono h)⟩
theorem FnG.wk (F : FnG P w K mg base k f fd ps sp) (h : ∀ vs H Q E, sp' vs H Q E → sp vs H Q E) : FnG P w K mg base k f fd ps sp' :=
  ⟨fun vs H Q E q => F.ln vs H Q E (h _ _ _ _ q), fun A out s H ar us vs Q E g r e b v q => F.go A out s H ar us vs Q E g r e b v (h _ _ _ _ q)⟩
theorem toG (F : FnOk P w K mg base CX0 k f fd ps sp) : FnG P w K mg base k f fd ps sp := ⟨F.len, fun A out s H ar us vs Q E _ => F.run A out s H ar us vs Q E⟩
end
section
variable {P : Program} {w : World} {K : PySem.W.Frag} {mg : Str → Option Value} {base : Heap} {k : Nat} {f : Addr} {x qual : Str} {params : Arguments} {body : List Stmt} {scope : Scope} {dvs : List V} {kws : List (Str × V)} {fd : FuncData} {N ps : List Str} {sp : Sp} {ca : CA} {g : SS}
/-- the rule for a def of the text -/
theorem fnG (F : FunD K x qual params body scope dvs kws f fd) (sc : FnScope N ps scope) (ln : ∀ vs H Q E, sp vs H Q E → vs.length = ps.length)
    (hb : ∀ (cdv : Value) (A : Around) (out : List Env) (s : Shared) (H : Hp) (vs : List V) (Q : VK) (E : XK), A.guards = some [] → Room k (A.deeper (envOfC qual scope s.heap.objs.size f cdv)) → sp vs H Q E →
      ∃ t, PSs (cxOf CX0 P w K mg base N qual scope f cdv A out s H E).nox body t ∧ t { nx := fun _ H' => Q .non H', rt := Q } (L2.start N vs) H) : FnG P w K mg base (k + 1) f fd ps sp := by
  obtain ⟨oc, od, dV, kV, doc, pm, an, cdv, ct, osl, rfl, look, code, _, _⟩ := F.ex
  constructor
  · exact ln
  intro A out s H ar us vs Q E gd room e0 bd rel hsp
  have kin : K.In s.heap := e0.mod.kin.keeps fun b o z => (e0.bs b o z).1
  have lim : s.heap.NoLimit := e0.mod.nolimit.keeps fun b o z => (e0.bs b o z).1
  have hl := ln _ _ _ _ hsp
  have kinds : ∀ z ∈ ps.zip us, scope.names.lookup z.1 = some .local ∨ (scope.names.lookup z.1 = some .cell ∧ ((cellsFrom (s.heap.objs.size + 1) scope.names []).lookup z.1).isSome = true) := by
    rintro ⟨n, u⟩ hz
    rcases sc.par n (List.of_mem_zip hz).1 with q | q
    · exact Or.inl q
    · exact Or.inr ⟨q, PySem.W.cellsFrom_some _ _ _ (Or.inl q)⟩
  refine codeAny_call_function room.depth (kin _ _ look) rfl sc.co sc.gen rfl (PySem.W.codeRec_of kin code) (bd _ _ _ _ ?_)
  refine wpAny_newFunctionEnv_cells sc.kind kinds fun env he s1 y => ?_
  subst he
  refine ⟨lim.keeps y.toInCall.keep, codeAny_func ?_⟩
  obtain ⟨t, ht, hq⟩ := hb cdv A out s H vs Q E gd (room.deeper _) hsp
  have I : Inv (cxOf CX0 P w K mg base N qual scope f cdv A out s H E) [] (L2.start N vs) H s1 := inv_start sc room.hd e0 hl rel y
  refine wpAny_mono (ht.nox.run [] s1 (L2.start N vs) H _ I hq) (fun fl s' hs => ?_) fun _ _ z => z
  cases fl with
  | ret u =>
    obtain ⟨v, σ', H', J, rv, q⟩ := hs
    exact ⟨v, H', J.os, J.bare, J.base, J.hok, rv, q⟩
  | next =>
    obtain ⟨σ', H', J, q⟩ := hs
    exact ⟨V.non, H', J.os, J.bare, J.base, J.hok, rfl, q⟩
  | brk =>
    obtain ⟨_, _, _, q⟩ := hs
    cases q
  | cont =>
    obtain ⟨_, _, _, q⟩ := hs
    cases q
abbrev Body (P : Program) (w : World) (K : PySem.W.Frag) (ca : CA) (mg : Str → Option Value) (base : Heap) (k : Nat) (f : Addr) (qual : Str) (scope : Scope) (N : List Str) (body : List Stmt) (g : SS) : Prop :=
  ∀ (cdv : Value) (A : Around) (out : List Env) (s : Shared) (H : Hp) (E : XK), A.guards = some [] → Room k (A.deeper (envOfC qual scope s.heap.objs.size f cdv)) → PSs (cxOf CX0 P w K mg base N qual scope f cdv A out s H E).nox body (RdS K ca g)
theorem gP (F : FunD K x qual params body scope dvs kws f fd) (sc : FnScope N ps scope) (hl : ps.length ≤ N.length) (hg : Body P w K ca mg base k f qual scope N body g) : FnG P w K mg base (k + 1) f fd ps (spP K ca (runP N.length ps.length g)) := by
  refine fnG F sc (fun vs H Q E h => ?_) (fun cdv A out s H vs Q E gd hr h => ⟨_, hg cdv A out s H E gd hr, ?_⟩)
  · obtain ⟨Hs, ds, rv, _, r, e, _⟩ := h
    unfold runP at e
    split at e
    · rename_i q; rw [r.len, q]
    · cases e
  · obtain ⟨Hs, ds, rv, x, r, e, n⟩ := h
    unfold runP at e
    split at e
    rotate_left
    · cases e
    rename_i hd
    rw [← hd] at e
    have S0 := SR.startP (N := N) x r (by rw [hd]; exact hl)
    split at e
    · rename_i rv' ρ' hg'
      cases e
      exact RdS.intro S0 hg' fun v Hs' H' e1 R => by
        obtain ⟨σ, τ, S'⟩ := retS R
        exact n v Hs' H' S'.goOut (rvOut R)
    · rename_i ρ' hg'
      cases e
      exact RdS.intro S0 hg' fun σ' Hs' H' e1 S' => n .non Hs' H' S'.goOut .non
    · cases e
theorem gB (F : FunD K x qual params body scope dvs kws f fd) (sc : FnScope N ps scope) (hl : ps.length ≤ N.length) (hg : Body P w K ca mg base k f qual scope N body g) : FnG P w K mg base (k + 1) f fd ps (spB K ca (runB N.length ps.length g)) := by
  refine fnG F sc (fun vs H Q E h => ?_) (fun cdv A out s H vs Q E gd hr h => ⟨_, hg cdv A out s H E gd hr, ?_⟩)
  · obtain ⟨Hs, a, ws, o, ds, rv, o', _, rfl, _, _, r, e, _⟩ := h
    unfold runB at e
    split at e
    · rename_i q; rw [List.length_cons, r.len, q]
    · cases e
  · obtain ⟨Hs, a, ws, o, ds, rv, o', x, rfl, hn, ho, r, e, n⟩ := h
    unfold runB at e
    split at e
    rotate_left
    · cases e
    rename_i hd
    rw [← hd] at e
    have S0 := SR.startB (N := N) x r (by rw [hd]; exact hl) hn ho
    have out : ∀ {σ : L2.St} {Hs' H' : Hp} {ρ' : En} {τ : List (Addr × Ob)} {u : Ob}, SR K ca ⟨Hs, H, [a]⟩ Hs' H' σ ρ' τ → ρ'[0]? = some (some (.own true u)) → ObR K ca Hs' H' a u := fun S' h0 => by
      obtain ⟨c, _, _, h3, h4⟩ := S'.ownAt h0
      rw [if_pos rfl] at h3
      have hc : c = a := List.mem_singleton.mp h3
      rw [← hc]
      exact h4
    split at e
    · rename_i rv' ρ' hg'
      split at e
      · rename_i o2 h0
        cases e
        exact RdS.intro S0 hg' fun v Hs' H' e1 R => by
          obtain ⟨σ, τ, S'⟩ := retS R
          exact n v Hs' H' S'.goBOut (out S' (ownO_some h0)) (rvOut R)
      · cases e
    · rename_i ρ' hg'
      split at e
      · rename_i o2 h0
        cases e
        exact RdS.intro S0 hg' fun σ' Hs' H' e1 S' => n .non Hs' H' S'.goBOut (out S' (ownO_some h0)) .non
      · cases e
    · cases e
end
/-! ### calls -/
section
variable {X : Cx} {k n : Nat} {f C : Addr} {fd : FuncData} {ps ks : List Str} {sp : Sp} {dvs : List V} {ds : List Value} {x m fl : Str} {p pos apos : Pos} {e o : Expr} {es : List Expr} {kws : List Keyword} {ta : TE} {t tk : TA}
theorem goG {pins : List (Addr × Obj)} {σ : L2.St} {H : Hp} {s : Shared} {Q : VK} {us : List Value} {ar : Args} {vs : List V} (gd : X.A.guards = some []) (F : FnG X.prog X.w X.K X.mg X.base k f fd ps sp) (hr : Room k X.A)
    (I : Inv X pins σ H s) (b : BindsTo s fd ar (ps.zip us)) (r : Vals vs us) (h : sp vs H Q E0) : codeAny (model X.prog X.w) X.A (.call (.ref f) ar) (fun z s' => match z with | .ok (.ret u) => EP X pins σ Q u s' | _ => False) s := by
  refine codeAny_mono (F.go X.A X.stack s H ar us vs Q E0 gd hr I.env0 b r h) fun z s' hq => ?_
  cases z with
  | error _ => exact hq
  | ok y =>
    cases y with
    | ret u => exact I.after hq
    | next => exact hq
    | brk => exact hq
    | cont => exact hq
theorem callG_of {pins : List (Addr × Obj)} {σ : L2.St} {H : Hp} {s : Shared} {Q : VK} {us : List Value} {vs : List V} (gd : X.A.guards = some []) (F : FnG X.prog X.w X.K X.mg X.base k f fd ps sp) (hr : Room k X.A) (hb : Binds X.K fd ps ds) (hd : Vals dvs ds)
    (I : Inv X pins σ H s) (r : Vals vs us) (h : sp (vs ++ dvs) H Q E0) : wpAny (model X.prog X.w) X.A (PySem.call (.ref f) us) (EP X pins σ Q) X.xe s := by
  have r2 : Vals (vs ++ dvs) (us ++ ds) := r.append hd
  have hl : (us ++ ds).length = ps.length := r2.length.symm.trans (F.ln _ _ _ _ h)
  refine wpAny_call (codeAny_mono (goG gd F hr I (hb s us I.kIn hl) r2 h) fun z s' hq => ?_)
  cases z with
  | error _ => exact hq.elim
  | ok y => cases y <;> first | exact hq | exact hq.elim
/-- f(e, ..) -/
theorem k_call (gd : X.A.guards = some []) (F : FnG X.prog X.w X.K X.mg X.base k f fd ps sp) (hr : Room k X.A) (hg : Gl X x) (hm : X.mg x = some (.ref f)) (hk : PySem.W.keepIn X.K (.ref f) = true) (hb : Binds X.K fd ps ds) (hd : Vals dvs ds) (ha : PA X (e :: es) t)
    (hdb : (x == ("__debug__" : Str)) = false := by decide) (he : starEach (e :: es) X.env = (false, eval e X.env) :: starEach es X.env := by rfl) (hpl : (backTo pos (starEach es X.env)).any (·.1) = false := by rfl) : PE X (.Call (.Name x p) (e :: es) [] pos) (tCall sp dvs E0 t) :=
  ⟨fun pins s σ H Q I h => wpAny_Call_Name_kw (ld_glob I hg hm (PySem.W.callWith_K (h₀ := X.base) I.ok.mod.kin hk (thn (ha.run pos pins s σ H _ I h) fun us s1 ⟨vs, H1, I1, r, q⟩ => ⟨I1.kIn, callG_of gd F hr hb hd I1 r q⟩) he hpl) hdb)⟩
/-- f() -/
theorem k_call0 (gd : X.A.guards = some []) (F : FnG X.prog X.w X.K X.mg X.base k f fd ps sp) (hr : Room k X.A) (hg : Gl X x) (hm : X.mg x = some (.ref f)) (hk : PySem.W.keepIn X.K (.ref f) = true) (hb : Binds X.K fd ps ds) (hd : Vals dvs ds)
    (hdb : (x == ("__debug__" : Str)) = false := by decide) : PE X (.Call (.Name x p) [] [] pos) (tCall sp dvs E0 tNil) :=
  ⟨fun pins s σ H Q I h => wpAny_Call_Name_kw (ld_glob I hg hm (PySem.W.callWith_K0 I.kIn hk (callG_of (us := []) gd F hr hb hd I .nil h)) hdb)⟩
/-- f(k = v, ..), all by keywords or some by place -/
theorem k_callK {g : List Value → List Value → List Value} {gV : List V → List V → List V} (gd : X.A.guards = some []) (F : FnG X.prog X.w X.K X.mg X.base k f fd ps sp) (hr : Room k X.A) (hg : Gl X x) (hm : X.mg x = some (.ref f)) (hk : PySem.W.keepIn X.K (.ref f) = true)
    (hb : KBinds X.K fd ps ks g gV) (hkw : PK X kws tk) (hall : (backToKw pos (keywordEach kws X.env)).all (·.1.isSome) = true := by rfl) (hks : (backToKw pos (keywordEach kws X.env)).filterMap (·.1) = ks := by rfl) (hdb : (x == ("__debug__" : Str)) = false := by decide)
    (hpl : ((backTo pos (starEach [] X.env)).any (·.1) || (backToKw pos (keywordEach kws X.env)).any (·.1.isNone)) = false := by rfl) : PE X (.Call (.Name x p) [] kws pos) (tCallK sp gV E0 tNil tk) := by
  refine ⟨fun pins s σ H Q I h => wpAny_Call_Name_kw (ld_glob I hg hm (PySem.W.callWith_KW0 (h₀ := X.base) I.ok.mod.kin hk hall (thn (hkw.run pos pins s σ H _ I h) fun ws s2 ⟨zs, H2, I2, rz, q2⟩ => ⟨I2.kIn, ?_⟩) hpl) hdb)⟩
  rw [hks]
  have r2 := hb.rel (vs := []) (us := []) .nil rz
  refine wpAny_call (codeAny_mono (goG gd F hr I2 (hb.to s2 [] ws I2.kIn (r2.length.symm.trans (F.ln _ _ _ _ q2))) r2 q2) fun z s' hq => ?_)
  cases z with
  | error _ => exact hq.elim
  | ok y => cases y <;> first | exact hq | exact hq.elim
/-- o.m() of an instance -/
theorem k_meth0 {pl : Sem Bool} (gd : X.A.guards = some []) (he : PE X o ta) (c : Cls X.K C) (hm : Meth X.K C m f) (F : FnG X.prog X.w X.K X.mg X.base k f fd ps sp) (hr : Room k X.A) (hb : Binds X.K fd ps ds) (hd : Vals dvs ds)
    (ht : eval (.Call (.Attribute o m apos) [] [] pos) X.env = (do
      let ov ← eval o X.env
      standAt apos.atName
      let (fn, fst) ← holding [ov] (getMethod ov m pl)
      callWith pos fn fst (backTo pos (starEach [] X.env)) (backToKw pos (keywordEach [] X.env))) := by rfl) : PE X (.Call (.Attribute o m apos) [] [] pos) (tMeth C m sp dvs E0 ta tNil) := by
  refine ⟨fun pins s σ H Q I h => PySem.W.methodCall_KW (pl := pl) (thn (he.run pins s σ H _ I h) fun u s1 ⟨y, H1, I1, ry, a, dx, fs, ey, ea, l, q⟩ => ?_) ht⟩
  subst ey
  obtain rfl : u = Value.ref a := ry
  exact getmeth_ok I1 ea c hm l (PySem.W.callWith_K0 (first := [.ref a]) I1.kIn hm.kp (callG_of (us := [.ref a]) (vs := [.ref a]) gd F hr hb hd I1 (.cons rfl .nil) q))
theorem under_guards {A : Around} {us : List Value} {kw : List (Str × Value)} : (A.under (.builtin "type.__call__" ⟨.ref C :: us, kw⟩)).guards = A.guards := by
  obtain ⟨a1, a2, a3, a4, a5⟩ := A
  cases a4 <;> simp [Around.under, Code.guards, Code.isGuard, pushGuards, guardIds]
/-- a new instance -/
theorem makeG {pins : List (Addr × Obj)} {σ : L2.St} {H : Hp} {s : Shared} {Q : VK} {us as : List Value} {kw : List (Str × Value)} {vs : List V} (gd : X.A.guards = some []) (M : Mk X.K C f) (F : FnG X.prog X.w X.K X.mg X.base k f fd ps sp) (hr : Room (k + 1) X.A) (I : Inv X pins σ H s)
    (hb : ∀ s2 : Shared, X.K.In s2.heap → BindsTo s2 fd ⟨.ref (s.heap.objs.size + 1) :: us, kw⟩ (ps.zip (.ref (s.heap.objs.size + 1) :: as))) (r : Vals vs as)
    (h : ∀ y dx, H y = none → H dx = none → dx ≠ y → sp (.ref y :: vs) (upd (upd H dx (.own y)) y (.ins C dx [])) (fun v H2 => v = .non ∧ Q (.ref y) H2) E0) : wpAny (model X.prog X.w) X.A (PySem.call (.ref C) us kw) (EP X pins σ Q) X.xe s := by
  have q := h (s.heap.objs.size + 1) s.heap.objs.size (I.hok.fresh (Nat.le_succ _)) (I.hok.fresh (Nat.le_refl _)) (Nat.ne_of_lt (Nat.lt_succ_self _))
  have I2 := Inv.made (C := C) I
  refine wpAny_call (make_map (f := f) I.kIn M.makes M.init (beq_iff_eq.mp M.fn) (codeAny_mono (F.go _ X.stack _ _ ⟨_, kw⟩ _ _ _ E0 (under_guards.trans gd) (hr.make C us kw) (I2.env0.make C us kw) (hb _ I2.kIn) (show Vals (V.ref (s.heap.objs.size + 1) :: vs) (Value.ref (s.heap.objs.size + 1) :: as) from .cons rfl r) q) fun z s' hq => ?_))
  cases z with
  | error _ => cases hq
  | ok y =>
    cases y with
    | ret u =>
      obtain ⟨v, H', I3, rv, ev, q3⟩ := I2.after hq
      subst ev
      exact ⟨rv, ⟨V.ref (s.heap.objs.size + 1), H', I3, rfl, q3⟩⟩
    | next => cases hq
    | brk => cases hq
    | cont => cases hq
/-- C(e, ..) -/
theorem k_make (gd : X.A.guards = some []) (M : Mk X.K C f) (F : FnG X.prog X.w X.K X.mg X.base k f fd ps sp) (hr : Room (k + 1) X.A) (hg : Gl X x) (hm : X.mg x = some (.ref C)) (hb : Binds X.K fd ps []) (ha : PA X (e :: es) t)
    (hdb : (x == ("__debug__" : Str)) = false := by decide) (he : starEach (e :: es) X.env = (false, eval e X.env) :: starEach es X.env := by rfl) (hpl : (backTo pos (starEach es X.env)).any (·.1) = false := by rfl) : PE X (.Call (.Name x p) (e :: es) [] pos) (tMake C sp [] E0 t) := by
  refine ⟨fun pins s σ H Q I h => wpAny_Call_Name_kw (ld_glob I hg hm (PySem.W.callWith_K (h₀ := X.base) I.ok.mod.kin M.kp (thn (ha.run pos pins s σ H _ I h) fun us s1 ⟨vs, H1, I1, r, q⟩ => ⟨I1.kIn, ?_⟩) he hpl) hdb)⟩
  have q : ∀ y dx, H1 y = none → H1 dx = none → dx ≠ y → sp (.ref y :: (vs ++ [])) (upd (upd H1 dx (.own y)) y (.ins C dx [])) (fun v H2 => v = .non ∧ Q (.ref y) H2) E0 := q
  rw [List.append_nil] at q
  have q0 := q (s1.heap.objs.size + 1) s1.heap.objs.size (I1.hok.fresh (Nat.le_succ _)) (I1.hok.fresh (Nat.le_refl _)) (Nat.ne_of_lt (Nat.lt_succ_self _))
  refine makeG gd M F hr I1 (fun s2 X2 => ?_) r q
  have b := hb s2 (.ref (s1.heap.objs.size + 1) :: us) X2 (by
    rw [List.append_nil, List.length_cons, ← r.length]
    exact F.ln _ _ _ _ q0)
  rw [List.append_nil] at b
  exact b
/-- C(k = v, ..) -/
def tMakeK (C : Addr) (sp : Sp) (gV : List V → List V) (E : XK) (tk : TA) : TE := fun σ H Q => tk σ H fun zs H2 => ∀ x dx, H2 x = none → H2 dx = none → dx ≠ x → sp (.ref x :: gV zs) (upd (upd H2 dx (.own x)) x (.ins C dx [])) (fun v H3 => v = .non ∧ Q (.ref x) H3) E
theorem k_makeK {g : List Value → List Value} {gV : List V → List V} (gd : X.A.guards = some []) (M : Mk X.K C f) (F : FnG X.prog X.w X.K X.mg X.base k f fd ps sp) (hr : Room (k + 1) X.A) (hg : Gl X x) (hm : X.mg x = some (.ref C))
    (hb : ∀ (s2 : Shared) (y : Value) (ws : List Value), X.K.In s2.heap → (y :: g ws).length = ps.length → BindsTo s2 fd ⟨[y], ks.zip ws⟩ (ps.zip (y :: g ws))) (hrel : ∀ {zs : List V} {ws : List Value}, Vals zs ws → Vals (gV zs) (g ws))
    (hkw : PK X kws tk) (hall : (backToKw pos (keywordEach kws X.env)).all (·.1.isSome) = true := by rfl) (hks : (backToKw pos (keywordEach kws X.env)).filterMap (·.1) = ks := by rfl) (hdb : (x == ("__debug__" : Str)) = false := by decide)
    (hpl : ((backTo pos (starEach [] X.env)).any (·.1) || (backToKw pos (keywordEach kws X.env)).any (·.1.isNone)) = false := by rfl) : PE X (.Call (.Name x p) [] kws pos) (tMakeK C sp gV E0 tk) := by
  refine ⟨fun pins s σ H Q I h => wpAny_Call_Name_kw (ld_glob I hg hm (PySem.W.callWith_KW0 (h₀ := X.base) I.ok.mod.kin M.kp hall (thn (hkw.run pos pins s σ H _ I h) fun ws s1 ⟨zs, H1, I1, rz, q⟩ => ⟨I1.kIn, ?_⟩) hpl) hdb)⟩
  rw [hks]
  have q0 := q (s1.heap.objs.size + 1) s1.heap.objs.size (I1.hok.fresh (Nat.le_succ _)) (I1.hok.fresh (Nat.le_refl _)) (Nat.ne_of_lt (Nat.lt_succ_self _))
  have r := hrel rz
  exact makeG gd M F hr I1 (fun s2 X2 => hb s2 _ ws X2 (by rw [List.length_cons, ← r.length]; exact F.ln _ _ _ _ q0)) r q
/-- e.f, a property -/
theorem k_prop {pg g : Addr} (gd : X.A.guards = some []) (he : PE X e ta) (c : Cls X.K C) (hp : PropOf X.K C fl pg g) (F : FnG X.prog X.w X.K X.mg X.base k g fd ps sp) (hr : Room (k + 1) X.A) (hb : Binds X.K fd ps [])
    (hab : attributeBase e fl X.env (eval e X.env) = eval e X.env) : PE X (.Attribute e fl pos) (tProp C sp [] E0 ta) := by
  refine ⟨fun pins s σ H Q I h => attr_of hab (thn (he.run pins s σ H _ I h) fun u s1 ⟨y, H1, I1, ry, a, dx, fs, ey, ea, q⟩ => ?_)⟩
  subst ey
  obtain rfl : u = Value.ref a := ry
  obtain ⟨mA, O, _, _, _, _⟩ := ins_get I1.hok ea
  obtain ⟨od, J, _⟩ := O.look
  obtain ⟨rest, hrec⟩ := hp.rec_
  have I2 := I1.tok (s1.toks + 1)
  have hl : ([Value.ref a] ++ []).length = ps.length := by
    rw [← F.ln _ _ _ _ q]
    rfl
  have hc : (PySem.W.clsIn X.K C).isSome = true := by
    obtain ⟨cd, hc, _⟩ := PySem.W.any_some c.hd
    rw [hc]
    rfl
  refine PySem.W.get_bind I1.kIn J (PySem.W.plainGet_of (c.get fl)).1 (PySem.W.findObj_data hc hp.at_ hp.get hp.tak) (PySem.W.plainGet_of (c.get fl)).2 (wpAny_call (PySem.W.prop_get (s := { s1 with toks := s1.toks + 1 }) I1.kIn hrec ?_))
  have b := hb { s1 with toks := s1.toks + 1 } [.ref a] I2.kIn hl
  refine codeAny_mono (F.go X.A.in1 X.stack { s1 with toks := s1.toks + 1 } H1 ⟨[.ref a], []⟩ [.ref a] [.ref a] Q E0 gd hr.in1 I2.env0.in1 b (.cons rfl .nil) q) fun z s' hq => ?_
  cases z with
  | error _ => cases hq
  | ok y =>
    cases y with
    | ret u =>
      obtain ⟨v, H', I3, rv, q3⟩ := I2.after hq
      show wpAny _ _ (handedOut u) _ _ _
      rw [PySem.W.handedOut_of (handed_of rv)]
      exact wpAny_pure ⟨v, H', I3, rv, q3⟩
    | next => cases hq
    | brk => cases hq
    | cont => cases hq
end
end Dv

/-! Ed -/
/-! Ed: built-ins and methods of built-in types, over deep values. -/
namespace Dv
open PySem PySem.Spec PyProof.Rows L2 Evl LamX
variable [Nm]

abbrev GC := List D → Option D
def OkC (K : PySem.W.Frag) (ca : CA) (r : List V → Hp → VK → Prop) (g : GC) : Prop := ∀ (Hs H : Hp) (vs : List V) (ds : List D) (d : D) (Q : VK), Ex Hs H → WRs K ca Hs H vs ds → g ds = some d → Nx K ca Hs H d Q → r vs H Q
def fCb (g : GC) (af : AF) : PF := fun ρ => match af ρ with
  | some ds => g ds
  | none => none
def sCb (g : GC) (af : SAF) : SF := fun ρ => match af ρ with
  | some (ds, ρ') => (match g ds with
    | some d => some (d, ρ')
    | none => none)
  | none => none
def GC.or (g h : GC) : GC := fun ds => match g ds with
  | some d => some d
  | none => h ds
theorem WRs.of {K : PySem.W.Frag} {ca : CA} {Hs H : Hp} : ∀ {vs : List V} {ds : List D}, RpAll K ca Hs vs ds → WRs K ca Hs H vs ds
  | _, _, .nil => .nil
  | _, _, .cons h r => .cons (.inl h) (WRs.of r)
theorem wrs1 {K : PySem.W.Frag} {ca : CA} {Hs H : Hp} {vs : List V} {d : D} (w : WRs K ca Hs H vs [d]) : ∃ v, vs = [v] ∧ WR K ca Hs H v d := by
  cases w with
  | cons h r => cases r; exact ⟨_, rfl, h⟩
theorem wrs2 {K : PySem.W.Frag} {ca : CA} {Hs H : Hp} {vs : List V} {d e : D} (w : WRs K ca Hs H vs [d, e]) : ∃ v u, vs = [v, u] ∧ WR K ca Hs H v d ∧ WR K ca Hs H u e := by
  cases w with
  | cons h r =>
    obtain ⟨u, rfl, h2⟩ := wrs1 r
    exact ⟨_, u, rfl, h, h2⟩
section
variable {X : Cx} {ca : CA} {e : Expr} {r r' : List V → Hp → VK → Prop} {g g' : GC}
theorem OkC.or {K : PySem.W.Frag} (h : OkC K ca r g) (h' : OkC K ca r' g') : OkC K ca (fun vs H Q => r vs H Q ∨ r' vs H Q) (g.or g') := fun Hs H vs ds d Q x w e n => by
  unfold GC.or at e
  cases q : g ds with
  | some d' => simp only [q] at e; exact .inl (h Hs H vs ds d Q x w (q.trans e) n)
  | none => simp only [q] at e; exact .inr (h' Hs H vs ds d Q x w e n)
theorem d_cb {af : AF} (ok : OkC X.K ca r g) (h : PE X e (tCB r (RdAW X.K ca af))) : PE X e (RdP X.K ca (fCb g af)) := PEimp h fun σ H Q q => by
  obtain ⟨F, Hs, ρ, τ, d, S, e, n⟩ := q
  unfold fCb at e
  split at e
  · rename_i ds h1
    exact ⟨F, Hs, ρ, τ, ds, S, h1, fun vs Hs' H' t w => ok Hs' H' vs ds d Q t.x w e (n.to t)⟩
  · cases e
theorem s_cb {af : SAF} (ok : OkC X.K ca r g) (h : PE X e (tCB r (RdAI X.K ca af))) : PE X e (RdI X.K ca (sCb g af)) := PEimp h fun σ H Q q => by
  obtain ⟨F, Hs, ρ, τ, d, ρ', S, e, n⟩ := q
  unfold sCb at e
  split at e
  · rename_i ds ρ1 h1
    split at e
    · rename_i d' h2
      cases e
      exact ⟨F, Hs, ρ, τ, ds, _, S, h1, fun vs Hs' H' e1 S' r => ok Hs' H' vs ds d Q S'.ex (.of r) h2 fun v Hs2 H2 t r2 => n v Hs2 H2 (e1.trans t.e) (S'.go t) r2⟩
    · cases e
  · cases e
end
/-! ### the built-ins -/
def gLen : GC
  | [.str y] => if szOk y.length = true then some (.int (y.length : Nat)) else none
  | [.lst ds] => some (.int (ds.length : Nat))
  | [.tup ds] => some (.int (ds.length : Nat))
  | [.scr ns] => some (.int (ns.length : Nat))
  | _ => none
def gAbs : GC
  | [.int i] => some (.int (if i < 0 then -i else i))
  | _ => none
def gMax2 : GC
  | [.int i, .int j] => some (.int (if j > i then j else i))
  | _ => none
def gInt : GC
  | [.int i] => some (.int i)
  | [.bl b] => some (.int (if b then 1 else 0))
  | _ => none
def gList : GC
  | [.lst ds] => some (.lst ds)
  | [.tup ds] => some (.lst ds)
  | _ => none
def gTuple : GC
  | [.lst ds] => some (.tup ds)
  | [.tup ds] => some (.tup ds)
  | _ => none
def allB : List D → Option Bool
  | [] => some true
  | .bl b :: ds => (match allB ds with
    | some c => some (b && c)
    | none => none)
  | _ => none
def anyB : List D → Option Bool
  | [] => some false
  | .bl b :: ds => (match anyB ds with
    | some c => some (b || c)
    | none => none)
  | _ => none
def gAll : GC
  | [.lst ds] => (match allB ds with
    | some b => some (.bl b)
    | none => none)
  | _ => none
def gAny : GC
  | [.lst ds] => (match anyB ds with
    | some b => some (.bl b)
    | none => none)
  | _ => none
def intsD : List D → Option (List Int)
  | [] => some []
  | .int i :: ds => (match intsD ds with
    | some is => some (i :: is)
    | none => none)
  | _ => none
def maxI : Int → List Int → Int
  | m, [] => m
  | m, i :: is => maxI (if i > m then i else m) is
def gMaxL : GC
  | [.lst ds] => (match intsD ds with
    | some (i :: is) => some (.int (maxI i is))
    | _ => none)
  | _ => none
def gDivmod : GC
  | [.int i, .int j] => if 0 < j ∧ j < 1073741824 then some (.tup [.int (i / j), .int (i % j)]) else none
  | _ => none
def gRepr : GC
  | [.lst ds] => (match toPy (.lst ds) with
    | some p => if p.showable && (!p.hasDict && (decide (p.depth ≤ 64) && szOk p.shown.length)) then some (.str p.shown) else none
    | none => none)
  | [.tup ds] => (match toPy (.tup ds) with
    | some p => if p.showable && (!p.hasDict && (decide (p.depth ≤ 64) && szOk p.shown.length)) then some (.str p.shown) else none
    | none => none)
  | _ => none
section
variable {K : PySem.W.Frag} {ca : CA}
theorem okLen : OkC K ca (fun xs H Q => ∃ x n, xs = [x] ∧ LenV K x H n ∧ Q (.int n) H) gLen := fun Hs H vs ds d Q x w e n => by
  unfold gLen at e
  split at e
  · obtain ⟨v, rfl, w1⟩ := wrs1 w
    obtain rfl := w1.str
    split at e
    · rename_i c
      cases e
      exact ⟨_, _, rfl, ⟨szOk_le c, rfl⟩, n.here x (.int _)⟩
    · cases e
  · obtain ⟨v, rfl, w1⟩ := wrs1 w
    obtain ⟨a, xs, rfl, h1, r⟩ := w1.lst x
    cases e
    exact ⟨_, _, rfl, .inl ⟨xs, sq_of h1, r.len.symm⟩, n.here x (.int _)⟩
  · obtain ⟨v, rfl, w1⟩ := wrs1 w
    obtain ⟨a, xs, rfl, h1, r⟩ := w1.tup x
    cases e
    exact ⟨_, _, rfl, .inr ⟨xs, h1, r.len.symm⟩, n.here x (.int _)⟩
  · obtain ⟨v, rfl, w1⟩ := wrs1 w
    cases e
    have wf := w1.flat fun o z => by cases o <;> cases z
    · cases wf with
      | scr h => exact ⟨_, _, rfl, .inl ⟨_, ex_l x h, by rw [List.length_map]⟩, n.here x (.int _)⟩
  · cases e
theorem okAbs : OkC K ca (fun xs H Q => ∃ i, xs = [.int i] ∧ Q (.int (if i < 0 then -i else i)) H) gAbs := fun Hs H vs ds d Q x w e n => by
  unfold gAbs at e
  split at e
  · obtain ⟨v, rfl, w1⟩ := wrs1 w
    obtain rfl := w1.int
    cases e
    exact ⟨_, rfl, n.here x (.int _)⟩
  · cases e
theorem okMax2 : OkC K ca (fun xs H Q => ∃ i j, xs = [.int i, .int j] ∧ Q (.int (if j > i then j else i)) H) gMax2 := fun Hs H vs ds d Q x w e n => by
  unfold gMax2 at e
  split at e
  · obtain ⟨v, u, rfl, w1, w2⟩ := wrs2 w
    obtain rfl := w1.int
    obtain rfl := w2.int
    cases e
    exact ⟨_, _, rfl, n.here x (.int _)⟩
  · cases e
theorem okInt : OkC K ca (fun xs H Q => (∃ i, xs = [.int i] ∧ Q (.int i) H) ∨ ∃ k, xs = [.bl k] ∧ Q (.int (if k then 1 else 0)) H) gInt := fun Hs H vs ds d Q x w e n => by
  unfold gInt at e
  split at e
  · obtain ⟨v, rfl, w1⟩ := wrs1 w
    obtain rfl := w1.int
    cases e
    exact .inl ⟨_, rfl, n.here x (.int _)⟩
  · obtain ⟨v, rfl, w1⟩ := wrs1 w
    obtain rfl := w1.bl
    cases e
    exact .inr ⟨_, rfl, n.here x (.int _)⟩
  · cases e
theorem okList : OkC K ca (fun xs H Q => ∃ p ys, xs = [.ref p] ∧ (SqL K H p ys ∨ SqT K H p ys) ∧ ∀ l, H l = none → Q (.ref l) (upd H l (.lst ys))) gList := fun Hs H vs ds d Q x w e n => by
  unfold gList at e
  split at e
  · obtain ⟨v, rfl, w1⟩ := wrs1 w
    obtain ⟨a, xs, rfl, h1, r⟩ := w1.lst x
    cases e
    exact ⟨a, xs, rfl, .inl (sq_of h1), n.newL x r⟩
  · obtain ⟨v, rfl, w1⟩ := wrs1 w
    obtain ⟨a, xs, rfl, h1, r⟩ := w1.tup x
    cases e
    exact ⟨a, xs, rfl, .inr h1, n.newL x r⟩
  · cases e
theorem okTuple : OkC K ca (fun xs H Q => ∃ p ys, xs = [.ref p] ∧ ((SqL K H p ys ∧ ∀ l, H l = none → Q (.ref l) (upd H l (.tup ys))) ∨ (SqT K H p ys ∧ Q (.ref p) H))) gTuple := fun Hs H vs ds d Q x w e n => by
  unfold gTuple at e
  split at e
  · obtain ⟨v, rfl, w1⟩ := wrs1 w
    obtain ⟨a, xs, rfl, h1, r⟩ := w1.lst x
    cases e
    exact ⟨a, xs, rfl, .inl ⟨sq_of h1, n.newT x r⟩⟩
  · obtain ⟨v, rfl, w1⟩ := wrs1 w
    have wf := w1.flat fun o z => by cases o <;> cases z
    · cases wf with
      | tup h1 r =>
        cases e
        exact ⟨_, _, rfl, .inr ⟨st_of (x _ _ h1), n.here x (.tup h1 r)⟩⟩
  · cases e
theorem allB_bls : ∀ {vs : List V} {ds : List D} {b : Bool} {H : Hp}, RpAll K ca H vs ds → allB ds = some b → ∃ bs : List Bool, vs = bs.map V.bl ∧ bs.all id = b
  | _, _, b, _, .nil, h => by cases h; exact ⟨[], rfl, rfl⟩
  | _, _, b, _, .cons (d := d) h1 h2, h => by
    cases d <;> simp only [allB] at h <;> try cases h
    split at h
    · rename_i c hc
      cases h
      obtain ⟨bs, rfl, h3⟩ := allB_bls h2 hc
      cases h1
      exact ⟨_ :: bs, rfl, by rw [List.all_cons, h3]; rfl⟩
    · cases h
theorem anyB_bls : ∀ {vs : List V} {ds : List D} {b : Bool} {H : Hp}, RpAll K ca H vs ds → anyB ds = some b → ∃ bs : List Bool, vs = bs.map V.bl ∧ bs.any id = b
  | _, _, b, _, .nil, h => by cases h; exact ⟨[], rfl, rfl⟩
  | _, _, b, _, .cons (d := d) h1 h2, h => by
    cases d <;> simp only [anyB] at h <;> try cases h
    split at h
    · rename_i c hc
      cases h
      obtain ⟨bs, rfl, h3⟩ := anyB_bls h2 hc
      cases h1
      exact ⟨_ :: bs, rfl, by rw [List.any_cons, h3]; rfl⟩
    · cases h
theorem okAll : OkC K ca (rAll K) gAll := fun Hs H vs ds d Q x w e n => by
  unfold gAll at e
  split at e
  · split at e
    · rename_i b hb
      cases e
      obtain ⟨v, rfl, w1⟩ := wrs1 w
      obtain ⟨a, xs, rfl, h1, r⟩ := w1.lst x
      obtain ⟨bs, rfl, h2⟩ := allB_bls r hb
      exact ⟨a, bs, rfl, sq_of h1, by rw [h2]; exact n.here x (.bl _)⟩
    · cases e
  · cases e
theorem okAny : OkC K ca (rAny K) gAny := fun Hs H vs ds d Q x w e n => by
  unfold gAny at e
  split at e
  · split at e
    · rename_i b hb
      cases e
      obtain ⟨v, rfl, w1⟩ := wrs1 w
      obtain ⟨a, xs, rfl, h1, r⟩ := w1.lst x
      obtain ⟨bs, rfl, h2⟩ := anyB_bls r hb
      exact ⟨a, bs, rfl, sq_of h1, by rw [h2]; exact n.here x (.bl _)⟩
    · cases e
  · cases e
theorem intsD_vs : ∀ {vs : List V} {ds : List D} {is : List Int} {H : Hp}, RpAll K ca H vs ds → intsD ds = some is → vs = is.map V.int
  | _, _, _, _, .nil, h => by cases h; rfl
  | _, _, _, _, .cons (d := d) h1 h2, h => by
    cases d <;> simp only [intsD] at h <;> try cases h
    split at h
    · rename_i c hc
      cases h
      rw [intsD_vs h2 hc]
      cases h1
      rfl
    · cases h
theorem maxI_spec : ∀ (is : List Int) (m : Int), maxI m is ∈ m :: is ∧ ∀ y ∈ m :: is, y ≤ maxI m is
  | [], m => ⟨by simp [maxI], by simp [maxI]⟩
  | i :: is, m => by
    obtain ⟨h1, h2⟩ := maxI_spec is (if i > m then i else m)
    unfold maxI
    refine ⟨?_, fun y hy => ?_⟩
    · rcases List.mem_cons.mp h1 with h | h
      · rw [h]
        split
        · exact List.mem_cons_of_mem _ List.mem_cons_self
        · exact List.mem_cons_self
      · exact List.mem_cons_of_mem _ (List.mem_cons_of_mem _ h)
    · have h0 := h2 _ List.mem_cons_self
      rcases List.mem_cons.mp hy with rfl | hy
      · generalize maxI (if i > y then i else y) is = z at h0 ⊢
        split at h0 <;> omega
      · rcases List.mem_cons.mp hy with rfl | hy
        · generalize maxI (if y > m then y else m) is = z at h0 ⊢
          split at h0 <;> omega
        · exact h2 y (List.mem_cons_of_mem _ hy)
theorem okMaxL : OkC K ca (rMax K) gMaxL := fun Hs H vs ds d Q x w e n => by
  unfold gMaxL at e
  split at e
  · split at e
    · rename_i i is hi
      cases e
      obtain ⟨v, rfl, w1⟩ := wrs1 w
      obtain ⟨a, xs, rfl, h1, r⟩ := w1.lst x
      have ex := intsD_vs r hi
      subst ex
      refine ⟨a, i :: is, rfl, sq_of h1, Nat.succ_pos _, fun m hm hmax => ?_⟩
      obtain ⟨k1, k2⟩ := maxI_spec is i
      have em : m = maxI i is := Int.le_antisymm (k2 m hm) (hmax _ k1)
      rw [em]
      exact n.here x (.int _)
    · cases e
  · cases e
theorem okDivmod : OkC K ca (fun xs H Q => ∃ i j, xs = [.int i, .int j] ∧ CDiv i j ∧ ∀ p, H p = none → Q (.ref p) (upd H p (.tup [.int (i / j), .int (i % j)]))) gDivmod := fun Hs H vs ds d Q x w e n => by
  unfold gDivmod at e
  split at e
  · split at e
    · rename_i c
      cases e
      obtain ⟨v, u, rfl, w1, w2⟩ := wrs2 w
      obtain rfl := w1.int
      obtain rfl := w2.int
      exact ⟨_, _, rfl, c, n.newT x (.cons (.int _) (.cons (.int _) .nil))⟩
    · cases e
  · cases e
def rRepr (K : PySem.W.Frag) : List V → Hp → VK → Prop := fun xs H Q => ∃ x p, xs = [x] ∧ Dp K H x p ∧ isDisplay p = true ∧ p.showable = true ∧ p.hasDict = false ∧ p.depth ≤ 64 ∧ p.shown.length ≤ sizeLine ∧ Q (.str p.shown) H
theorem call_reprD {X : Cx} {k : Nat} (gd : X.A.guards = some []) (hr : Room k X.A) : CallR X (.builtin "repr") (rRepr X.K) := by
  intro pins s σ H xs us Q I r h
  obtain ⟨x, p, rfl, hd, di, sh, nd, dp, sz, q⟩ := h
  obtain ⟨u, rfl, ru⟩ := vals1 r
  obtain ⟨as, hread⟩ := Dp.reads I p x u hd ru
  obtain ⟨a, rfl⟩ := isRef_of_reads hread di
  have := hr.un
  exact repr_of_reads' hread sh (PyData.noDict_hsm nd) gd (by omega) (fun _ _ z => z) (fun h' t tk hk => ⟨.str p.shown, H, I.kept (t' := tk) hk, ⟨t, rfl⟩, q⟩) sz
theorem okRepr : OkC K ca (rRepr K) gRepr := fun Hs H vs ds d Q x w e n => by
  unfold gRepr at e
  split at e
  · obtain ⟨v, rfl, w1⟩ := wrs1 w
    split at e
    · rename_i p hp
      split at e
      · rename_i c
        cases e
        simp only [Bool.and_eq_true, Bool.not_eq_true', decide_eq_true_eq] at c
        refine ⟨_, p, rfl, rp_dp (w1.rp x) hp, ?_, c.1, c.2.1, c.2.2.1, szOk_le c.2.2.2, n.here x (.str _)⟩
        simp only [toPy, Option.map_eq_some_iff] at hp
        obtain ⟨ps, _, rfl⟩ := hp
        rfl
      · cases e
    · cases e
  · obtain ⟨v, rfl, w1⟩ := wrs1 w
    split at e
    · rename_i p hp
      split at e
      · rename_i c
        cases e
        simp only [Bool.and_eq_true, Bool.not_eq_true', decide_eq_true_eq] at c
        refine ⟨_, p, rfl, rp_dp (w1.rp x) hp, ?_, c.1, c.2.1, c.2.2.1, szOk_le c.2.2.2, n.here x (.str _)⟩
        simp only [toPy, Option.map_eq_some_iff] at hp
        obtain ⟨ps, _, rfl⟩ := hp
        rfl
      · cases e
    · cases e
  · cases e
end
end Dv

/-! Ee -/
/-! Ee: several at once; further rules. -/
namespace Dv
open PySem PySem.Spec PyProof.Rows L2 Evl LamX
variable [Nm]

inductive PK' where
  | I (f : SF)
  | N (f : NF')
def mGo : List PK' → En → Option (List RV × En)
  | [], ρ => some ([], ρ)
  | .I f :: r, ρ => (match f ρ with
    | some (d, ρ1) => (match mGo r ρ1 with
      | some (rvs, ρ2) => some (.sh d :: rvs, ρ2)
      | none => none)
    | none => none)
  | .N f :: r, ρ => (match f ρ with
    | some (o, ρ1) => (match mGo r ρ1 with
      | some (rvs, ρ2) => some (.new o :: rvs, ρ2)
      | none => none)
    | none => none)
inductive RvM (K : PySem.W.Frag) (ca : CA) (Hs : Hp) : List V → List RV → List (Addr × Ob) → Prop
  | nil : RvM K ca Hs [] [] []
  | sh {v : V} {d : D} {vs : List V} {rvs : List RV} {ts : List (Addr × Ob)} : Rp K ca Hs v d → RvM K ca Hs vs rvs ts → RvM K ca Hs (v :: vs) (.sh d :: rvs) ts
  | new {a : Addr} {o : Ob} {vs : List V} {rvs : List RV} {ts : List (Addr × Ob)} : RvM K ca Hs vs rvs ts → RvM K ca Hs (.ref a :: vs) (.new o :: rvs) ((a, o) :: ts)
theorem RvM.len {K : PySem.W.Frag} {ca : CA} {Hs : Hp} {vs : List V} {rvs : List RV} {ts : List (Addr × Ob)} (h : RvM K ca Hs vs rvs ts) : vs.length = rvs.length := by
  induction h with
  | nil => rfl
  | sh _ _ ih => exact congrArg Nat.succ ih
  | new _ ih => exact congrArg Nat.succ ih
def RdM (K : PySem.W.Frag) (ca : CA) (ks : List PK') : TA := fun σ H Q => ∃ F Hs ρ τ rvs ρ', SR K ca F Hs H σ ρ τ ∧ mGo ks ρ = some (rvs, ρ') ∧
  ∀ vs ts Hs' H', Ex Hs Hs' → RvM K ca Hs' vs rvs ts → SR K ca F Hs' H' σ ρ' (ts.reverse ++ τ) → Q vs H'
section
variable {X : Cx} {ca : CA} {e : Expr} {es : List Expr} {ks : List PK'}
theorem m_nil : PA X [] (RdM X.K ca []) := PAimp pa_nil fun σ H Q q => by
  obtain ⟨F, Hs, ρ, τ, d, ρ', S, e, n⟩ := q
  cases e
  exact n [] [] Hs H (Ex.refl _) .nil S
theorem m_I {f : SF} (he : PE X e (RdI X.K ca f)) (hr : PA X es (RdM X.K ca ks)) (hs : starEach (e :: es) X.env = (false, eval e X.env) :: starEach es X.env := by rfl) : PA X (e :: es) (RdM X.K ca (.I f :: ks)) := PAimp (pa_cons he hr hs) fun σ H Q q => by
  obtain ⟨F, Hs, ρ, τ, d, ρ', S, e, n⟩ := q
  unfold mGo at e
  split at e
  · rename_i x ρ1 h1
    split at e
    · rename_i xs ρ2 h2
      cases e
      refine RdI.intro S h1 fun v Hs1 H1 e1 S1 r1 => ?_
      exact ⟨F, Hs1, ρ1, τ, xs, ρ', S1, h2, fun vs ts Hs2 H2 e2 r2 S2 => n (v :: vs) ts Hs2 H2 (e1.trans e2) (.sh (r1.mono e2) r2) S2⟩
    · cases e
  · cases e
theorem m_N {f : NF'} (he : PE X e (RdN X.K ca f)) (hr : PA X es (RdM X.K ca ks)) (hs : starEach (e :: es) X.env = (false, eval e X.env) :: starEach es X.env := by rfl) : PA X (e :: es) (RdM X.K ca (.N f :: ks)) := PAimp (pa_cons he hr hs) fun σ H Q q => by
  obtain ⟨F, Hs, ρ, τ, d, ρ', S, e, n⟩ := q
  unfold mGo at e
  split at e
  · rename_i x ρ1 h1
    split at e
    · rename_i xs ρ2 h2
      cases e
      refine ⟨F, Hs, ρ, τ, x, ρ1, S, h1, fun a Hs1 H1 e1 S1 => ?_⟩
      refine ⟨F, Hs1, ρ1, (a, x) :: τ, xs, ρ', S1, h2, fun vs ts Hs2 H2 e2 r2 S2 => n _ ((a, x) :: ts) Hs2 H2 (e1.trans e2) (.new r2) ?_⟩
      rw [List.reverse_cons, List.append_assoc]
      exact S2
    · cases e
  · cases e
end
def setM : List Nat → List RV → En → Option En
  | [], [], ρ => some ρ
  | i :: is, .sh d :: rvs, ρ => if i < ρ.length then setM is rvs (ρ.set i (some (.sh d))) else none
  | i :: is, .new o :: rvs, ρ => if i < ρ.length then setM is rvs (ρ.set i (some (.own false o))) else none
  | _, _, _ => none
def gPar (is : List Nat) (ks : List PK') : SS := fun ρ => match mGo ks ρ with
  | some (rvs, ρ') => (match setM is rvs ρ' with
    | some ρ2 => some (.nx ρ2)
    | none => none)
  | none => none
section
variable {K : PySem.W.Frag} {ca : CA} {F : Fx} {Hs H : Hp} {τ : List (Addr × Ob)}
theorem SR.perm {σ : L2.St} {ρ : En} {τ' : List (Addr × Ob)} (S : SR K ca F Hs H σ ρ τ) (p : τ'.Perm τ) : SR K ca F Hs H σ ρ τ' :=
  { S with tm := fun q hq => S.tm q (p.mem_iff.mp hq), tj := ((p.map (·.1)).nodup_iff).mpr S.tj, ts := fun q hq => S.ts q (p.mem_iff.mp hq) }
theorem setM_len : ∀ {is : List Nat} {rvs : List RV} {ρ ρ' : En}, setM is rvs ρ = some ρ' → is.length = rvs.length
  | [], [], _, _, _ => rfl
  | [], _ :: _, _, _, h => by cases h
  | _ :: _, [], _, _, h => by cases h
  | i :: is, .sh d :: rvs, ρ, ρ', h => by
    unfold setM at h
    split at h
    · exact congrArg Nat.succ (setM_len h)
    · cases h
  | i :: is, .new o :: rvs, ρ, ρ', h => by
    unfold setM at h
    split at h
    · exact congrArg Nat.succ (setM_len h)
    · cases h
theorem namesM : ∀ (is : List Nat) (rvs : List RV) (vs : List V) (ts : List (Addr × Ob)) (σ : L2.St) (ρ ρ' : En) (Q : L2.St → Hp → Prop), SR K ca F Hs H σ ρ (ts ++ τ) → RvM K ca Hs vs rvs ts → setM is rvs ρ = some ρ' →
    (∀ σ', SR K ca F Hs H σ' ρ' τ → Q σ' H) → gNames is vs σ H Q
  | [], rvs, vs, ts, σ, ρ, ρ', Q, S, r, h, q => by
    cases r with
    | nil => cases h; exact ⟨rfl, q σ S⟩
    | sh _ _ => cases h
    | new _ => cases h
  | i :: is, rvs, vs, ts, σ, ρ, ρ', Q, S, r, h, q => by
    cases r with
    | nil => cases h
    | sh r1 r2 =>
      unfold setM at h
      split at h
      · rename_i hi
        exact ⟨_, _, rfl, namesM is _ _ _ _ _ _ Q (S.setS (by rw [← S.ln]; exact hi) r1) r2 h q⟩
      · cases h
    | new r2 =>
      unfold setM at h
      split at h
      · rename_i hi
        exact ⟨_, _, rfl, namesM is _ _ _ _ _ _ Q (SR.setT S (by rw [← S.ln]; exact hi)) r2 h q⟩
      · cases h
end
section
variable {X : Cx} {ca : CA} {st : Stmt} {ks : List PK'} {is : List Nat}
/-- by way of the stack: two names -/
theorem g_par2 {i j : Nat} (hp : PS X st (tPar i j (RdM X.K ca ks))) : PS X st (RdS X.K ca (gPar [i, j] ks)) := PSimp hp fun D σ H q => by
  obtain ⟨F, Hs, ρ, o, S, e, n⟩ := q
  unfold gPar at e
  split at e
  · rename_i rvs ρ1 h1
    split at e
    · rename_i ρ2 h2
      cases e
      refine ⟨F, Hs, ρ, [], rvs, ρ1, S, h1, fun vs ts Hs' H' e1 r S' => ?_⟩
      have S2 : SR X.K ca F Hs' H' σ ρ1 (ts ++ []) := S'.perm (by simpa using (List.reverse_perm ts).symm)
      obtain ⟨v, r1, e2, q1⟩ := namesM [i, j] rvs vs ts σ ρ1 ρ2 (fun σ' H' => D.nx σ' H') S2 r h2 fun σ' S3 => n σ' Hs' H' e1 S3
      subst e2
      obtain ⟨w, r2, e3, q2⟩ := q1
      subst e3
      obtain ⟨e4, q3⟩ := q2
      subst e4
      exact ⟨v, w, rfl, q3⟩
    · cases e
  · cases e
theorem g_par3 {i j l : Nat} (hp : PS X st (tPar3 i j l (RdM X.K ca ks))) : PS X st (RdS X.K ca (gPar [i, j, l] ks)) := PSimp hp fun D σ H q => by
  obtain ⟨F, Hs, ρ, o, S, e, n⟩ := q
  unfold gPar at e
  split at e
  · rename_i rvs ρ1 h1
    split at e
    · rename_i ρ2 h2
      cases e
      refine ⟨F, Hs, ρ, [], rvs, ρ1, S, h1, fun vs ts Hs' H' e1 r S' => ?_⟩
      have S2 : SR X.K ca F Hs' H' σ ρ1 (ts ++ []) := S'.perm (by simpa using (List.reverse_perm ts).symm)
      obtain ⟨v, r1, e2, q1⟩ := namesM [i, j, l] rvs vs ts σ ρ1 ρ2 (fun σ' H' => D.nx σ' H') S2 r h2 fun σ' S3 => n σ' Hs' H' e1 S3
      subst e2
      obtain ⟨w, r2, e3, q2⟩ := q1
      subst e3
      obtain ⟨u, r3, e4, q3⟩ := q2
      subst e4
      obtain ⟨e5, q4⟩ := q3
      subst e5
      exact ⟨v, w, u, rfl, q4⟩
    · cases e
  · cases e
/-- by way of a tuple -/
theorem g_parT {tg e : Expr} {pos : Pos} (hsz : is.length ≤ 100) (hp : PS X (.Assign [tg] e pos) (tAsg (tTup (RdM X.K ca ks)) (gTup X.K is.length (gNames is)))) : PS X (.Assign [tg] e pos) (RdS X.K ca (gPar is ks)) := PSimp hp fun D σ H q => by
  obtain ⟨F, Hs, ρ, o, S, e, n⟩ := q
  unfold gPar at e
  split at e
  · rename_i rvs ρ1 h1
    split at e
    · rename_i ρ2 h2
      cases e
      refine ⟨F, Hs, ρ, [], rvs, ρ1, S, h1, fun vs ts Hs' H' e1 r S' => ?_⟩
      have hl : vs.length = is.length := r.len.trans (setM_len h2).symm
      refine ⟨sz_of (by omega), fun p hp => ?_⟩
      have S2 : SR X.K ca F Hs' H' σ ρ1 (ts ++ []) := S'.perm (by simpa using (List.reverse_perm ts).symm)
      have t : Go Hs' H' (upd Hs' p (.tup vs)) (upd H' p (.tup vs)) := Go.alloc S2.ex nt_tup hp
      have rm : ∀ {vs : List V} {rvs : List RV} {ts : List (Addr × Ob)} {Hs2 : Hp}, Ex Hs' Hs2 → RvM X.K ca Hs' vs rvs ts → RvM X.K ca Hs2 vs rvs ts := fun ex h => by
        induction h with
        | nil => exact .nil
        | sh a _ ih => exact .sh (a.mono ex) ih
        | new _ ih => exact .new ih
      exact ⟨p, vs, rfl, st_of upd_same, hl, namesM is rvs vs ts σ ρ1 ρ2 _ (S2.go t) (rm t.e r) h2 fun σ' S3 => n σ' _ _ (e1.trans t.e) S3⟩
    · cases e
  · cases e
/-- what never comes -/
def gNever : SS := fun _ => none
theorem g_never : PS X st (RdS X.K ca gNever) := PSimp ps_never fun D σ H q => by
  obtain ⟨F, Hs, ρ, o, S, e, n⟩ := q
  cases e
/-- a = b = e -/
def gSet2 (i j : Nat) (f : SF) : SS := fun ρ => match f ρ with
  | some (d, ρ') => if i < ρ'.length ∧ j < ρ'.length then some (.nx ((ρ'.set i (some (.sh d))).set j (some (.sh d)))) else none
  | none => none
theorem g_set2 {i j : Nat} {f : SF} {t1 t2 e : Expr} {pos : Pos} (hp : PS X (.Assign [t1, t2] e pos) (tAsg2 (RdI X.K ca f) (gName i) (gName j))) : PS X (.Assign [t1, t2] e pos) (RdS X.K ca (gSet2 i j f)) := PSimp hp fun D σ H q => by
  obtain ⟨F, Hs, ρ, o, S, e, n⟩ := q
  unfold gSet2 at e
  split at e
  · rename_i d ρ1 h1
    split at e
    · rename_i hi
      cases e
      refine RdI.intro S h1 fun v Hs' H' e1 S' r => n _ Hs' H' e1 ((S'.setS (by rw [← S'.ln]; exact hi.1) r).setS ?_ r)
      rw [List.length_set, ← S'.ln]
      exact hi.2
    · cases e
  · cases e
end
/-! ### further operators -/
def gRepL : G2
  | .lst ds, .int k => if k ≤ 1000 ∧ ds.length ≤ 100 ∧ -1000 ≤ k then some (.lst (List.replicate k.toNat ds).flatten) else none
  | _, _ => none
def gMulA : G2 := fun a b => match gMul a b with
  | some d => some d
  | none => gRepL a b
def gEqS : G2
  | .str x, .str y => some (.bl (decide (x = y)))
  | _, _ => none
def gNeS : G2
  | .str x, .str y => some (.bl (!decide (x = y)))
  | _, _ => none
def gEqA : G2 := fun a b => match gEqS a b with
  | some d => some d
  | none => gEq a b
def gNeA : G2 := fun a b => match gNeS a b with
  | some d => some d
  | none => gNe a b
section
variable {K : PySem.W.Frag} {ca : CA}
theorem rep_rp {H : Hp} {vs : List V} {ds : List D} (r : RpAll K ca H vs ds) : ∀ n : Nat, RpAll K ca H (List.replicate n vs).flatten (List.replicate n ds).flatten
  | 0 => .nil
  | n + 1 => by
    rw [List.replicate_succ, List.replicate_succ, List.flatten_cons, List.flatten_cons]
    exact r.app (rep_rp r n)
theorem okEqS : OkG K ca rEq gEqS := fun F Hs H σ ρ τ x y dx dy d Q S wx wy e n => by
  unfold gEqS at e
  split at e
  · rename_i a b
    cases e
    obtain rfl := wx.str
    obtain rfl := wy.str
    have h : decide (V.str a = V.str b) = decide (a = b) := decide_eq_decide.mpr ⟨fun z => V.str.inj z, fun z => by rw [z]⟩
    exact ⟨rfl, by rw [h]; exact n.here S.ex (.bl _)⟩
  · cases e
theorem okNeS : OkG K ca rNe gNeS := fun F Hs H σ ρ τ x y dx dy d Q S wx wy e n => by
  unfold gNeS at e
  split at e
  · rename_i a b
    cases e
    obtain rfl := wx.str
    obtain rfl := wy.str
    have h : decide (V.str a = V.str b) = decide (a = b) := decide_eq_decide.mpr ⟨fun z => V.str.inj z, fun z => by rw [z]⟩
    exact ⟨rfl, by rw [h]; exact n.here S.ex (.bl _)⟩
  · cases e
end
section
variable {X : Cx} {ca : CA} {a b e : Expr} {fa fb f : PF} {pos p2 : Pos}
theorem d_eqA (hu : X.A.units + 64 < cLine) (ha : PE X a (RdW X.K ca fa)) (hb : PE X b (RdW X.K ca fb)) : PE X (.Compare a [.Eq] [b] pos) (RdP X.K ca (fOp gEqA fa fb)) := d_cmp (op_eq.or (op_eqD hu)) (okEqS.or okEq) ha hb (nomark _)
theorem d_neA (hu : X.A.units + 64 < cLine) (ha : PE X a (RdW X.K ca fa)) (hb : PE X b (RdW X.K ca fb)) : PE X (.Compare a [.NotEq] [b] pos) (RdP X.K ca (fOp gNeA fa fb)) := d_cmp (op_ne.or (op_neD hu)) (okNeS.or okNe) ha hb (nomark _)
theorem d_teqA (hu : X.A.units + 64 < cLine) (ha : PE X a (RdW X.K ca fa)) (hb : PE X b (RdW X.K ca fb)) : PT X (.Compare a [.Eq] [b] pos) (RdT X.K ca (tB' (fOp gEqA fa fb))) := d_tcmp (op_eq.or (op_eqD hu)) (okEqS.or okEq) ha hb (nomark _)
theorem d_tneA (hu : X.A.units + 64 < cLine) (ha : PE X a (RdW X.K ca fa)) (hb : PE X b (RdW X.K ca fb)) : PT X (.Compare a [.NotEq] [b] pos) (RdT X.K ca (tB' (fOp gNeA fa fb))) := d_tcmp (op_ne.or (op_neD hu)) (okNeS.or okNe) ha hb (nomark _)
theorem s_teqA {fa fb : SF} (hu : X.A.units + 64 < cLine) (ha : PE X a (RdI X.K ca fa)) (hb : PE X b (RdI X.K ca fb)) : PT X (.Compare a [.Eq] [b] pos) (RdTI X.K ca (sB (sOp gEqA fa fb))) := s_tcmp (op_eq.or (op_eqD hu)) (okEqS.or okEq) ha hb (nomark _)
/-- a module's constant -/
theorem d_gs {x z : Str} (hm : ∃ t, X.mg x = some (.str z t)) (hg : Gl X x) (hd : (x == ("__debug__" : Str)) = false := by decide) : PE X (.Name x pos) (RdP X.K ca (fC (.str z))) := by
  obtain ⟨t, h⟩ := hm
  exact d_c (pe_glob (v := .str z) hg h ⟨t, rfl⟩ hd) rfl
theorem d_gi {x : Str} {i : Int} (hm : ∃ t, X.mg x = some (.int i t)) (hg : Gl X x) (hd : (x == ("__debug__" : Str)) = false := by decide) : PE X (.Name x pos) (RdP X.K ca (fC (.int i))) := by
  obtain ⟨t, h⟩ := hm
  exact d_c (pe_glob (v := .int i) hg h ⟨t, rfl⟩ hd) rfl
/-- a chain as a value -/
theorem d_ch {c : Expr} {fc : PF} {op op' : CmpOp} {r r' : R2} {g g' : G2} {fa fb : PF} (ho : OpR X (compareOp op) r) (ho' : OpR X (compareOp op') r') (ok : OkG X.K ca r g) (ok' : OkG X.K ca r' g') (ha : PE X a (RdW X.K ca fa)) (hb : PE X b (RdW X.K ca fb)) (hc : PE X c (RdW X.K ca fc))
    (hm : lastMarks [op, op'] [b, c] = false := by with_unfolding_all rfl) : PE X (.Compare a [op, op'] [b, c] pos) (RdP X.K ca (fCh g g' fa fb fc)) := d_chain ho ho' ok ok' ha hb hc (pe_chain ho ho' ha hb hc hm)
/-- a chain as a test -/
theorem d_tch {c : Expr} {fc : PF} {op op' : CmpOp} {r r' : R2} {g g' : G2} (ho : OpR X (compareOp op) r) (ho' : OpR X (compareOp op') r') (ok : OkG X.K ca r g) (ok' : OkG X.K ca r' g') (ha : PE X a (RdW X.K ca fa)) (hb : PE X b (RdW X.K ca fb)) (hc : PE X c (RdW X.K ca fc))
    (hm : lastMarks [op, op'] [b, c] = false := by with_unfolding_all rfl) : PT X (.Compare a [op, op'] [b, c] pos) (RdT X.K ca (tB' (fCh g g' fa fb fc))) := PTimp (pt_chain ho ho' ha hb hc hm) fun σ H Q q => by
  obtain ⟨F, Hs, ρ, τ, b0, S, e, n⟩ := q
  have e := asB_some e
  unfold fCh at e
  split at e
  · rename_i x y z h1 h2 h3
    refine RdW.intro S h1 fun u Hs1 H1 t1 w1 => ?_
    refine RdW.intro (S.go t1) h2 fun v Hs2 H2 t2 w2 => ?_
    have S2 := (S.go t1).go t2
    split at e
    · rename_i hg
      refine ok F Hs2 H2 σ ρ τ u v x y _ _ S2 (w1.mono t2.e t2.k) w2 hg fun q Hs3 H3 t3 r3 => ?_
      cases r3
      refine ⟨true, rfl, ?_⟩
      rw [if_pos rfl]
      refine RdW.intro (S2.go t3) h3 fun w Hs4 H4 t4 w4 => ?_
      refine ok' F Hs4 H4 σ ρ τ v w y z (.bl b0) _ ((S2.go t3).go t4) ((w2.mono t3.e t3.k).mono t4.e t4.k) w4 e fun q5 Hs5 H5 t5 r5 => ?_
      cases r5
      exact ⟨b0, rfl, n Hs5 H5 ((((t1.trans t2).trans t3).trans t4).trans t5)⟩
    · rename_i hg
      cases e
      refine ok F Hs2 H2 σ ρ τ u v x y _ _ S2 (w1.mono t2.e t2.k) w2 hg fun q Hs3 H3 t3 r3 => ?_
      cases r3
      refine ⟨false, rfl, ?_⟩
      rw [if_neg Bool.false_ne_true]
      exact ⟨false, rfl, n _ _ ((t1.trans t2).trans t3)⟩
    · cases e
  · cases e
end
/-! ### slices -/
def cutD (xs : List D) (lo hi : Option Int) : List D := (xs.drop (HT.sIx xs.length 0 lo)).take (HT.sIx xs.length xs.length hi - HT.sIx xs.length 0 lo)
abbrev OF := En → Option (Option Int)
def RdO (K : PySem.W.Frag) (ca : CA) (f : OF) : TO := fun σ H Q => ∃ F Hs ρ τ o, SR K ca F Hs H σ ρ τ ∧ f ρ = some o ∧ ∀ Hs' H', Go Hs H Hs' H' → Q o H'
def oNo : OF := fun _ => some none
def oAt (f : PF) : OF := fun ρ => match f ρ with
  | some (.int i) => some (some i)
  | _ => none
def fSl (f : PF) (lo hi : OF) : PF := fun ρ => match f ρ, lo ρ, hi ρ with
  | some (.lst ds), some l, some h => some (.lst (cutD ds l h))
  | _, _, _ => none
theorem POimp {X : Cx} {o : Option Expr} {t t' : TO} (h : PO X o t) (i : ∀ σ H Q, t' σ H Q → t σ H Q) : PO X o t' := ⟨fun pins s σ H Q I q => h.run pins s σ H Q I (i σ H Q q)⟩
section
variable {X : Cx} {ca : CA} {e : Expr} {f : PF} {lo hi : OF} {l h : Option Expr} {pos p2 : Pos}
theorem o_no : PO X none (RdO X.K ca oNo) := POimp po_none fun σ H Q q => by
  obtain ⟨F, Hs, ρ, τ, o, S, e, n⟩ := q
  cases e
  exact n Hs H (Go.refl S.ex)
theorem o_at (he : PE X e (RdP X.K ca f)) : PO X (some e) (RdO X.K ca (oAt f)) := POimp (po_some he) fun σ H Q q => by
  obtain ⟨F, Hs, ρ, τ, o, S, e, n⟩ := q
  unfold oAt at e
  split at e
  · rename_i i h1
    cases e
    refine RdP.intro S h1 fun v Hs' H' t r => ?_
    cases r
    exact ⟨i, rfl, n Hs' H' t⟩
  · cases e
theorem cut_rp {K : PySem.W.Frag} {H : Hp} {vs : List V} {ds : List D} (r : RpAll K ca H vs ds) (a b : Option Int) : RpAll K ca H (cutV vs a b) (cutD ds a b) := by
  unfold cutV cutD
  rw [r.len]
  exact (r.drop _).take _
theorem d_sl (he : PE X e (RdW X.K ca f)) (hl : PO X l (RdO X.K ca lo)) (hh : PO X h (RdO X.K ca hi)) : PE X (.Subscript e (.Slice l h none p2) pos) (RdP X.K ca (fSl f lo hi)) := PEimp (pe_slice sl_list he hl hh) fun σ H Q q => by
  obtain ⟨F, Hs, ρ, τ, d, S, e, n⟩ := q
  unfold fSl at e
  split at e
  · rename_i ds x y h1 h2 h3
    cases e
    refine RdW.intro S h1 fun v Hs1 H1 t1 w => ?_
    refine ⟨F, Hs1, ρ, τ, x, S.go t1, h2, fun Hs2 H2 t2 => ⟨F, Hs2, ρ, τ, y, (S.go t1).go t2, h3, fun Hs3 H3 t3 => ?_⟩⟩
    obtain ⟨a, xs, rfl, k1, r⟩ := (w.mono (t2.trans t3).e (t2.trans t3).k).lst t3.x
    exact ⟨a, xs, rfl, sq_of k1, (n.to ((t1.trans t2).trans t3)).newL t3.x (cut_rp r x y)⟩
  · cases e
theorem d_rev {k : Nat} {p1 p3 p4 : Pos} (he : PE X e (RdW X.K ca f)) : PE X (.Subscript e (.Slice none none (some (.UnaryOp .USub (.Constant (.int 1) k p1) p4)) p3) pos) (RdP X.K ca (fun ρ => match f ρ with | some (.lst ds) => some (.lst ds.reverse) | _ => none)) := PEimp (pe_revL he) fun σ H Q q => by
  obtain ⟨F, Hs, ρ, τ, d, S, e, n⟩ := q
  dsimp only at e
  split at e
  · rename_i ds h1
    cases e
    refine RdW.intro S h1 fun v Hs1 H1 t1 w => ?_
    obtain ⟨a, xs, rfl, k1, r⟩ := w.lst t1.x
    have rr : ∀ {vs : List V} {ds : List D}, RpAll X.K ca Hs1 vs ds → RpAll X.K ca Hs1 vs.reverse ds.reverse := fun {vs ds} h => by
      induction h using RpAll.rec (motive_1 := fun _ _ _ => True) (motive_3 := fun _ _ _ => True) (motive_4 := fun _ _ _ => True) with
      | nil => exact .nil
      | cons h1 h2 _ ih => rw [List.reverse_cons, List.reverse_cons]; exact ih.app (.one h1)
      | _ => intros; trivial
    exact ⟨a, xs, rfl, sq_of k1, (n.to t1).newL t1.x (rr r)⟩
  · cases e
end
/-! ### methods -/
def fMt (g : D → List D → Option D) (fo : PF) (af : AF) : PF := fun ρ => match fo ρ, af ρ with
  | some x, some ds => g x ds
  | _, _ => none
def gIdxS : D → List D → Option D
  | .str a, [.str b] => (match Builtin.Str.occurrences a b 0 a.length 1 with
    | i :: _ => some (.int (i : Nat))
    | [] => none)
  | _, _ => none
def firstAt (p : PyData) : Nat → List PyData → Option Nat
  | _, [] => none
  | n, q :: qs => if PyData.eqv q p = true then some n else firstAt p (n + 1) qs
def gIdxL : D → List D → Option D := fun x ds => match x, ds with
  | .lst xs, [d] => (match pyS (.lst xs), pyS d with
    | some (.list ps), some p => (match firstAt p 0 ps with
      | some n => some (.int (n : Nat))
      | none => none)
    | _, _ => none)
  | _, _ => none
theorem firstAt_spec {p : PyData} : ∀ {ps : List PyData} {n k : Nat}, firstAt p n ps = some k → ∃ z, n ≤ k ∧ ps[k - n]? = some z ∧ PyData.eqv z p = true ∧ ∀ (m : Nat) (y : PyData), m < k - n → ps[m]? = some y → PyData.eqv y p = false
  | [], n, k, h => by cases h
  | q :: qs, n, k, h => by
    unfold firstAt at h
    split at h
    · rename_i c
      cases h
      exact ⟨q, Nat.le_refl _, by simp, c, fun m y hm => by omega⟩
    · rename_i c
      obtain ⟨z, h1, h2, h3, h4⟩ := firstAt_spec h
      have e1 : k - n = (k - (n + 1)) + 1 := by omega
      refine ⟨z, by omega, by rw [e1]; simpa using h2, h3, fun m y hm hy => ?_⟩
      cases m with
      | zero =>
        simp at hy
        subst hy
        exact Bool.eq_false_iff.mpr c
      | succ m => exact h4 m y (by omega) (by simpa using hy)
section
variable {X : Cx} {ca : CA} {o e : Expr} {fo : PF} {af : AF}
theorem d_idxS (h : PE X e (tBM X.K "str" (fun x xs H Q => ∃ a b i rest, x = .str a ∧ xs = [.str b] ∧ Builtin.Str.occurrences a b 0 a.length 1 = i :: rest ∧ Q (.int (i : Nat)) H) (RdW X.K ca fo) (RdAW X.K ca af))) : PE X e (RdP X.K ca (fMt gIdxS fo af)) := PEimp h fun σ H Q q => by
  obtain ⟨F, Hs, ρ, τ, d, S, e, n⟩ := q
  unfold fMt at e
  split at e
  · rename_i x ds h1 h2
    unfold gIdxS at e
    split at e
    · rename_i a b
      split at e
      · rename_i i rest hi
        cases e
        refine RdW.intro S h1 fun v Hs1 H1 t1 w => ?_
        obtain rfl := w.str
        refine ⟨rfl, F, Hs1, ρ, τ, _, S.go t1, h2, fun vs Hs2 H2 t2 w2 => ?_⟩
        obtain ⟨u, rfl, w3⟩ := wrs1 w2
        obtain rfl := w3.str
        exact ⟨a, b, i, rest, rfl, rfl, hi, (n.to (t1.trans t2)).here t2.x (.int _)⟩
      · cases e
    · cases e
  · cases e
theorem d_idxL (h : PE X e (tBM X.K "list" (rIndexD X.K) (RdW X.K ca fo) (RdAW X.K ca af))) : PE X e (RdP X.K ca (fMt gIdxL fo af)) := PEimp h fun σ H Q q => by
  obtain ⟨F, Hs, ρ, τ, d, S, e, n⟩ := q
  unfold fMt at e
  split at e
  · rename_i x ds h1 h2
    unfold gIdxL at e
    split at e
    · rename_i xs y
      split at e
      · rename_i ps p hp1 hp2
        split at e
        · rename_i k hk
          cases e
          refine RdW.intro S h1 fun v Hs1 H1 t1 w => ?_
          obtain ⟨a, vs0, rfl, k1, r⟩ := w.lst t1.x
          refine ⟨.inl ⟨rfl, vs0, sq_of k1⟩, F, Hs1, ρ, τ, _, S.go t1, h2, fun vs Hs2 H2 t2 w2 => ?_⟩
          obtain ⟨u, rfl, w3⟩ := wrs1 w2
          obtain ⟨a1, a2⟩ := pyS_dp t2.x (w.mono t2.e t2.k) hp1
          obtain ⟨b1, b2⟩ := pyS_dp t2.x w3 hp2
          obtain ⟨z, z0, z1, z2, z3⟩ := firstAt_spec hk
          exact ⟨a, u, p, ps, k, z, rfl, rfl, a1, b1, a2, b2, by simpa using z1, z2, fun m y hm hy => z3 m y (by omega) hy, (n.to (t1.trans t2)).here t2.x (.int _)⟩
        · cases e
      · cases e
    · cases e
  · cases e
end
end Dv

/-! Ef -/
/-! Ef: defs by their names. -/
namespace Dv
open PySem PySem.Spec PyProof.Rows L2 Evl LamX
variable [Nm]

/-- the module's name x is a def that keeps the promise -/
structure FnE (P : Program) (w : World) (K : PySem.W.Frag) (mg : Str → Option Value) (base : Heap) (x : Str) (k : Nat) (ps : List Str) (sp : Sp) : Prop where
  ex : ∃ fd, FnG P w K mg base k (He.ga K x) fd ps sp ∧ Binds K fd ps []
  kp : PySem.W.keepIn K (.ref (He.ga K x)) = true
  gl : mg x = some (.ref (He.ga K x))
def pick {α : Type} (is : List Nat) (xs : List α) : List α := is.filterMap fun i => xs[i]?
theorem pick_rel : ∀ (is : List Nat) {zs : List V} {ws : List Value}, Vals zs ws → Vals (pick is zs) (pick is ws)
  | [], _, _, _ => .nil
  | i :: is, zs, ws, r => by
    unfold pick
    rw [List.filterMap_cons, List.filterMap_cons]
    cases h : zs[i]? with
    | none =>
      rw [r.none_of h]
      exact pick_rel is r
    | some z =>
      obtain ⟨u, hu, ru⟩ := r.get h
      rw [hu]
      exact .cons ru (pick_rel is r)
theorem pick_rp {K : PySem.W.Frag} {ca : CA} {H : Hp} : ∀ (is : List Nat) {vs : List V} {ds : List D}, RpAll K ca H vs ds → RpAll K ca H (pick is vs) (pick is ds)
  | [], _, _, _ => .nil
  | i :: is, vs, ds, r => by
    unfold pick
    rw [List.filterMap_cons, List.filterMap_cons]
    cases h : ds[i]? with
    | none =>
      have h2 : vs[i]? = none := by
        rw [List.getElem?_eq_none_iff] at h ⊢
        rw [r.len]
        exact h
      rw [h2]
      exact pick_rp is r
    | some d =>
      obtain ⟨v, hv, rv⟩ := r.get h
      rw [hv]
      exact .cons rv (pick_rp is r)
/-- keywords alone -/
def kwOnly {α : Type} (is : List Nat) : List α → List α → List α
  | [], zs => pick is zs
  | _ :: _, _ => []
/-- .. called by keywords -/
structure FnK (P : Program) (w : World) (K : PySem.W.Frag) (mg : Str → Option Value) (base : Heap) (x : Str) (k : Nat) (ps ks : List Str) (is : List Nat) (sp : Sp) : Prop where
  ex : ∃ fd, FnG P w K mg base k (He.ga K x) fd ps sp ∧ KBinds K fd ps ks (kwOnly is) (kwOnly is)
  kp : PySem.W.keepIn K (.ref (He.ga K x)) = true
  gl : mg x = some (.ref (He.ga K x))
section
variable {X : Cx} {ca : CA} {k : Nat} {x : Str} {ps ks : List Str} {sp : Sp} {p pos kpos : Pos} {e : Expr} {es : List Expr} {kws : List Keyword} {t tk : TA} {f : PF} {r : AF} {is : List Nat} {nm : Option Str} {sem : SemP}
theorem e_call (F : FnE X.prog X.w X.K X.mg X.base x k ps sp) (gd : X.A.guards = some []) (hr : Room k X.A) (hg : Gl X x) (ha : PA X (e :: es) t)
    (hdb : (x == ("__debug__" : Str)) = false := by decide) (he : starEach (e :: es) X.env = (false, eval e X.env) :: starEach es X.env := by rfl) (hpl : (backTo pos (starEach es X.env)).any (·.1) = false := by rfl) : PE X (.Call (.Name x p) (e :: es) [] pos) (tCall sp [] E0 t) := by
  obtain ⟨fd, G, b⟩ := F.ex
  exact k_call gd G hr hg F.gl F.kp b .nil ha hdb he hpl
theorem PKimp {kws : List Keyword} {t t' : TA} (h : PK X kws t) (i : ∀ σ H Q, t' σ H Q → t σ H Q) : PK X kws t' := ⟨fun pos pins s σ H Q I q => h.run pos pins s σ H Q I (i σ H Q q)⟩
theorem kw_nil : PK X [] (RdA X.K ca aNil) := PKimp pk_nil fun σ H Q q => by
  obtain ⟨F, Hs, ρ, τ, ds, S, e, n⟩ := q
  cases e
  exact n [] Hs H (Go.refl S.ex) .nil
theorem kw_cons (he : PE X e (RdP X.K ca f)) (hr : PK X kws (RdA X.K ca r)) : PK X (⟨nm, e, kpos⟩ :: kws) (RdA X.K ca (aCons f r)) := PKimp (pk_cons he hr) fun σ H Q q => by
  obtain ⟨F, Hs, ρ, τ, ds, S, e, n⟩ := q
  unfold aCons at e
  split at e
  · rename_i d h1
    split at e
    · rename_i dr h2
      cases e
      refine RdP.intro S h1 fun v Hs1 H1 t1 r1 => ?_
      exact ⟨F, Hs1, ρ, τ, dr, S.go t1, h2, fun vs Hs2 H2 t2 r2 => n (v :: vs) Hs2 H2 (t1.trans t2) (.cons (r1.mono t2.e) r2)⟩
    · cases e
  · cases e
def aPick (is : List Nat) (af : AF) : AF := fun ρ => match af ρ with
  | some ds => some (pick is ds)
  | none => none
theorem e_callK {af : AF} (F : FnK X.prog X.w X.K X.mg X.base x k ps ks is (spP X.K ca sem)) (gd : X.A.guards = some []) (hr : Room k X.A) (hg : Gl X x) (ha : PK X kws (RdA X.K ca af))
    (hall : (backToKw pos (keywordEach kws X.env)).all (·.1.isSome) = true := by rfl) (hks : (backToKw pos (keywordEach kws X.env)).filterMap (·.1) = ks := by rfl) (hdb : (x == ("__debug__" : Str)) = false := by decide)
    (hpl : ((backTo pos (starEach [] X.env)).any (·.1) || (backToKw pos (keywordEach kws X.env)).any (·.1.isNone)) = false := by rfl) : PE X (.Call (.Name x p) [] kws pos) (RdP X.K ca (fCall sem (aPick is af))) := by
  obtain ⟨fd, G, b⟩ := F.ex
  refine PEimp (k_callK gd G hr hg F.gl F.kp b ha hall hks hdb hpl) fun σ H Q q => ?_
  obtain ⟨F, Hs, ρ, τ, d, S, e, n⟩ := q
  unfold fCall aPick at e
  split at e
  · rename_i ds h1
    split at h1
    · rename_i ds0 h0
      cases h1
      split at e
      · rename_i rv h2
        cases e
        refine ⟨F, Hs, ρ, τ, ds0, S, h0, fun vs Hs1 H1 t1 r1 => ?_⟩
        refine ⟨Hs1, pick is ds0, rv, (S.go t1).bs, pick_rp is r1, h2, fun v Hs2 H2 t2 r2 => ?_⟩
        obtain ⟨Hs3, t3, r3⟩ := rv_share t2 r2
        exact n v Hs3 H2 (t1.trans t3) r3
      · cases e
    · cases h1
  · cases e
end
/-- a def of the head's facts -/
theorem fnE_of {P : Program} {w : World} {K : PySem.W.Frag} {mg : Str → Option Value} {base : Heap} {x : Str} {k : Nat} {ps : List Str} {sp : Sp} {fd : FuncData} (G : FnG P w K mg base k (He.ga K x) fd ps sp) (b : Binds K fd ps []) (kp : PySem.W.keepIn K (.ref (He.ga K x)) = true) (gl : mg x = some (.ref (He.ga K x))) : FnE P w K mg base x k ps sp := ⟨⟨fd, G, b⟩, kp, gl⟩
end Dv

/-! Eh -/
/-! Eh: isinstance of data; len(set(ints)). -/
namespace Dv
open PySem PySem.Spec PyProof.Rows L2 Evl LamX
variable [Nm]

def tyN : D → Option String
  | .non => some "NoneType"
  | .bl _ => some "bool"
  | .int _ => some "int"
  | .str _ => some "str"
  | .lst _ => some "list"
  | .tup _ => some "tuple"
  | .dic _ => some "dict"
  | _ => none
def tyB (a b : String) : Bool := a == b || (a == "bool" && b == "int")
theorem ty_ok {K : PySem.W.Frag} {ca : CA} {H : Hp} {v : V} {d : D} {t : String} (r : Rp K ca H v d) (h : tyN d = some t) : TyX K H v (.type t) := by
  cases r with
  | non => cases h; exact .base .non
  | bl b => cases h; exact .base (.bl b)
  | int b => cases h; exact .base (.int b)
  | str b => cases h; exact .base (.str b)
  | lst h1 _ => cases h; exact .base (.lst h1)
  | tup h1 _ =>
    cases h
    exact .base (.tup h1)
  | ins _ _ => cases h
  | dic h1 _ => cases h; exact .base (.dK h1)
  | dit _ _ => cases h
  | scr _ => cases h
  | raw _ => cases h
theorem kit_tab {K : PySem.W.Frag} {d : D} {a : String} (h : tyN d = some a) : ∀ b ∈ ["int", "bool", "str", "list", "tuple"], PySem.W.kitOne K (.type a) (.type b) = some (tyB a b) := by
  have key : ∀ a ∈ ["NoneType", "bool", "int", "str", "list", "tuple", "dict"], ∀ b ∈ ["int", "bool", "str", "list", "tuple"], kitB a b = some (tyB a b) := by decide +kernel
  have ha : a ∈ ["NoneType", "bool", "int", "str", "list", "tuple", "dict"] := by
    cases d <;> simp [tyN] at h <;> subst h <;> simp
  exact fun b hb => kit_ty (key a ha b hb)
def fIsi (T : String) (f : PF) : PF := fun ρ => match f ρ with
  | some d => (match tyN d with
    | some a => some (.bl (tyB a T))
    | none => none)
  | none => none
def fIsi2 (T U : String) (f : PF) : PF := fun ρ => match f ρ with
  | some d => (match tyN d with
    | some a => some (.bl (tyB a T || tyB a U))
    | none => none)
  | none => none
section
variable {X : Cx} {ca : CA} {e : Expr} {f : PF}
theorem d_isi {T : String} (hT : T ∈ ["int", "bool", "str", "list", "tuple"]) (h : PE X e (tCB (rIsi X.K) (tCons (RdW X.K ca f) (tCons (tC (.ty T)) tNil)))) : PE X e (RdP X.K ca (fIsi T f)) := PEimp h fun σ H Q q => by
  obtain ⟨F, Hs, ρ, τ, d, S, e, n⟩ := q
  unfold fIsi at e
  split at e
  · rename_i d0 h1
    split at e
    · rename_i a ha
      cases e
      refine RdW.intro S h1 fun v Hs1 H1 t1 w => ?_
      exact ⟨v, .ty T, .type a, .type T, _, rfl, .ty T, ty_ok (w.rp t1.x) ha, kit_tab ha T hT, (n.to t1).here t1.x (.bl _)⟩
    · cases e
  · cases e
theorem d_isi2 {T U : String} (hT : T ∈ ["int", "bool", "str", "list", "tuple"]) (hU : U ∈ ["int", "bool", "str", "list", "tuple"]) (h : PE X e (tCB (rIsiT X.K) (tCons (RdW X.K ca f) (tCons (tTup (tCons (tC (.ty T)) (tCons (tC (.ty U)) tNil))) tNil)))) : PE X e (RdP X.K ca (fIsi2 T U f)) := PEimp h fun σ H Q q => by
  obtain ⟨F, Hs, ρ, τ, d, S, e, n⟩ := q
  unfold fIsi2 at e
  split at e
  · rename_i d0 h1
    split at e
    · rename_i a ha
      cases e
      refine RdW.intro S h1 fun v Hs1 H1 t1 w => ⟨by show 2 ≤ sizeLine; decide, fun p hp => ?_⟩
      have t2 : Go Hs1 H1 (upd Hs1 p (.tup [.ty T, .ty U])) (upd H1 p (.tup [.ty T, .ty U])) := Go.alloc t1.x nt_tup hp
      refine ⟨v, p, [.ty T, .ty U], .type a, [.type T, .type U], _, rfl, upd_same, .cons (.ty T) (.cons (.ty U) .nil), ty_ok ((w.mono t2.e t2.k).rp t2.x) ha, ?_, (n.to (t1.trans t2)).here t2.x (.bl _)⟩
      have k1 := kit_tab (K := X.K) ha T hT
      have k2 := kit_tab (K := X.K) ha U hU
      show PySem.W.kitAny X.K (.type a) [.type T, .type U] = some (tyB a T || tyB a U)
      unfold PySem.W.kitAny
      rw [k1]
      cases tyB a T with
      | true => rfl
      | false =>
        show PySem.W.kitAny X.K (.type a) [.type U] = some (tyB a U)
        unfold PySem.W.kitAny
        rw [k2]
        cases tyB a U <;> rfl
    · cases e
  · cases e
end
end Dv

/-! Ei -/
/-! Ei: fields, comprehensions that are assigned, walks over one's own list, items as targets. -/
namespace Dv
open PySem PySem.Spec PyProof.Rows L2 Evl LamX
variable [Nm]

/-! ### fields -/
def putD (f : Str) (d : D) : List (Str × D) → List (Str × D)
  | [] => [(f, d)]
  | (g, x) :: r => if g = f then (g, d) :: r else (g, x) :: putD f d r
def insF (o : Option D) (C f : Str) : Option D := match o with
  | some (.ins c fs) => if c = C then fs.lookup f else none
  | _ => none
def fFld (C f : Str) (p : PF) : PF := fun ρ => insF (p ρ) C f
def gFld (C f : Str) (i : Nat) (s : SF) : SS := fun ρ => match s ρ with
  | some (d, ρ1) => (match ρ1[i]? with
    | some (some (.own b (.ins c fs))) => if c = C ∧ fs.length < 900 then some (.nx (ρ1.set i (some (.own b (.ins c (putD f d fs)))))) else none
    | _ => none)
  | none => none
section
variable {K : PySem.W.Frag} {ca : CA}
theorem put_rp {H : Hp} {f : Str} {v : V} {d : D} (r : Rp K ca H v d) : ∀ {fs : List (Str × V)} {ds : List (Str × D)}, RpFs K ca H fs ds → RpFs K ca H (putF f v fs) (putD f d ds)
  | _, _, .nil => .cons r .nil
  | _, _, .cons (f := g) h hs => by
    unfold putF putD
    by_cases q : g = f
    · rw [if_pos q, if_pos q]; exact .cons r hs
    · rw [if_neg q, if_neg q]; exact .cons h (put_rp r hs)
theorem fs_len {H : Hp} : ∀ {fs : List (Str × V)} {ds : List (Str × D)}, RpFs K ca H fs ds → fs.length = ds.length
  | _, _, .nil => rfl
  | _, _, .cons _ hs => congrArg Nat.succ (fs_len hs)
end
/-- a class of the program: where it stands, that its fields are plain -/
structure ClsD (K : PySem.W.Frag) (ca : CA) (C : Str) (fs : List Str) : Prop where
  cls : Cls K (ca C)
  no : ∀ f ∈ fs, NoAttr K (ca C) f
section
variable {X : Cx} {ca : CA} {e o : Expr} {p : PF} {s : SF} {pos pos' : Pos} {C f : Str} {fl : List Str}
theorem d_fld (c : ClsD X.K ca C fl) (hf : f ∈ fl) (h : PE X e (RdW X.K ca p)) (hb : attributeBase e f X.env (eval e X.env) = eval e X.env := by rfl) : PE X (.Attribute e f pos) (RdP X.K ca (fFld C f p)) := PEimp (pe_fld h hb) fun σ H Q q => by
  obtain ⟨F, Hs, ρ, τ, d, S, e, n⟩ := q
  unfold fFld insF at e
  split at e
  · rename_i c' fs h1
    split at e
    · rename_i hc
      subst hc
      refine RdW.intro S h1 fun v Hs1 H1 t1 w => ?_
      obtain ⟨a, dx, vs, rfl, h2, r⟩ := w.ins t1.x
      obtain ⟨u, h3, h4⟩ := r.look e
      exact ⟨a, _, dx, vs, u, rfl, h2, c.cls, c.no f hf, h3, (n.to t1).here t1.x h4⟩
    · cases e
  · cases e
/-- o.f = e, o an object of one's own -/
theorem g_fld {i : Nat} (c : ClsD X.K ca C fl) (hf : f ∈ fl) (ho : PE X o (tVar i)) (h : PE X e (RdI X.K ca s)) (hs : swapsWith e (some (.Attribute o f pos')) pos.line X.env = pure false := by rfl) : PS X (.Assign [.Attribute o f pos'] e pos) (RdS X.K ca (gFld C f i s)) := PSimp (ps_fld ho h hs) fun D σ H q => by
  obtain ⟨F, Hs, ρ, o, S, e, n⟩ := q
  unfold gFld at e
  split at e
  · rename_i d ρ1 h1
    split at e
    · rename_i b c' fs h2
      split at e
      · rename_i hc
        obtain ⟨rfl, hl⟩ := hc
        cases e
        refine RdI.intro S h1 fun v Hs' H' e1 S' r => ?_
        obtain ⟨a, k1, k2, k3, k4⟩ := S'.ownAt h2
        obtain ⟨dx, vs, k5, k6⟩ := obi k4
        refine ⟨_, k1, a, _, dx, vs, rfl, k5, c.cls, c.no f hf, by rw [fs_len k6]; omega, n _ Hs' _ e1 ?_⟩
        refine S'.write h2 k1 (Ex.refl _) (fun c u hc => ?_) (fun c u hc hu _ => ?_) th_new (fun c hc _ => hc) S'.nt (tb_put S'.tb k5 (fun _ z => nomatch z) fun _ _ z => nomatch z) ⟨_, upd_same, .ins (put_rp r k6)⟩
        · rw [upd_ne (fun z => by rw [z, k2] at hc; cases hc)]
          exact S'.ex c u hc
        · rw [upd_ne hc]
          exact hu
      · cases e
    · cases e
  · cases e
end
/-! ### name = [..] -/
section
variable {X : Cx} {ca : CA}
theorem g_setLc {i : Nat} {y : Str} {py : Pos} {elt tg iter : Expr} {ifs : List Expr} {scope : Scope} {own : List (Str × Nat)} {pos spos : Pos} {it : AF} {g : Tg} {ft : TF} {fe : PF} (hc : X.calm = true) (hN : X.N.Nodup) (hy : X.N[i]? = some y) (hyl : X.env.scope.names.lookup y = some .local)
    (hsw : swapsWith (.ListComp elt [⟨tg, iter, ifs, 0⟩] scope pos) (some (.Name y py)) spos.line X.env = pure true) (hi : PI X tg iter (RdIW X.K ca it)) (ok : BlkOk X.N X.env.scope scope own)
    (hg : ∀ (s : Shared) (H : Hp) (C : Addr) (cl : List (Str × Addr)) (fp : List Addr), PG (X.blk s H scope (compEnvC scope cl C X.env) fp) tg (gTg X.K g)) (ht : ∀ (s : Shared) (H : Hp) (C : Addr) (cl : List (Str × Addr)) (fp : List Addr), PTs (X.blk s H scope (compEnvC scope cl C X.env) fp) ifs (RdT X.K ca ft))
    (he : ∀ (s : Shared) (H : Hp) (C : Addr) (cl : List (Str × Addr)) (fp : List Addr), PE (X.blk s H scope (compEnvC scope cl C X.env) fp) elt (RdP X.K ca fe)) (hsub : ∀ i ∈ g.slots, i ∈ own.map (·.2)) (hs : ∀ x, foldedSetIterable iter X.env x = pure x := by intro _; rfl) :
    PS X (.Assign [.Name y py] (.ListComp elt [⟨tg, iter, ifs, 0⟩] scope pos) spos) (RdS X.K ca (gSet i (sP (fLc it g ft fe (own.map (·.2)))))) := PSimp (ps_setLc hc hN hy hyl hsw hi ok hg ht he hs) fun D σ H q => by
  obtain ⟨F, Hs, ρ, o, S, e, n⟩ := q
  unfold gSet sP at e
  split at e
  · rename_i d ρ1 h0
    split at h0
    · rename_i d' h1
      cases h0
      split at e
      · rename_i hi
        cases e
        exact rd_lc hsub (RdP.intro S h1 fun v Hs' H' t r => n _ Hs' H' t.e ((S.go t).setS (by rw [← S.ln]; exact hi) r))
      · cases e
    · cases h0
  · cases e
end
/-! ### a walk over one's own list -/
def RdIF (K : PySem.W.Frag) (ca : CA) (i : Nat) : TI := fun σ H R => ∃ F Hs ρ τ ds ρ', SR K ca F Hs H σ ρ τ ∧ sFrz i ρ = some (.lst ds, ρ') ∧ ∀ J Hs' H', Ex Hs Hs' → SR K ca F Hs' H' σ ρ' τ → ItOk K ca Hs' Hs' J ds → R J H'
def gForF (i : Nat) (tg : Tg) (g : SS) : SS := fun ρ => match sFrz i ρ with
  | some (.lst ds, ρ') => forGo tg g ds ρ'
  | _ => none
section
variable {X : Cx} {ca : CA} {tg e : Expr}
theorem i_frz {i : Nat} (he : PE X e (tVar i)) : PI X tg e (RdIF X.K ca i) := PIimp (pi_list he) fun σ H R q => by
  obtain ⟨F, Hs, ρ, τ, ds, ρ', S, e, n⟩ := q
  unfold sFrz at e
  split at e
  · rename_i d h
    cases e
    obtain ⟨v, hv, r⟩ := S.sl i _ h
    cases r with
    | lst h1 h2 => exact ⟨_, hv, _, rfl, ⟨_, sq_of (S.ex _ _ h1)⟩, n _ Hs H (Ex.refl _) S (itL h1 h2)⟩
  · rename_i o h
    have e' := Option.some.inj e
    obtain ⟨e1, e2⟩ := Prod.mk.inj e'
    subst e2
    obtain ⟨Hs', a, S', e', hv, r⟩ := S.freezeS h
    rw [e1] at r
    cases r with
    | lst h1 h2 => exact ⟨_, hv, a, rfl, ⟨_, sq_of (S'.ex _ _ h1)⟩, n _ Hs' H e' S' (itL h1 h2)⟩
  · cases e
theorem rd_forF {K : PySem.W.Frag} {i : Nat} {tg : Tg} {g : SS} {D : Ends} {σ : L2.St} {H : Hp} (q : RdS K ca (gForF i tg g) D σ H) : tFor (RdIF K ca i) (gTg K tg) (RdS K ca g) D σ H := by
  obtain ⟨F, Hs, ρ, o, S, e, n⟩ := q
  unfold gForF at e
  split at e
  rotate_left
  · cases e
  rename_i ds ρ0 hit
  refine ⟨F, Hs, ρ, [], ds, ρ0, S, hit, fun J Hs1 H1 t1 S1 ok => ?_⟩
  obtain ⟨G, Y, w, hG, hY⟩ := ok
  refine for_it w (fun i σ' H' => ∃ Hs' ρ', Ex Hs1 Hs' ∧ SR K ca F Hs' H' σ' ρ' [] ∧ ((forGo tg g (ds.drop i) ρ' = some o ∧ i ≤ ds.length) )) ⟨Hs1, ρ0, Ex.refl _, S1, e, Nat.zero_le _⟩
    (fun i σ' H' hi ⟨Hs', ρ', e1, S', _⟩ => hG H' (ExtN.of (e1.trans S'.ex))) (fun i x σ' H3 H4 hi hp hy => ?_) fun σ' H' hp => ?_
  · obtain ⟨Hs3, ρ3, e3, S3, g3, _⟩ := hp
    obtain ⟨Hs4, d, t4, hd, rd⟩ := hY i x Hs3 H3 H4 e3 S3.ex hi hy
    have dd : ds.drop i = d :: ds.drop (i + 1) := by
      rw [List.drop_eq_getElem_cons hi]
      congr 1
      rw [List.getElem?_eq_getElem hi] at hd
      exact Option.some.inj hd
    rw [dd] at g3
    obtain ⟨ρ4, h4, y, h5, h6⟩ := forGo_step g3
    refine tg_ok (S3.go t4) rd h4 fun σ5 S5 _ => ?_
    refine RdS.intro S5 h5 ?_
    have e4 := e3.trans t4.e
    rcases h6 with ⟨ρ6, hy, h7⟩ | ⟨ρ6, rfl, rfl⟩ | ⟨r, ρ6, rfl, rfl⟩
    · rcases hy with rfl | rfl
      · exact fun σ7 Hs7 H7 e7 S7 => ⟨Hs7, ρ6, e4.trans e7, S7, h7, hi⟩
      · exact fun σ7 Hs7 H7 e7 S7 => ⟨Hs7, ρ6, e4.trans e7, S7, h7, hi⟩
    · exact fun σ7 Hs7 H7 e7 S7 => n σ7 Hs7 H7 (t1.trans (e4.trans e7)) S7
    · exact fun v Hs7 H7 e7 R7 => n v Hs7 H7 (t1.trans (e4.trans e7)) R7
  · obtain ⟨Hs', ρ', e1, S', g', _⟩ := hp
    rw [List.drop_length] at g'
    cases g'
    exact n σ' Hs' H' (t1.trans e1) S'
theorem g_forF {i : Nat} {tg : Tg} {g : SS} {te iter : Expr} {body : List Stmt} {pos : Pos} (hp : PS X (.For te iter body [] pos) (tFor (RdIF X.K ca i) (gTg X.K tg) (RdS X.K ca g))) : PS X (.For te iter body [] pos) (RdS X.K ca (gForF i tg g)) := PSimp hp fun _ _ _ q => rd_forF q
end
/-! ### items as targets -/
def setItem (i : Nat) (n : Nat) (d : D) (ρ : En) : Option En := match ownL ρ i with
  | some (b, ds) => if n < ds.length then some (ρ.set i (some (.own b (.lst (ds.set n d))))) else none
  | none => none
def gItem (i n : Nat) (f : SF) : SS := fun ρ => match f ρ with
  | some (d, ρ1) => (match setItem i n d ρ1 with
    | some ρ2 => some (.nx ρ2)
    | none => none)
  | none => none
/-- xs[n], y = e -/
def gItem2 (i n j : Nat) (f : SF) : SS := fun ρ => match f ρ with
  | some (.tup [a, b], ρ1) => (match setItem i n a ρ1 with
    | some ρ2 => if j < ρ2.length then some (.nx (ρ2.set j (some (.sh b)))) else none
    | none => none)
  | _ => none
section
variable {X : Cx} {ca : CA} {K : PySem.W.Frag} {F : Fx} {Hs H : Hp} {σ : L2.St} {ρ ρ' : En} {τ : List (Addr × Ob)}
theorem item_ok {i n : Nat} {d : D} {v : V} (S : SR K ca F Hs H σ ρ τ) (r : Rp K ca Hs v d) (h : setItem i n d ρ = some ρ') {Q : L2.St → Hp → Prop} (q : ∀ H', SR K ca F Hs H' σ ρ' τ → Q σ H') :
    L2.gSub (tVar i) (tC (.int (n : Int))) rSetL v σ H Q := by
  unfold setItem at h
  split at h
  · rename_i b ds h1
    split at h
    · rename_i hn
      cases h
      obtain ⟨a, k1, k2, k3, k4⟩ := S.ownAt (ownL_some h1)
      obtain ⟨vs, k5, k6⟩ := obl k4
      refine ⟨_, k1, a, vs, n, n, rfl, rfl, k5, ?_, q _ (S.grow (ownL_some h1) k1 (k6.set n r))⟩
      unfold ixN
      rw [k6.len, if_pos (Int.natCast_nonneg n), if_pos (by omega), Int.toNat_natCast]
    · cases h
  · cases h
theorem g_item {i n : Nat} {f : SF} {tg e : Expr} {pos : Pos} (hp : PS X (.Assign [tg] e pos) (tAsg (RdI X.K ca f) (L2.gSub (tVar i) (tC (.int (n : Int))) rSetL))) : PS X (.Assign [tg] e pos) (RdS X.K ca (gItem i n f)) := PSimp hp fun D σ H q => by
  obtain ⟨F, Hs, ρ, o, S, e, n⟩ := q
  unfold gItem at e
  split at e
  · rename_i d ρ1 h1
    split at e
    · rename_i ρ2 h2
      cases e
      exact RdI.intro S h1 fun v Hs' H' e1 S' r => item_ok S' r h2 fun H2 S2 => n _ Hs' H2 e1 S2
    · cases e
  · cases e
theorem g_item2 {i n j : Nat} {f : SF} {tg e : Expr} {pos : Pos} (hp : PS X (.Assign [tg] e pos) (tAsg (RdI X.K ca f) (gTup X.K 2 (gCons (L2.gSub (tVar i) (tC (.int (n : Int))) rSetL) (gCons (gName j) gNil))))) : PS X (.Assign [tg] e pos) (RdS X.K ca (gItem2 i n j f)) := PSimp hp fun D σ H q => by
  obtain ⟨F, Hs, ρ, o, S, e, n⟩ := q
  unfold gItem2 at e
  split at e
  · rename_i a b ρ1 h1
    split at e
    · rename_i ρ2 h2
      split at e
      · rename_i hj
        cases e
        refine RdI.intro S h1 fun v Hs' H' e1 S' r => ?_
        cases r with
        | tup h3 h4 =>
          cases h4 with
          | cons ra h4 =>
            cases h4 with
            | cons rb h4 =>
              cases h4
              refine ⟨_, _, rfl, st_of (S'.ex _ _ h3), rfl, _, _, rfl, item_ok S' ra h2 fun H2 S2 => ?_⟩
              exact ⟨_, _, rfl, rfl, n _ Hs' H2 e1 (S2.setS (by rw [← S2.ln]; exact hj) rb)⟩
      · cases e
    · cases e
  · cases e
end
/-! ### a list some times over, the numbers between, how many unlike -/
section
variable {K : PySem.W.Frag} {ca : CA}
theorem okRepL : OkG K ca rRep gRepL := fun F Hs H σ ρ τ x y dx dy d Q S wx wy e n => by
  unfold gRepL at e
  split at e
  · rename_i ds k
    split at e
    · rename_i c
      cases e
      obtain ⟨a, xs, rfl, h1, r⟩ := wx.lst S.ex
      obtain rfl := wy.int
      refine ⟨a, k, xs, rfl, rfl, h1, by omega, by omega, ?_, n.newL S.ex (rep_rp r _)⟩
      rw [r.len]
      have h1 : ds.length * k.toNat ≤ 100 * 1000 := Nat.mul_le_mul c.2.1 (by omega)
      exact sz_of h1
    · cases e
  · cases e
end
section
variable {X : Cx} {ca : CA} {a b e : Expr} {fa fb : PF} {sa sb : SF} {pos : Pos}
theorem okMulA : OkG X.K ca (fun x y H Q => (rI CMul (fun i j => .int (i * j)) x y H Q) ∨ rRep x y H Q) gMulA := (okII (fun _ _ => rfl) fun i j h => by
  rcases (Bool.or_eq_true _ _).mp h with h | h
  · exact .inl (b64_ok h)
  · exact .inr (b64_ok h)).or okRepL
theorem d_mulA (ha : PE X a (RdW X.K ca fa)) (hb : PE X b (RdW X.K ca fb)) : PE X (.BinOp a .Mult b pos) (RdP X.K ca (fOp gMulA fa fb)) := d_op (op_mul.or op_rep) okMulA ha hb
theorem s_mulA (ha : PE X a (RdI X.K ca sa)) (hb : PE X b (RdI X.K ca sb)) : PE X (.BinOp a .Mult b pos) (RdI X.K ca (sOp gMulA sa sb)) := s_op (op_mul.or op_rep) okMulA ha hb
def nRng (i : Int) (fb : PF) : NF' := fun ρ => match fb ρ with
  | some (.int j) => if 0 ≤ i ∧ i ≤ 1000 ∧ 0 ≤ j ∧ j ≤ 1000 then some (.lst ((List.range (j - i).toNat).map fun (k : Nat) => .int (i + k)), ρ) else none
  | _ => none
theorem rgV_rp {K : PySem.W.Frag} {H : Hp} {i j : Int} : RpAll K ca H (rgV i j) ((List.range (j - i).toNat).map fun (k : Nat) => .int (i + k)) := by
  unfold rgV
  have key : ∀ l : List Nat, RpAll K ca H (l.map fun (k : Nat) => V.int (i + k)) (l.map fun (k : Nat) => D.int (i + k)) := fun l => by
    induction l with
    | nil => exact .nil
    | cons a l ih => exact .cons (.int _) ih
  exact key _
/-- list(range(i, e)) -/
theorem n_rng {i : Int} (h : PE X e (tLstRg (tRg2 (tC (.int i)) (RdP X.K ca fb)))) : PE X e (RdN X.K ca (nRng i fb)) := PEimp h fun σ H Q q => by
  obtain ⟨F, Hs, ρ, τ, o, ρ', S, e, n⟩ := q
  unfold nRng at e
  split at e
  · rename_i j h1
    split at e
    · rename_i c
      cases e
      refine RdP.intro S h1 fun v Hs1 H1 t1 r => ?_
      cases r
      exact ⟨i, j, rfl, rfl, RgOk.of_le c.1 (by omega) (by omega) c.2.2.1, fun q hq => n q Hs1 _ t1.e ((S.go t1).temp hq rgV_rp)⟩
    · cases e
  · cases e
/-- how many unlike ones -/
def dl (is : List Int) : Nat := (is.foldl PyProof.Rows.step_dedup []).length
theorem dd_mem : ∀ (is acc : List Int) (x : Int), x ∈ is.foldl PyProof.Rows.step_dedup acc ↔ x ∈ acc ∨ x ∈ is
  | [], acc, x => by simp
  | y :: is, acc, x => by
    rw [List.foldl_cons, dd_mem is]
    unfold PyProof.Rows.step_dedup
    split
    · rename_i h
      obtain ⟨z, hz, e⟩ := List.any_eq_true.mp h
      have e : z = y := by simpa using e
      subst e
      rw [List.mem_cons]
      constructor
      · rintro (q | q)
        · exact .inl q
        · exact .inr (.inr q)
      · rintro (q | q | q)
        · exact .inl q
        · subst q; exact .inl hz
        · exact .inr q
    · rw [List.mem_append, List.mem_singleton, List.mem_cons, or_assoc]
theorem dd_nodup : ∀ (is acc : List Int), acc.Nodup → (is.foldl PyProof.Rows.step_dedup acc).Nodup
  | [], acc, h => h
  | y :: is, acc, h => by
    rw [List.foldl_cons]
    refine dd_nodup is _ ?_
    unfold PyProof.Rows.step_dedup
    split
    · exact h
    · rename_i q
      rw [List.nodup_append]
      refine ⟨h, by simp, fun a ha b hb e => q ?_⟩
      have hb : b = y := List.mem_singleton.mp hb
      exact List.any_eq_true.mpr ⟨a, ha, by rw [e, hb]; simp⟩
theorem dl_eq {is l : List Int} (h : l.Nodup) (m : ∀ x, x ∈ l ↔ x ∈ is) : l.length = dl is :=
  ((List.perm_ext_iff_of_nodup h (dd_nodup is [] List.nodup_nil)).mpr fun x => by rw [m, dd_mem]; simp).length_eq
theorem dl_nodup {is : List Int} (h : is.Nodup) : dl is = is.length := (dl_eq h fun _ => Iff.rfl).symm
def fLenSet (f : PF) : PF := fun ρ => match f ρ with
  | some (.lst ds) => (match intsD ds with
    | some is => if is.length < 64 ∧ is.Nodup then some (.int is.length) else if is.length < 64 then some (.int (dl is)) else none
    | none => none)
  | some (.tup ds) => (match intsD ds with
    | some is => if is.length < 64 ∧ is.Nodup then some (.int is.length) else if is.length < 64 then some (.int (dl is)) else none
    | none => none)
  | _ => none
theorem getD_range (ns : List Int) : (List.range ns.length).map (fun i => ns.getD i 0) = ns := by
  apply List.ext_getElem
  · simp
  · intro i h1 h2
    have h3 : i < ns.length := h2
    simp [h3]
def tLenSetA (K : PySem.W.Frag) (ta : TE) : TE := fun σ H Q => ta σ H fun x H1 => ∃ (l : Addr) (ns : List Int), x = V.ref l ∧ (SqL K H1 l (ns.map V.int) ∨ SqT K H1 l (ns.map V.int)) ∧ ns.length < 64 ∧ Q (.int (dl ns)) H1
theorem ints_of : ∀ {ns : List Int} {us : List Value}, Vals (ns.map V.int) us → PyProof.Rows.IntsAre us ns
  | [], _, .nil => .nil
  | n :: _, _, .cons ⟨k, e⟩ t => by subst e; exact .cons n k (ints_of t)
theorem pe_lenSetA {p p2 q pos : Pos} {ta : TE} (hc : X.calm = true) (hg : Gl X "len") (hm : X.mg "len" = none) (hg2 : Gl X "set") (hm2 : X.mg "set" = none) (ha : PE X a ta)
    (na : starEach [a] X.env = (false, eval a X.env) :: starEach [] X.env := by rfl) : PE X (.Call (.Name "len" p) [.Call (.Name "set" p2) [a] [] q] [] pos) (tLenSetA X.K ta) := by
  constructor
  intro pins s σ H Q I h
  refine Call_ (ld_blt I hg hm PySem.boot_len (PyProof.Rows.callWith_builtin1 (PyProof.Rows.args_cons (Call_ (ld_blt I hg2 hm2 PyProof.Rows.boot_set (PyProof.Rows.callWith_type1 (PyProof.Rows.args_cons (thn (ha.run pins s σ H _ I h) fun v s1 z => PyProof.Rows.args_nil ?_) na) na rfl))) rfl) rfl rfl))
  obtain ⟨x, H1, I1, r1, l, ns, e, hq, h1, w⟩ := z
  subst e
  cases r1
  have lt0 : dl ns ≤ ns.length := by
    have q := PyProof.Rows.firstMet_length_le (fun i => ns.getD i 0) ns.length
    unfold PyProof.Rows.firstMet at q
    rw [getD_range] at q
    exact q
  have lt : (dl ns : Int) < 2 ^ 63 := by omega
  rcases hq with hq | hq
  · obtain ⟨us, r, pl, _⟩ := I1.list hq
    have hl : us.toArray.size = ns.length := by rw [List.size_toArray, ← r.length, List.length_map]
    apply PySem.call_set_list (ns := ns) (I1.ok.hd hc) pl.isList (by simpa using ints_of r) (by unfold scanBound; omega)
    intro h' tk hS hk
    apply PyProof.Rows.args_nil
    have ef : (PyProof.Rows.firstMet (fun i => ns.getD i 0) ns.length).length = dl ns := by
      unfold PyProof.Rows.firstMet
      rw [getD_range]
      rfl
    rw [hl, ef] at hS
    obtain ⟨o, es, ep, t, ho, hex, hd, _, _, _, hf, hn⟩ := hS
    have I2 : Inv X pins σ H1 { s1 with heap := h', toks := tk } := I1.kept fun b o e => hk b o (Heap.lt_size e) e
    exact call_len_set ho hex hd hf (by rw [hn]; exact lt) ⟨.int (dl ns), H1, I2.tok _, ⟨_, by rw [hn]⟩, w⟩
  · obtain ⟨us, r, pl, _⟩ := I1.tuple hq
    apply L2.call_set_tupI ns (I1.ok.hd hc) (show s1.heap.IsTuple l us.toArray from pl) (by simpa using ints_of r) (by unfold scanBound; omega)
    intro h' tk c hS _ hk
    apply PyProof.Rows.args_nil
    obtain ⟨o, es, ep, t, ho, hex, hd, _, nd, mem, _, hf, hn, _⟩ := hS
    have en : es.size = dl ns := by
      have := dl_eq (is := ns) nd fun k => by rw [← mem k, decide_eq_true_iff]
      simpa using this
    have I2 : Inv X pins σ H1 { s1 with heap := h', toks := tk } := I1.kept hk
    exact call_len_set ho hex hd hf (by rw [en]; exact lt) ⟨.int (dl ns), H1, I2.tok _, ⟨_, by rw [en]⟩, w⟩
theorem d_lenSet {f : PF} (h : PE X e (tLenSetA X.K (RdW X.K ca f))) : PE X e (RdP X.K ca (fLenSet f)) := PEimp h fun σ H Q q => by
  obtain ⟨F, Hs, ρ, τ, d, S, e, n⟩ := q
  unfold fLenSet at e
  split at e
  · rename_i ds h1
    split at e
    · rename_i is h2
      have hd : is.length < 64 ∧ d = .int (dl is) := by
        split at e
        · rename_i c
          cases e
          exact ⟨c.1, by rw [dl_nodup c.2]⟩
        · split at e
          · rename_i c
            cases e
            exact ⟨c, rfl⟩
          · cases e
      obtain ⟨c, rfl⟩ := hd
      refine RdW.intro S h1 fun v Hs1 H1 t1 w => ?_
      obtain ⟨a, xs, rfl, k1, r⟩ := w.lst t1.x
      rw [intsD_vs r h2] at k1
      exact ⟨a, is, rfl, .inl (sq_of k1), c, (n.to t1).here t1.x (.int _)⟩
    · cases e
  · rename_i ds h1
    split at e
    · rename_i is h2
      have hd : is.length < 64 ∧ d = .int (dl is) := by
        split at e
        · rename_i c
          cases e
          exact ⟨c.1, by rw [dl_nodup c.2]⟩
        · split at e
          · rename_i c
            cases e
            exact ⟨c, rfl⟩
          · cases e
      obtain ⟨c, rfl⟩ := hd
      refine RdW.intro S h1 fun v Hs1 H1 t1 w => ?_
      obtain ⟨a, xs, rfl, k1, r⟩ := w.tup t1.x
      rw [intsD_vs r h2] at k1
      exact ⟨a, is, rfl, .inr k1, c, (n.to t1).here t1.x (.int _)⟩
    · cases e
  · cases e
end
end Dv

/-! Ej -/
/-! Ej: the rules in the form that the printed derivations use. -/
namespace Dv
open PySem PySem.Spec PyProof.Rows L2 Evl LamX
variable [Nm]

theorem hu_eq {k : Nat} {A : Around} (r : Room k A) : A.units + 64 < cLine := r.units
theorem hu_in {k : Nat} {A : Around} (r : Room k A) : A.units + 65 < cLine := by have := r.un; omega
/-- the j-th statement of a class -/
def mth (st : Stmt) (j : Nat) : Stmt := match st with
  | .ClassDef _ _ _ body _ _ _ _ _ _ _ => body.getD j (.Pass ⟨0, 0, 0, 0⟩)
  | _ => .Pass ⟨0, 0, 0, 0⟩
section
variable {X : Cx} {ca : CA} {e o : Expr} {f : PF} {s sa sb : SF} {af : AF} {pos p p2 p3 apos cpos : Pos}
theorem w_isi (T : String) (hT : T ∈ ["int", "bool", "str", "list", "tuple"]) (hm : X.mg "isinstance" = none) (hg : Gl X "isinstance") (hm2 : X.mg (Str.ofString T) = none) (hg2 : Gl X (Str.ofString T)) (hv : bootBuiltins (Str.ofString T) = some (.type T)) (h : PE X e (RdW X.K ca f))
    (hn : Str.ofString T ≠ "__name__" := by decide) (hd : (Str.ofString T == ("__debug__" : Str)) = false := by decide) (hs : starEach [e, .Name (Str.ofString T) p2] X.env = (false, eval e X.env) :: starEach [.Name (Str.ofString T) p2] X.env := by rfl) (hs2 : starEach [.Name (Str.ofString T) p2] X.env = (false, eval (.Name (Str.ofString T) p2) X.env) :: starEach [] X.env := by rfl) (hpl : (backTo pos (starEach [.Name (Str.ofString T) p2] X.env)).any (·.1) = false := by rfl) :
    PE X (.Call (.Name "isinstance" p) [e, .Name (Str.ofString T) p2] [] pos) (RdP X.K ca (fIsi T f)) :=
  d_isi hT (pe_callB call_isi hg hm (by decide +kernel) (pa_cons h (pa_cons (pe_bltn (v := .ty T) hg2 hm2 hv rfl hn hd) pa_nil hs2) hs) (by decide) (by decide) hs hpl)
theorem w_isi2 (T U : String) {x1 : Nat} (hT : T ∈ ["int", "bool", "str", "list", "tuple"]) (hU : U ∈ ["int", "bool", "str", "list", "tuple"]) (hm : X.mg "isinstance" = none) (hg : Gl X "isinstance") (hm2 : X.mg (Str.ofString T) = none) (hg2 : Gl X (Str.ofString T)) (hm3 : X.mg (Str.ofString U) = none) (hg3 : Gl X (Str.ofString U))
    (hv : bootBuiltins (Str.ofString T) = some (.type T)) (hv3 : bootBuiltins (Str.ofString U) = some (.type U)) (h : PE X e (RdW X.K ca f))
    (hn : Str.ofString T ≠ "__name__" := by decide) (hd : (Str.ofString T == ("__debug__" : Str)) = false := by decide) (hn3 : Str.ofString U ≠ "__name__" := by decide) (hd3 : (Str.ofString U == ("__debug__" : Str)) = false := by decide)
    (hs : starEach [e, .Tuple [.Name (Str.ofString T) p2, .Name (Str.ofString U) p3] x1 apos] X.env = (false, eval e X.env) :: starEach [.Tuple [.Name (Str.ofString T) p2, .Name (Str.ofString U) p3] x1 apos] X.env := by rfl)
    (hs2 : starEach [.Tuple [.Name (Str.ofString T) p2, .Name (Str.ofString U) p3] x1 apos] X.env = (false, eval (.Tuple [.Name (Str.ofString T) p2, .Name (Str.ofString U) p3] x1 apos) X.env) :: starEach [] X.env := by rfl)
    (hs3 : starEach [.Name (Str.ofString T) p2, .Name (Str.ofString U) p3] X.env = (false, eval (.Name (Str.ofString T) p2) X.env) :: starEach [.Name (Str.ofString U) p3] X.env := by rfl)
    (hs4 : starEach [.Name (Str.ofString U) p3] X.env = (false, eval (.Name (Str.ofString U) p3) X.env) :: starEach [] X.env := by rfl)
    (hpl : (backTo pos (starEach [.Tuple [.Name (Str.ofString T) p2, .Name (Str.ofString U) p3] x1 apos] X.env)).any (·.1) = false := by rfl) :
    PE X (.Call (.Name "isinstance" p) [e, .Tuple [.Name (Str.ofString T) p2, .Name (Str.ofString U) p3] x1 apos] [] pos) (RdP X.K ca (fIsi2 T U f)) :=
  d_isi2 hT hU (pe_callB call_isiT hg hm (by decide +kernel) (pa_cons h (pa_cons (pe_tup (pa_cons (pe_bltn (v := .ty T) hg2 hm2 hv rfl hn hd) (pa_cons (pe_bltn (v := .ty U) hg3 hm3 hv3 rfl hn3 hd3) pa_nil hs4) hs3)) pa_nil hs2) hs) (by decide) (by decide) hs hpl)
def fRev (f : PF) : PF := fun ρ => match f ρ with | some (.lst ds) => some (.lst ds.reverse) | _ => none
def fNtT (f : PF) : PF := fun ρ => match f ρ with
  | some d => (match truD d with
    | some b => some (.bl (!b))
    | none => none)
  | none => none
theorem d_notT (h : PE X e (RdW X.K ca f)) : PE X (.UnaryOp .Not e pos) (RdP X.K ca (fNtT f)) := PEimp (pe_notT h) fun σ H Q q => by
  obtain ⟨F, Hs, ρ, τ, d, S, e, n⟩ := q
  unfold fNtT at e
  split at e
  · rename_i d0 h1
    split at e
    · rename_i b hb
      cases e
      exact RdW.intro S h1 fun v Hs1 H1 t1 w => ⟨b, tru_wr t1.x w hb, (n.to t1).here t1.x (.bl _)⟩
    · cases e
  · cases e
def fSlS (f : PF) (lo hi : OF) : PF := fun ρ => match f ρ, lo ρ, hi ρ with
  | some (.str z), some l, some h => if szOk z.length = true then some (.str (cutS z l h)) else none
  | _, _, _ => none
theorem d_slS {lo hi : OF} {l h : Option Expr} (he : PE X e (RdW X.K ca f)) (hl : PO X l (RdO X.K ca lo)) (hh : PO X h (RdO X.K ca hi)) : PE X (.Subscript e (.Slice l h none p2) pos) (RdP X.K ca (fSlS f lo hi)) := PEimp (pe_slice sl_str he hl hh) fun σ H Q q => by
  obtain ⟨F, Hs, ρ, τ, d, S, e, n⟩ := q
  unfold fSlS at e
  split at e
  · rename_i z x y h1 h2 h3
    split at e
    · rename_i c
      cases e
      refine RdW.intro S h1 fun v Hs1 H1 t1 w => ?_
      refine ⟨F, Hs1, ρ, τ, x, S.go t1, h2, fun Hs2 H2 t2 => ⟨F, Hs2, ρ, τ, y, (S.go t1).go t2, h3, fun Hs3 H3 t3 => ?_⟩⟩
      exact ⟨z, w.str, szOk_le c, (n.to ((t1.trans t2).trans t3)).here t3.x (.str _)⟩
    · cases e
  · cases e
theorem s_mod {a b : Expr} (ha : PE X a (RdI X.K ca sa)) (hb : PE X b (RdI X.K ca sb)) : PE X (.BinOp a .Mod b pos) (RdI X.K ca (sOp gMod sa sb)) := s_op op_mod (okII (fun _ _ => rfl) fun i j h => of_decide_eq_true h) ha hb
theorem s_tneA {a b : Expr} (hu : X.A.units + 64 < cLine) (ha : PE X a (RdI X.K ca sa)) (hb : PE X b (RdI X.K ca sb)) : PT X (.Compare a [.NotEq] [b] pos) (RdTI X.K ca (sB (sOp gNeA sa sb))) := s_tcmp (op_ne.or (op_neD hu)) (okNeS.or okNe) ha hb (nomark _)
/-! methods of lists and texts -/
theorem w_app {i : Nat} (ho : PE X o (tVar i)) (h : PE X e (RdI X.K ca s)) (hb : attributeBase o "append" X.env (eval o X.env) = eval o X.env := by rfl) (hf : ((backTo cpos (starEach [e] X.env)).all (fun x => !x.1) && (backToKw cpos (keywordEach [] X.env)).all (fun x => x.1.isSome) && decide ([e].length + ([] : List Keyword).length + (if ([] : List Keyword).isEmpty then 0 else 1) < 30)) = true := by rfl)
    (hl : (apos.endLine == cpos.line) = true := by rfl) (hs : starEach [e] X.env = (false, eval e X.env) :: starEach [] X.env := by rfl) (hp : (backTo cpos (starEach [] X.env)).any (·.1) = false := by rfl) (hw : swapsWith (.Call (.Attribute o "append" apos) [e] [] cpos) none pos.line X.env = pure false := by rfl) :
    PS X (.Expr (.Call (.Attribute o "append" apos) [e] [] cpos) pos) (RdS X.K ca (gApp i s)) :=
  g_app (ps_expr (pe_bm PySem.F.plainAttrs_list PySem.F.slot_list_append PySem.F.type_list_append mt_append ho (pa_cons h pa_nil hs) hb hf hl hs hp) hw)
theorem w_ext {i : Nat} (ho : PE X o (tVar i)) (h : PE X e (RdI X.K ca s)) (hb : attributeBase o "extend" X.env (eval o X.env) = eval o X.env := by rfl) (hf : ((backTo cpos (starEach [e] X.env)).all (fun x => !x.1) && (backToKw cpos (keywordEach [] X.env)).all (fun x => x.1.isSome) && decide ([e].length + ([] : List Keyword).length + (if ([] : List Keyword).isEmpty then 0 else 1) < 30)) = true := by rfl)
    (hl : (apos.endLine == cpos.line) = true := by rfl) (hs : starEach [e] X.env = (false, eval e X.env) :: starEach [] X.env := by rfl) (hp : (backTo cpos (starEach [] X.env)).any (·.1) = false := by rfl) (hw : swapsWith (.Call (.Attribute o "extend" apos) [e] [] cpos) none pos.line X.env = pure false := by rfl) :
    PS X (.Expr (.Call (.Attribute o "extend" apos) [e] [] cpos) pos) (RdS X.K ca (gExt i s)) :=
  g_ext (ps_expr (pe_bm PySem.F.plainAttrs_list PySem.F.slot_list_extend PySem.F.type_list_extend mt_extend ho (pa_cons h pa_nil hs) hb hf hl hs hp) hw)
theorem w_pop {i : Nat} (ho : PE X o (tVar i)) (h : PE X e (RdI X.K ca s)) (hb : attributeBase o "pop" X.env (eval o X.env) = eval o X.env := by rfl) (hf : ((backTo cpos (starEach [e] X.env)).all (fun x => !x.1) && (backToKw cpos (keywordEach [] X.env)).all (fun x => x.1.isSome) && decide ([e].length + ([] : List Keyword).length + (if ([] : List Keyword).isEmpty then 0 else 1) < 30)) = true := by rfl)
    (hl : (apos.endLine == cpos.line) = true := by rfl) (hs : starEach [e] X.env = (false, eval e X.env) :: starEach [] X.env := by rfl) (hp : (backTo cpos (starEach [] X.env)).any (·.1) = false := by rfl) :
    PE X (.Call (.Attribute o "pop" apos) [e] [] cpos) (RdI X.K ca (sPop i s)) :=
  s_pop (pe_bm PySem.F.plainAttrs_list PySem.F.slot_list_pop PySem.F.type_list_pop mt_popAt ho (pa_cons h pa_nil hs) hb hf hl hs hp)
theorem w_idxS (ho : PE X o (RdW X.K ca f)) (h : PA X [e] (RdAW X.K ca af)) (hb : attributeBase o "index" X.env (eval o X.env) = eval o X.env := by rfl) (hf : ((backTo cpos (starEach [e] X.env)).all (fun x => !x.1) && (backToKw cpos (keywordEach [] X.env)).all (fun x => x.1.isSome) && decide ([e].length + ([] : List Keyword).length + (if ([] : List Keyword).isEmpty then 0 else 1) < 30)) = true := by rfl)
    (hl : (apos.endLine == cpos.line) = true := by rfl) (hs : starEach [e] X.env = (false, eval e X.env) :: starEach [] X.env := by rfl) (hp : (backTo cpos (starEach [] X.env)).any (·.1) = false := by rfl) :
    PE X (.Call (.Attribute o "index" apos) [e] [] cpos) (RdP X.K ca (fMt gIdxS f af)) :=
  d_idxS (pe_bm PySem.F.plainAttrs_str PySem.F.slot_str_index PySem.F.type_str_index mt_sindex ho h hb hf hl hs hp)
theorem w_idxL (hu : X.A.units + 65 < cLine) (ho : PE X o (RdW X.K ca f)) (h : PA X [e] (RdAW X.K ca af)) (hb : attributeBase o "index" X.env (eval o X.env) = eval o X.env := by rfl) (hf : ((backTo cpos (starEach [e] X.env)).all (fun x => !x.1) && (backToKw cpos (keywordEach [] X.env)).all (fun x => x.1.isSome) && decide ([e].length + ([] : List Keyword).length + (if ([] : List Keyword).isEmpty then 0 else 1) < 30)) = true := by rfl)
    (hl : (apos.endLine == cpos.line) = true := by rfl) (hs : starEach [e] X.env = (false, eval e X.env) :: starEach [] X.env := by rfl) (hp : (backTo cpos (starEach [] X.env)).any (·.1) = false := by rfl) :
    PE X (.Call (.Attribute o "index" apos) [e] [] cpos) (RdP X.K ca (fMt gIdxL f af)) :=
  d_idxL (pe_bm PySem.F.plainAttrs_list PySem.F.slot_list_index PySem.F.type_list_index (mt_indexD hu) ho h hb hf hl hs hp)
end
/-! ### instances: their methods, properties, how they are made -/
def fMeth (sem : SemP) (C m : Str) (f : PF) : PF := fun ρ => match f ρ with
  | some (.ins c fs) => if c = C ∧ fs.lookup m = none then (match sem [.ins c fs] with
    | some rv => some (rvD rv)
    | none => none) else none
  | _ => none
structure FnM (P : Program) (w : World) (K : PySem.W.Frag) (ca : CA) (mg : Str → Option Value) (base : Heap) (C m : Str) (k : Nat) (sem : SemP) : Prop where
  cls : Cls K (ca C)
  ex : ∃ f fd, Meth K (ca C) m f ∧ FnG P w K mg base k f fd ["self"] (spP K ca sem) ∧ Binds K fd ["self"] []
structure FnPr (P : Program) (w : World) (K : PySem.W.Frag) (ca : CA) (mg : Str → Option Value) (base : Heap) (C m : Str) (k : Nat) (sem : SemP) : Prop where
  cls : Cls K (ca C)
  ex : ∃ pg f fd j, PropOf K (ca C) m pg f ∧ j + 1 = k ∧ FnG P w K mg base j f fd ["self"] (spP K ca sem) ∧ Binds K fd ["self"] []
section
variable {X : Cx} {ca : CA} {k : Nat} {C m : Str} {sem : SemP} {o : Expr} {f : PF} {pos apos : Pos}
theorem fs_none {K : PySem.W.Frag} {H : Hp} {m : Str} : ∀ {vs : List (Str × V)} {fs : List (Str × D)}, RpFs K ca H vs fs → fs.lookup m = none → vs.lookup m = none
  | _, _, .nil, _ => rfl
  | _, _, .cons (f := g) _ r, hl => by
    rw [List.lookup_cons] at hl ⊢
    cases q : m == g with
    | true => rw [q] at hl; cases hl
    | false => rw [q] at hl; exact fs_none r hl
theorem rd_one {K : PySem.W.Frag} {C m : Str} {sem : SemP} {σ : L2.St} {H : Hp} {Q : VK} (q : RdP K ca (fMeth sem C m f) σ H Q) : RdP K ca f σ H fun x H1 => ∃ a dx fs, x = .ref a ∧ H1 a = some (.ins (ca C) dx fs) ∧ fs.lookup m = none ∧ spP K ca sem [.ref a] H1 Q E0 := by
  obtain ⟨F, Hs, ρ, τ, d, S, e, n⟩ := q
  unfold fMeth at e
  split at e
  · rename_i c fs h1
    split at e
    · rename_i hc
      obtain ⟨rfl, hl⟩ := hc
      split at e
      · rename_i rv h2
        cases e
        refine RdP.intro S h1 fun v Hs1 H1 t1 r1 => ?_
        have r0 := r1
        cases r1 with
        | ins h3 h4 =>
          rename_i a dx vs
          refine ⟨a, dx, vs, rfl, t1.x _ _ h3, ?_, Hs1, _, rv, (S.go t1).bs, .one r0, h2, fun v Hs2 H2 t2 r2 => ?_⟩
          · exact fs_none h4 hl
          · obtain ⟨Hs3, t3, r3⟩ := rv_share t2 r2
            exact n v Hs3 H2 (t1.trans t3) r3
      · cases e
    · cases e
  · cases e
theorem x_meth {pl : Sem Bool} (F : FnM X.prog X.w X.K ca X.mg X.base C m k sem) (gd : X.A.guards = some []) (hr : Room k X.A) (ho : PE X o (RdP X.K ca f))
    (ht : eval (.Call (.Attribute o m apos) [] [] pos) X.env = (do
      let ov ← eval o X.env
      standAt apos.atName
      let (fn, fst) ← holding [ov] (getMethod ov m pl)
      callWith pos fn fst (backTo pos (starEach [] X.env)) (backToKw pos (keywordEach [] X.env))) := by rfl) : PE X (.Call (.Attribute o m apos) [] [] pos) (RdP X.K ca (fMeth sem C m f)) := by
  obtain ⟨g, fd, hm, G, b⟩ := F.ex
  refine PEimp (k_meth0 gd ho F.cls hm G hr b .nil ht) fun σ H Q q => ?_
  obtain ⟨F1, Hs, ρ, τ, d, S, h1, n⟩ := rd_one q
  refine ⟨F1, Hs, ρ, τ, d, S, h1, fun v Hs1 H1 t1 r1 => ?_⟩
  obtain ⟨a, dx, fs, rfl, h2, h3, h4⟩ := n v Hs1 H1 t1 r1
  exact ⟨a, dx, fs, rfl, h2, h3, h4⟩
theorem x_prop (F : FnPr X.prog X.w X.K ca X.mg X.base C m k sem) (gd : X.A.guards = some []) (hr : Room k X.A) (ho : PE X o (RdP X.K ca f)) (hab : attributeBase o m X.env (eval o X.env) = eval o X.env := by rfl) : PE X (.Attribute o m pos) (RdP X.K ca (fMeth sem C m f)) := by
  obtain ⟨pg, g, fd, j, hp, hj, G, b⟩ := F.ex
  subst hj
  refine PEimp (k_prop gd ho F.cls hp G hr b hab) fun σ H Q q => ?_
  obtain ⟨F1, Hs, ρ, τ, d, S, h1, n⟩ := rd_one q
  refine ⟨F1, Hs, ρ, τ, d, S, h1, fun v Hs1 H1 t1 r1 => ?_⟩
  obtain ⟨a, dx, fs, rfl, h2, h3, h4⟩ := n v Hs1 H1 t1 r1
  exact ⟨a, dx, fs, rfl, h2, h4⟩
end
/-- what C(..) makes, by its __init__ -/
def mkSem (C : Str) (b : SemB) : SemP := fun ds => match b (.ins C []) ds with
  | some (.sh .non, .ins c fs) => some (.sh (.ins c fs))
  | _ => none
structure MkP (P : Program) (w : World) (K : PySem.W.Frag) (ca : CA) (mg : Str → Option Value) (base : Heap) (C : Str) (k : Nat) (sem : SemP) : Prop where
  gl : mg C = some (.ref (ca C))
  ex : ∃ f fd ps j b, Mk K (ca C) f ∧ j + 1 = k ∧ FnG P w K mg base j f fd ps (spB K ca b) ∧ Binds K fd ps [] ∧ sem = mkSem C b
section
variable {X : Cx} {ca : CA} {k : Nat} {C : Str} {sem : SemP} {e : Expr} {es : List Expr} {af : AF} {pos p : Pos}
theorem make_ok {K : PySem.W.Frag} {C : Str} {b : SemB} {Hs H : Hp} {vs : List V} {ds : List D} {rv : RV} {Q : VK} (x0 : Bs Hs H) (r : RpAll K ca Hs vs ds) (h : mkSem C b ds = some rv) (n : Nx K ca Hs H (rvD rv) Q) :
    ∀ y dx, H y = none → H dx = none → dx ≠ y → spB K ca b (.ref y :: vs) (upd (upd H dx (.own y)) y (.ins (ca C) dx [])) (fun v H2 => v = .non ∧ Q (.ref y) H2) E0 := fun y dx hy hdx ne => by
  have x := x0.x
  unfold mkSem at h
  split at h
  · rename_i c fs hb
    cases h
    have sy := fresh_back x hy
    have hy3 : upd H dx (.own y) y = none := by rw [upd_ne (Ne.symm ne)]; exact hy
    have sdx := fresh_back x hdx
    have ex1 : Ex Hs (upd (upd H dx (.own y)) y (.ins (ca C) dx [])) := fun b o q => by
      have b1 : b ≠ y := fun z => by rw [z, sy] at q; cases q
      have b2 : b ≠ dx := fun z => by rw [z, sdx] at q; cases q
      rw [upd_ne b1, upd_ne b2]
      exact x b o q
    refine ⟨Hs, y, vs, _, ds, _, _, ⟨ex1, x0.nt, tb_new (tb_new x0.tb hdx) hy3, x0.pp⟩, rfl, sy, ⟨_, upd_same, .ins .nil⟩, r, hb, fun v Hs2 H2 g ho rr => ?_⟩
    cases rr
    refine ⟨rfl, ?_⟩
    obtain ⟨u, h3, h4⟩ := ho
    have hy2 : Hs2 y = none := g.n y sy (by rw [upd_same]; exact Option.some_ne_none _)
    have ed : Ex Hs2 (upd Hs2 y u) := Ex.new hy2
    refine n _ (upd Hs2 y u) H2 ⟨g.e.trans ed, fun b o q qn => ?_, ex_share hy2 h3 g.x, fun b q1 q2 => ?_, fun b q => g.th b (th_new b (th_new b q)), fun q => (g.nt q).upd h4.nt, fun q => g.tb (tb_new (tb_new q hdx) hy3)⟩ (h4.rp ed upd_same)
    · have b1 : b ≠ y := fun z => by rw [z, hy] at q; cases q
      have b2 : b ≠ dx := fun z => by rw [z, hdx] at q; cases q
      exact g.k b o b1 (by rw [upd_ne b1, upd_ne b2]; exact q) qn
    · have b1 : b ≠ y := fun z => q2 (by rw [z]; exact hy)
      have b2 : b ≠ dx := fun z => q2 (by rw [z]; exact hdx)
      rw [upd_ne b1]
      exact g.n b q1 (by rw [upd_ne b1, upd_ne b2]; exact q2)
  · cases h
theorem x_make (F : MkP X.prog X.w X.K ca X.mg X.base C k sem) (gd : X.A.guards = some []) (hr : Room k X.A) (hg : Gl X C) (ha : PA X (e :: es) (RdA X.K ca af))
    (hdb : (C == ("__debug__" : Str)) = false := by decide) (he : starEach (e :: es) X.env = (false, eval e X.env) :: starEach es X.env := by rfl) (hpl : (backTo pos (starEach es X.env)).any (·.1) = false := by rfl) : PE X (.Call (.Name C p) (e :: es) [] pos) (RdP X.K ca (fCall sem af)) := by
  obtain ⟨f, fd, ps, j, b, M, hj, G, hb, rfl⟩ := F.ex
  subst hj
  refine PEimp (k_make gd M G hr hg F.gl hb ha hdb he hpl) fun σ H Q q => ?_
  obtain ⟨F1, Hs, ρ, τ, d, S, e, n⟩ := q
  unfold fCall at e
  split at e
  · rename_i ds h1
    split at e
    · rename_i rv h2
      cases e
      refine ⟨F1, Hs, ρ, τ, ds, S, h1, fun vs Hs1 H1 t1 r1 => ?_⟩
      have q := make_ok (C := C) (S.go t1).bs r1 h2 (n.to t1)
      rw [← List.append_nil vs] at q
      exact q
    · cases e
  · cases e
end
structure MkK (P : Program) (w : World) (K : PySem.W.Frag) (ca : CA) (mg : Str → Option Value) (base : Heap) (C : Str) (k : Nat) (ks : List Str) (is : List Nat) (sem : SemP) : Prop where
  gl : mg C = some (.ref (ca C))
  ex : ∃ f fd ps j b, Mk K (ca C) f ∧ j + 1 = k ∧ FnG P w K mg base j f fd ps (spB K ca b) ∧ (∀ (s2 : Shared) (y : Value) (ws : List Value), K.In s2.heap → (y :: pick is ws).length = ps.length → BindsTo s2 fd ⟨[y], ks.zip ws⟩ (ps.zip (y :: pick is ws))) ∧ sem = mkSem C b
section
variable {X : Cx} {ca : CA} {k : Nat} {C : Str} {sem : SemP} {kws : List Keyword} {ks : List Str} {is : List Nat} {af : AF} {pos p : Pos}
theorem x_makeK (F : MkK X.prog X.w X.K ca X.mg X.base C k ks is sem) (gd : X.A.guards = some []) (hr : Room k X.A) (hg : Gl X C) (ha : PK X kws (RdA X.K ca af))
    (hall : (backToKw pos (keywordEach kws X.env)).all (·.1.isSome) = true := by rfl) (hks : (backToKw pos (keywordEach kws X.env)).filterMap (·.1) = ks := by rfl) (hdb : (C == ("__debug__" : Str)) = false := by decide)
    (hpl : ((backTo pos (starEach [] X.env)).any (·.1) || (backToKw pos (keywordEach kws X.env)).any (·.1.isNone)) = false := by rfl) : PE X (.Call (.Name C p) [] kws pos) (RdP X.K ca (fCall sem (aPick is af))) := by
  obtain ⟨f, fd, ps, j, b, M, hj, G, hb, rfl⟩ := F.ex
  subst hj
  refine PEimp (k_makeK (gV := fun zs => pick is zs) gd M G hr hg F.gl hb (fun r => pick_rel is r) ha hall hks hdb hpl) fun σ H Q q => ?_
  obtain ⟨F1, Hs, ρ, τ, d, S, e, n⟩ := q
  unfold fCall aPick at e
  split at e
  · rename_i ds h1
    split at h1
    · rename_i ds0 h0
      cases h1
      split at e
      · rename_i rv h2
        cases e
        exact ⟨F1, Hs, ρ, τ, ds0, S, h0, fun vs Hs1 H1 t1 r1 => make_ok (S.go t1).bs (pick_rp is r1) h2 (n.to t1)⟩
      · cases e
    · cases h1
  · cases e
end
end Dv

/-! Ek -/
/-! Ek: isinstance(x, C), x == y by C's own __eq__. -/
namespace Dv
open PySem PySem.Spec PyProof.Rows L2 Evl LamX
variable [Nm]

structure IsC (K : PySem.W.Frag) (ca : CA) (mg : Str → Option Value) (C : Str) : Prop where
  gl : mg C = some (.ref (ca C))
  cls : Cls K (ca C)
  ha : PySem.W.findIn K (.ref (ca C)) "__class__" = some (some (.builtin "object.__class__"))
  hn : PySem.W.specialIn K (.builtin "object.__class__") "__get__" = some (some (.builtin "getset_descriptor.__get__"))
  htk : PySem.W.takesIn K (.builtin "object.__class__") = some true
  hm : PySem.W.mroIn K (ca C) (.type "object") = some true
  no : ∀ t ∈ ["NoneType", "bool", "int", "str", "list", "tuple", "dict"], PySem.W.kitOne K (.type t) (.ref (ca C)) = some false
def fIsC (C : Str) (f : PF) : PF := fun ρ => match f ρ with
  | some (.ins c _) => if c = C then some (.bl true) else none
  | some d => (match tyN d with
    | some _ => some (.bl false)
    | none => none)
  | none => none
section
variable {X : Cx} {ca : CA} {e : Expr} {f : PF} {C : Str} {p p2 pos : Pos}
theorem w_isc (z : IsC X.K ca X.mg C) (hm : X.mg "isinstance" = none) (hg : Gl X "isinstance") (h : PE X e (RdW X.K ca f)) (hgC : Gl X C := by rfl) (hd : (C == ("__debug__" : Str)) = false := by decide)
    (hs : starEach [e, .Name C p2] X.env = (false, eval e X.env) :: starEach [.Name C p2] X.env := by rfl) (hs2 : starEach [.Name C p2] X.env = (false, eval (.Name C p2) X.env) :: starEach [] X.env := by rfl) (hpl : (backTo pos (starEach [.Name C p2] X.env)).any (·.1) = false := by rfl) :
    PE X (.Call (.Name "isinstance" p) [e, .Name C p2] [] pos) (RdP X.K ca (fIsC C f)) :=
  PEimp (pe_callB call_isi hg hm (by decide +kernel) (pa_cons h (pa_cons (pe_glob (v := .ref (ca C)) hgC z.gl rfl hd) pa_nil hs2) hs) (by decide) (by decide) hs hpl) fun σ H Q q => by
    obtain ⟨F, Hs, ρ, τ, d, S, e, n⟩ := q
    unfold fIsC at e
    split at e
    · rename_i c fs h1
      split at e
      · rename_i hc
        subst hc
        cases e
        refine RdW.intro S h1 fun v Hs1 H1 t1 w => ?_
        obtain ⟨a, dx, vs, rfl, h2, r⟩ := w.ins t1.x
        exact ⟨.ref a, .ref (ca c), .ref (ca c), .ref (ca c), true, rfl, .own _, .base (.ins h2 z.cls z.ha z.hn z.htk z.hm), by unfold PySem.W.kitOne; rw [if_pos (by simp)], (n.to t1).here t1.x (.bl _)⟩
      · cases e
    · rename_i d0 hne h1
      split at e
      · rename_i t ht
        cases e
        refine RdW.intro S h1 fun v Hs1 H1 t1 w => ?_
        have hb : t ∈ ["NoneType", "bool", "int", "str", "list", "tuple", "dict"] := by
          cases d0 <;> simp [tyN] at ht <;> subst ht <;> simp
        exact ⟨v, .ref (ca C), .type t, .ref (ca C), false, rfl, .own _, ty_ok (w.rp t1.x) ht, z.no t hb, (n.to t1).here t1.x (.bl _)⟩
      · cases e
    · cases e
end
/-! ### x == y, x of a class with an __eq__ of its own -/
structure EqC (P : Program) (w : World) (K : PySem.W.Frag) (ca : CA) (mg : Str → Option Value) (base : Heap) (C : Str) (k : Nat) (sem : SemP) : Prop where
  ex : ∃ f fd, PySem.W.findIn K (.ref (ca C)) "__eq__" = some (some (.ref f)) ∧ PySem.W.isFn K (.ref f) = true ∧ FnG P w K mg base k f fd ["self", "other"] (spP K ca sem) ∧ Binds K fd ["self", "other"] []
  tup : PySem.W.subIn K (.type "tuple") (.ref (ca C)) = some false
def gEqO (C : Str) (sem : SemP) : G2 := fun a b => match a, b with
  | .ins c fs, .ins c' gs => if c = C ∧ c' = C then (match sem [.ins c fs, .ins c' gs] with
    | some rv => some (rvD rv)
    | none => none) else none
  | .ins c fs, .tup gs => if c = C then (match sem [.ins c fs, .tup gs] with
    | some rv => some (rvD rv)
    | none => none) else none
  | _, _ => none
def rEqO (K : PySem.W.Frag) (ca : CA) (C : Str) (sem : SemP) : R2 := fun x y H Q => ∃ a dx vs, x = .ref a ∧ H a = some (.ins (ca C) dx vs) ∧ ((∃ b dy ws, y = .ref b ∧ H b = some (.ins (ca C) dy ws)) ∨ ∃ b ws, y = .ref b ∧ SqT K H b ws) ∧ spP K ca sem [x, y] H Q E0
section
variable {X : Cx} {ca : CA} {k : Nat} {C : Str} {sem : SemP} {a b : Expr} {fa fb : PF} {pos : Pos}
theorem op_eqO (F : EqC X.prog X.w X.K ca X.mg X.base C k sem) (gd : X.A.guards = some []) (hr : Room k X.A) : OpR X (compareOp .Eq) (rEqO X.K ca C sem) := by
  intro pins s σ H x y v u Q I rx ry h
  obtain ⟨a, dx, vs, rfl, ha, hy, q⟩ := h
  cases (show v = Value.ref a from rx)
  obtain ⟨f, fd, hs, hf, G, hb⟩ := F.ex
  obtain ⟨mA, J, _⟩ := ins_get I.hok ha
  obtain ⟨od, J, _⟩ := J.look
  obtain ⟨m, hF⟩ := I.fr
  have tyY : ∃ tb, PySem.W.Looks (model X.prog X.w) s.heap (typeOf u) tb ∧ PySem.W.notFirst X.K (ca C) tb = true := by
    rcases hy with ⟨b, dy, ws, rfl, hb⟩ | ⟨b, ws, rfl, hb⟩
    · cases (show u = Value.ref b from ry)
      obtain ⟨mB, J', _⟩ := ins_get I.hok hb
      obtain ⟨od', J', _⟩ := J'.look
      exact ⟨.ref (ca C), J'.type, by simp [PySem.W.notFirst]⟩
    · cases (show u = Value.ref b from ry)
      obtain ⟨its, _, ⟨o, ho, hc, _⟩, _⟩ := I.tuple hb
      exact ⟨.type "tuple", fun A Q E s k q => wpAny_typeOf_ref (k _ _ ho) (by rw [hc]; exact q), by unfold PySem.W.notFirst; rw [F.tup]; rfl⟩
  obtain ⟨tb, L, hn⟩ := tyY
  refine PySem.W.cmp_K (op := .Eq) (tb := tb) hr.units0 hF I.ok.mod.kin J L hn hs hf ?_
  have r2 : Vals [V.ref a, y] [Value.ref a, u] := .cons rfl (.cons ry .nil)
  have hl := G.ln _ _ _ _ q
  refine wpAny_call (codeAny_mono (goG gd G hr I (by
    have := hb s [.ref a, u] I.kIn (by simpa using hl)
    simpa using this) r2 q) fun z s' hq => ?_)
  cases z with
  | error _ => exact hq.elim
  | ok y0 =>
    cases y0 with
    | ret w0 =>
      obtain ⟨z', H', I', rz, qz⟩ := hq
      exact SlX.cmpback rz ⟨z', H', I', rz, qz⟩
    | next => exact hq.elim
    | brk => exact hq.elim
    | cont => exact hq.elim
theorem rd_eqO {K : PySem.W.Frag} {σ : L2.St} {H : Hp} {Q : VK} (q : RdP K ca (fOp (gEqO C sem) fa fb) σ H Q) : tOp (rEqO K ca C sem) (RdP K ca fa) (RdP K ca fb) σ H Q := by
  obtain ⟨F, Hs, ρ, τ, d, S, e, n⟩ := q
  unfold fOp at e
  cases ha : fa ρ with
  | none => rw [ha] at e; cases e
  | some x =>
    rw [ha] at e
    cases hb : fb ρ with
    | none => simp only [hb] at e; cases e
    | some y =>
      simp only [hb] at e
      refine RdP.intro S ha fun v Hs1 H1 t1 w1 => ?_
      refine RdP.intro (S.go t1) hb fun u Hs2 H2 t2 w2 => ?_
      have w1 := w1.mono t2.e
      have fin : ∀ rv, sem [x, y] = some rv → d = rvD rv → spP K ca sem [v, u] H2 Q E0 := fun rv h1 h2 => by
        refine ⟨Hs2, [x, y], rv, ((S.go t1).go t2).bs, .cons w1 (.one w2), h1, fun z Hs3 H3 t3 r3 => ?_⟩
        obtain ⟨Hs4, t4, r4⟩ := rv_share t3 r3
        rw [← h2] at r4
        exact n z Hs4 H3 ((t1.trans t2).trans t4) r4
      unfold gEqO at e
      split at e
      · rename_i c fs c' gs
        split at e
        · rename_i hc
          obtain ⟨rfl, rfl⟩ := hc
          split at e
          · rename_i rv h1
            have e := Option.some.inj e
            have w10 := w1
            cases w1 with
            | ins h3 h4 =>
              cases w2 with
              | ins h5 h6 => exact ⟨_, _, _, rfl, t2.x _ _ h3, .inl ⟨_, _, _, rfl, t2.x _ _ h5⟩, fin rv h1 e.symm⟩
          · cases e
        · cases e
      · rename_i c fs gs
        split at e
        · rename_i hc
          subst hc
          split at e
          · rename_i rv h1
            have e := Option.some.inj e
            cases w1 with
            | ins h3 h4 =>
              cases w2 with
              | tup h5 h6 => exact ⟨_, _, _, rfl, t2.x _ _ h3, .inr ⟨_, _, rfl, st_of (t2.x _ _ h5)⟩, fin rv h1 e.symm⟩
          · cases e
        · cases e
      · cases e
theorem d_eqO (F : EqC X.prog X.w X.K ca X.mg X.base C k sem) (gd : X.A.guards = some []) (hr : Room k X.A) (ha : PE X a (RdP X.K ca fa)) (hb : PE X b (RdP X.K ca fb)) : PE X (.Compare a [.Eq] [b] pos) (RdP X.K ca (fOp (gEqO C sem) fa fb)) :=
  PEimp (pe_cmpR (op_eqO F gd hr) ha hb (nomark _)) fun _ _ _ q => rd_eqO q
end
end Dv

/-! El -/
/-! El: sorted(rows), rows lists of ints. -/
namespace Dv
open PySem PySem.Spec PyProof.Rows L2 Evl LamX
variable [Nm]

def rowP (ns : List Int) : PyData := .list (ns.map .int)
def rowsD : List D → Option (List (List Int))
  | [] => some []
  | .lst ds :: r => (match intsD ds, rowsD r with
    | some ns, some nss => some (ns :: nss)
    | _, _ => none)
  | _ => none
def rowD (ns : List Int) : D := .lst (ns.map .int)
noncomputable def sortRows (nss : List (List Int)) : List (List Int) := nss.mergeSort (PySem.W.dataLe false rowP)
noncomputable def gSortL : GC
  | [.lst ds] => (match rowsD ds with
    | some nss => if szOk nss.length = true then some (.lst ((sortRows nss).map rowD)) else none
    | none => none)
  | _ => none
def rSortRows (K : PySem.W.Frag) : List V → Hp → VK → Prop := fun xs H Q => ∃ (a : Addr) (ys : List V) (nss : List (List Int)) (R : V → List Int → Prop), xs = [.ref a] ∧ SqL K H a ys ∧ DpAll K H ys (nss.map rowP) ∧ PySem.W.EachIs R ys nss ∧ nss.length ≤ sizeLine ∧
  ∀ (p : Addr) (zs : List V), H p = none → PySem.W.EachIs R zs (sortRows nss) → Q (.ref p) (upd H p (.lst zs))
theorem each_vals {R : V → List Int → Prop} : ∀ {ys : List V} {us : List Value} {nss : List (List Int)}, Vals ys us → PySem.W.EachIs R ys nss → PySem.W.EachIs (fun u ns => ∃ z, RelV z u ∧ R z ns) us nss
  | _, _, _, .nil, .nil => .nil
  | _, _, _, .cons r rs, .cons h hs => .cons ⟨_, r, h⟩ (each_vals rs hs)
theorem vals_each {R : V → List Int → Prop} : ∀ {us : List Value} {nss : List (List Int)}, PySem.W.EachIs (fun u ns => ∃ z, RelV z u ∧ R z ns) us nss → ∃ zs, Vals zs us ∧ PySem.W.EachIs R zs nss
  | _, _, .nil => ⟨[], .nil, .nil⟩
  | _, _, .cons ⟨z, r, h⟩ hs =>
    let ⟨zs, rs, hh⟩ := vals_each hs
    ⟨z :: zs, .cons r rs, .cons h hh⟩
theorem depth_row (ns : List Int) : (rowP ns).depth ≤ 1 := by
  unfold rowP
  rw [PyData.depth, PySem.W.depth_ints]
  exact Nat.le_refl _
section
variable {X : Cx}
theorem cr_sortRows (hc : X.calm = true) (hu : X.A.units + 64 < cLine) : CallR X (.builtin "sorted") (rSortRows X.K) := by
  intro pins s σ H vs us Q I r h
  obtain ⟨a, ys, nss, R, rfl, hs, hd, he, hz, q⟩ := h
  obtain ⟨its, rv, hl, _⟩ := I.list hs
  obtain ⟨u, rfl, ru⟩ := vals1 r
  cases ru
  obtain ⟨as, ra⟩ := Dp.readsAll I (nss.map rowP) ys its hd rv
  refine PySem.W.sorted_data (R := fun u ns => ∃ z, RelV z u ∧ R z ns) (enc := rowP) hl.isList (each_vals rv he) (PySem.W.readsAll_each rowP ra)
    (.of fun b b' => by show PySem.W.alike (.list _) (.list _) = true; rw [PySem.W.alike]; exact PySem.W.alike_ints b b') (.others fun b => ⟨by unfold rowP; simp, by unfold rowP; simp⟩) hz
    (fun b hb => by have := depth_row b; omega) fun out hlen ho => ?_
  obtain ⟨zs, rz, ez⟩ := vals_each ho
  obtain ⟨ep, hat⟩ := PyProof.Rows.sortedAll_at s.heap its out.toArray
  refine ⟨.ref (s.heap.objs.size + 1), upd H (s.heap.objs.size + 1) (.lst zs), I.laid (t' := s.toks) (fun _ _ => PyProof.Rows.sortedAll_old) (Nat.le_succ _) ⟨by rw [rz.length, hlen]; exact hz, out, ep, rz, hat⟩, rfl, q _ zs (I.hok.fresh (Nat.le_succ _)) ez⟩
end
section
variable {K : PySem.W.Frag} {ca : CA}
theorem rowsD_ok {H Hs : Hp} (x : Ex Hs H) : ∀ {ys : List V} {ds : List D} {nss : List (List Int)}, RpAll K ca Hs ys ds → rowsD ds = some nss → DpAll K H ys (nss.map rowP) ∧ PySem.W.EachIs (fun v ns => Rp K ca Hs v (rowD ns)) ys nss
  | _, _, _, .nil, h => by cases h; exact ⟨.nil, .nil⟩
  | _, _, _, .cons (d := d) r rs, h => by
    unfold rowsD at h
    split at h
    · rename_i heq; cases heq
    · rename_i ds' r' heq
      cases heq
      split at h
      · rename_i ns nss' h1 h2
        cases h
        obtain ⟨k1, k2⟩ := rowsD_ok x rs h2
        cases r with
        | lst q1 q2 =>
          have e := intsD_vs q2 h1
          subst e
          have da : ∀ l : List Int, DpAll K H (l.map V.int) (l.map .int) := fun l => by
            induction l with
            | nil => exact .nil
            | cons a l ih => exact .cons (.int a) ih
          have ra : ∀ l : List Int, RpAll K ca Hs (l.map V.int) (l.map .int) := fun l => by
            induction l with
            | nil => exact .nil
            | cons a l ih => exact .cons (.int a) ih
          exact ⟨.cons (.lst (sq_of (x _ _ q1)) (da ns)) k1, .cons (.lst q1 (ra ns)) k2⟩
      · cases h
    · cases h
theorem each_rp {Hs : Hp} : ∀ {zs : List V} {nss : List (List Int)}, PySem.W.EachIs (fun v ns => Rp K ca Hs v (rowD ns)) zs nss → RpAll K ca Hs zs (nss.map rowD)
  | _, _, .nil => .nil
  | _, _, .cons h hs => .cons h (each_rp hs)
theorem okSortL : OkC K ca (rSortRows K) gSortL := fun Hs H vs ds d Q x w e n => by
  unfold gSortL at e
  split at e
  · obtain ⟨v, rfl, w1⟩ := wrs1 w
    obtain ⟨a, xs, rfl, h1, r⟩ := w1.lst x
    split at e
    · rename_i nss h2
      split at e
      · rename_i c
        cases e
        obtain ⟨k1, k2⟩ := rowsD_ok x r h2
        exact ⟨a, xs, nss, _, rfl, sq_of h1, k1, k2, szOk_le c, fun p zs hp hz => n.newL x (each_rp hz) p hp⟩
      · cases e
    · cases e
  · cases e
end
section
variable {X : Cx} {e : Expr} {es : List Expr} {t : TA} {p pos : Pos} {k : Nat}
theorem w_sorted (hr : Room k X.A) (hm : X.mg "sorted" = none) (ha : PA X (e :: es) t) (hc : X.calm = true := by rfl) (hg : Gl X "sorted" := by rfl) (he : starEach (e :: es) X.env = (false, eval e X.env) :: starEach es X.env := by rfl) (hpl : (backTo pos (starEach es X.env)).any (·.1) = false := by rfl) :
    PE X (.Call (.Name "sorted" p) (e :: es) [] pos) (tCB (rSortRows X.K) t) := pe_callB (cr_sortRows hc hr.units) hg hm (by decide +kernel) ha (by decide) (by decide) he hpl
end
end Dv

/-! Em -/
/-! Em: comprehensions with two fors; two fields at once. -/
namespace Dv
open PySem PySem.Spec PyProof.Rows L2 Evl LamX
variable [Nm]

section
variable {K : PySem.W.Frag} {ca : CA} {F : Fx} {Hs H : Hp} {σ : L2.St} {ρ : En} {τ : List (Addr × Ob)} {a : Addr}
/-- a temporary list is written anew -/
theorem SR.growT {ds es : List D} {ws : List V} (S : SR K ca F Hs H σ ρ ((a, .lst ds) :: τ)) (r : RpAll K ca Hs ws es) : SR K ca F Hs (upd H a (.lst ws)) σ ρ ((a, .lst es) :: τ) := by
  obtain ⟨h1, h2, x0, y1, y2⟩ := S.tm _ List.mem_cons_self
  have y1 : H a = some x0 := y1
  have h1 : Hs a = none := h1
  have h2 : F.H a = none := h2
  have nd := List.nodup_cons.mp S.tj
  refine ⟨fun b u q => ?_, S.e0, fun b u q1 q2 q3 => ?_, fun b q => ?_, S.nw, fun i x q => ?_, S.dj, fun p hp => ?_, ?_, fun p hp i b o q => ?_, S.ln, S.nt, tb_put S.tb y1 y2.nt y2.nc, S.pp⟩
  · rw [upd_ne (fun z => by rw [z, h1] at q; cases q)]
    exact S.ex b u q
  · rw [upd_ne (fun z => by rw [z, h2] at q1; cases q1)]
    exact S.fr b u q1 q2 q3
  · by_cases z : b = a
    · rw [z, upd_same]; exact Option.some_ne_none _
    · rw [upd_ne z]; exact S.th b q
  · obtain ⟨v, r1, r2⟩ := S.sl i x q
    refine ⟨v, r1, ?_⟩
    cases x with
    | sh d => exact r2
    | own b o =>
      obtain ⟨c, rfl, r3, r4, r5⟩ := r2
      exact ⟨c, rfl, r3, r4, r5.mono (Ex.refl _) (upd_ne fun z => S.ts _ List.mem_cons_self i b o q (by rw [r1, z]))⟩
  · rcases List.mem_cons.mp hp with rfl | hp
    · exact ⟨h1, h2, _, upd_same, .lst r⟩
    · obtain ⟨r1, r2, r3⟩ := S.tm p (List.mem_cons_of_mem _ hp)
      exact ⟨r1, r2, r3.mono (Ex.refl _) (upd_ne fun z => nd.1 (List.mem_map.mpr ⟨p, hp, z⟩))⟩
  · rw [List.map_cons, List.nodup_cons]; exact nd
  · rcases List.mem_cons.mp hp with rfl | hp
    · exact S.ts _ List.mem_cons_self i b o q
    · exact S.ts p (List.mem_cons_of_mem _ hp) i b o q
end
def lc2In (tg : Tg) (fe : PF) (ρ : En) : List D → Option (List D)
  | [] => some []
  | d :: ds => (match tg.asg d ρ with
    | none => none
    | some ρ1 => (match fe ρ1 with
      | none => none
      | some y => (match lc2In tg fe ρ ds with
        | some ys => some (y :: ys)
        | none => none)))
def lc2Go (tg : Tg) (it1 : AF) (tg1 : Tg) (fe : PF) (vs1 : List Nat) (ρ : En) : List D → Option (List D)
  | [] => some []
  | d :: ds => (match tg.asg d ρ with
    | none => none
    | some ρ1 => (match it1 ρ1 with
      | none => none
      | some es => (match lc2In tg1 fe (wipeE ρ1 vs1) es with
        | none => none
        | some ys => (match lc2Go tg it1 tg1 fe vs1 ρ ds with
          | some zs => some (ys ++ zs)
          | none => none))))
def nLc2 (it : AF) (tg : Tg) (it1 : AF) (tg1 : Tg) (fe : PF) (ow vs1 : List Nat) : NF' := fun ρ => match it ρ with
  | some ds => (match lc2Go tg it1 tg1 fe vs1 (wipeE ρ ow) ds with
    | some ys => if szOk ys.length = true then some (.lst ys, ρ) else none
    | none => none)
  | none => none
theorem wipe_twice (us : List Nat) : ∀ s : L2.St, wipe (wipe s us) us = wipe s us := by
  induction us with
  | nil => intro s; rfl
  | cons u us ih =>
    intro s
    show (wipe ((wipe s us).set u none) us).set u none = (wipe s us).set u none
    by_cases hu : u ∈ us
    · rw [wipe_set hu, ih]
    · have k2 : ∀ (ws : List Nat) (s : L2.St), u ∉ ws → wipe (s.set u none) ws = (wipe s ws).set u none := by
        intro ws
        induction ws with
        | nil => intro s _; rfl
        | cons y ws ih2 =>
          intro s hn
          have n1 : u ≠ y := fun z => hn (by rw [z]; exact List.mem_cons_self)
          have n2 : u ∉ ws := fun z => hn (List.mem_cons_of_mem _ z)
          show (wipe (s.set u none) ws).set y none = ((wipe s ws).set y none).set u none
          rw [ih2 s n2]
          exact List.set_comm _ _ n1
      rw [k2 us _ hu, ih, List.set_set]
theorem drop_at {α : Type} {l : List α} {i : Nat} {d : α} (hi : i < l.length) (hd : l[i]? = some d) : l.drop i = d :: l.drop (i + 1) := by
  rw [List.drop_eq_getElem_cons hi]
  congr 1
  rw [List.getElem?_eq_getElem hi] at hd
  exact Option.some.inj hd
section
variable {K : PySem.W.Frag} {ca : CA} {σ : L2.St} {H : Hp}
theorem rd_lc2 {it it1 : AF} {tg tg1 : Tg} {fe : PF} {ow vs1 : List Nat} (hsub : ∀ i ∈ tg.slots, i ∈ ow) (hsub1 : ∀ i ∈ tg1.slots, i ∈ vs1) {Q : VK} (q : RdN K ca (nLc2 it tg it1 tg1 fe ow vs1) σ H Q) :
    tLc2 (RdIW K ca it) (gTg K tg) (RdT K ca tYs) (RdIS K ca it1) (gTg K tg1) (RdT K ca tYs) (RdP K ca fe) ow vs1 σ H Q := by
  obtain ⟨F, Hs, ρ, τ, o, ρ', S, e, n⟩ := q
  unfold nLc2 at e
  split at e
  rotate_left
  · cases e
  rename_i ds hit
  split at e
  rotate_left
  · cases e
  rename_i ys hgo
  split at e
  rotate_left
  · cases e
  rename_i hsz
  cases e
  refine ⟨F, Hs, ρ, τ, ds, S, hit, fun J Hs1 H1 t1 ok => ?_⟩
  intro D hD
  obtain ⟨G, Y, w, hG, hY⟩ := ok
  have S1 := S.go t1
  -- the outer walk
  let P : Nat → Hp → Prop := fun i H' => ∃ Hs' zs rest, Ex Hs1 Hs' ∧ ExtN H1 H' ∧ SR K ca F Hs' H' σ ρ ((D, .lst zs) :: τ) ∧ ys = zs ++ rest ∧ lc2Go tg it1 tg1 fe vs1 (wipeE ρ ow) (ds.drop i) = some rest
  refine ⟨fun i m H' => m = ds.length - i ∧ i ≤ ds.length ∧ P i H', ⟨ds.length, by simp, Nat.zero_le _, Hs1, [], ys, Ex.refl _, ExtN.of (Ex.new hD), S1.temp hD .nil, rfl, hgo⟩, ?_⟩
  rintro i m H3 ⟨rfl, hi, Hs3, zs, rest, e3, k3, S3, ey, g3⟩
  by_cases hlt : i < ds.length
  · refine .inr ⟨w.goes i H3 hlt (hG H3 k3), P (i + 1), fun H' p' => ⟨ds.length - (i + 1), by omega, rfl, hlt, p'⟩, fun x H4 hy => ?_⟩
    obtain ⟨Hs4, d, t4, hd, rd⟩ := hY i x Hs3 H3 H4 e3 S3.ex hlt (w.yields i H3 x H4 hlt (hG H3 k3) hy)
    rw [drop_at hlt hd] at g3
    unfold lc2Go at g3
    split at g3
    · cases g3
    rename_i ρ1 hasg
    split at g3
    · cases g3
    rename_i es hes
    split at g3
    · cases g3
    rename_i ws hws
    split at g3
    rotate_left
    · cases g3
    rename_i rest' hr
    cases g3
    have S4 := S3.go t4
    refine tg_ok (S4.wiped ow) rd hasg fun σ2 S5 hw => ⟨by rw [hw ow hsub, wipe_twice], ?_⟩
    refine RdT.intro S5 rfl fun Hs6 H6 t6 => ?_
    rw [if_pos rfl]
    refine ⟨F, Hs6, ρ1, _, es, S5.go t6, hes, fun J1 Hs7 H7 t7 ok1 => ?_⟩
    obtain ⟨G1, Y1, w1, hG1, hY1⟩ := ok1
    have t47 := t6.trans t7
    -- the inner walk
    let P1 : Nat → Hp → Prop := fun j H' => ∃ Hs' zs us, Ex Hs7 Hs' ∧ ExtN H1 H' ∧ SR K ca F Hs' H' σ ρ ((D, .lst zs) :: τ) ∧ SR K ca F Hs' H' σ2 ρ1 ((D, .lst zs) :: τ) ∧ ys = zs ++ (us ++ rest') ∧ lc2In tg1 fe (wipeE ρ1 vs1) (es.drop j) = some us
    refine ⟨fun j m H' => m = es.length - j ∧ j ≤ es.length ∧ P1 j H', ⟨es.length, by simp, Nat.zero_le _, Hs7, zs, ws, Ex.refl _, (k3.trans t4.k).trans t47.k, S4.go t47, S5.go t47, by rw [ey], hws⟩, ?_⟩
    rintro j m H8 ⟨rfl, hj, Hs8, zs8, us, e8, k8, S8, T8, ey8, g8⟩
    have ex8 : ExtN Hs7 H8 := ExtN.of (e8.trans S8.ex)
    by_cases hlt1 : j < es.length
    · refine .inr ⟨w1.goes j H8 hlt1 (hG1 H8 ex8), P1 (j + 1), fun H' p' => ⟨es.length - (j + 1), by omega, rfl, hlt1, p'⟩, fun x1 H9 hy1 => ?_⟩
      obtain ⟨Hs9, d1, t9, hd1, rd1⟩ := hY1 j x1 Hs8 H8 H9 e8 S8.ex hlt1 (w1.yields j H8 x1 H9 hlt1 (hG1 H8 ex8) hy1)
      rw [drop_at hlt1 hd1] at g8
      unfold lc2In at g8
      split at g8
      · cases g8
      rename_i ρ2 hasg1
      split at g8
      · cases g8
      rename_i y hfe
      split at g8
      rotate_left
      · cases g8
      rename_i us' hus
      cases g8
      have S9 := S8.go t9
      have T9 := T8.go t9
      refine tg_ok (T9.wiped vs1) rd1 hasg1 fun σ3 U hw1 => ⟨by rw [hw1 vs1 hsub1, wipe_twice], ?_⟩
      refine RdT.intro U rfl fun Hs10 H10 t10 => ?_
      rw [if_pos rfl]
      refine RdP.intro (U.go t10) hfe fun v Hs11 H11 t11 r11 => ?_
      have tt := t10.trans t11
      have S11 := S9.go tt
      have T11 := T9.go tt
      obtain ⟨c1, c2, c3⟩ := S11.tm _ List.mem_cons_self
      obtain ⟨vs, hv, rv⟩ := obl c3
      have hl : vs.length < sizeLine := by
        rw [rv.len]
        have h2 : ys.length ≤ 100000 := of_decide_eq_true hsz
        have h3 : zs8.length + 1 ≤ ys.length := by rw [ey8]; simp only [List.length_append, List.length_cons]; omega
        exact sz_lt (by omega)
      refine ⟨vs, hv, hl, Hs11, zs8 ++ [y], us', (e8.trans t9.e).trans tt.e, fun b u hb hn => ?_, S11.growT (rv.app (.one r11)), T11.growT (rv.app (.one r11)), by rw [ey8]; simp, hus⟩
      rw [upd_ne (fun z => by rw [z, hD] at hb; cases hb)]
      exact tt.k b u (t9.k b u (k8 b u hb hn) hn) hn
    · have ej : j = es.length := by omega
      subst ej
      rw [List.drop_length] at g8
      cases g8
      exact .inl ⟨w1.stops H8 (hG1 H8 ex8), Hs8, zs8, rest', ((e3.trans t4.e).trans t47.e).trans e8, k8, S8, by simpa using ey8, hr⟩
  · have ei : i = ds.length := by omega
    subst ei
    rw [List.drop_length] at g3
    cases g3
    rw [List.append_nil] at ey
    subst ey
    exact .inl ⟨w.stops H3 (hG H3 k3), n D Hs3 H3 (t1.e.trans e3) S3⟩
end
section
variable {X : Cx} {ca : CA}
theorem g_setLc2 {i : Nat} {y : Str} {py : Pos} {elt tg iter tg1 iter1 : Expr} {scope : Scope} {own : List (Str × Nat)} {vs1 : List Nat} {pos spos : Pos} {it it1 : AF} {g g1 : Tg} {fe : PF} (hc : X.calm = true) (hN : X.N.Nodup) (hy : X.N[i]? = some y) (hyl : X.env.scope.names.lookup y = some .local)
    (hsw : swapsWith (.ListComp elt [⟨tg, iter, [], 0⟩, ⟨tg1, iter1, [], 0⟩] scope pos) (some (.Name y py)) spos.line X.env = pure true) (hi : PI X tg iter (RdIW X.K ca it)) (ok : BlkOk X.N X.env.scope scope own) (hv : ∀ i ∈ vs1, i ∈ own.map (·.2))
    (hg : ∀ (s : Shared) (H : Hp) (C : Addr) (cl : List (Str × Addr)) (fp : List Addr), PG (X.blk s H scope (compEnvC scope cl C X.env) fp) tg (gTg X.K g))
    (hi1 : ∀ (s : Shared) (H : Hp) (C : Addr) (cl : List (Str × Addr)) (fp : List Addr), PI (X.blk s H scope (compEnvC scope cl C X.env) fp) tg1 iter1 (RdIS X.K ca it1))
    (hg1 : ∀ (s : Shared) (H : Hp) (C : Addr) (cl : List (Str × Addr)) (fp : List Addr), PG (X.blk s H scope (compEnvC scope cl C X.env) fp) tg1 (gTg X.K g1))
    (he : ∀ (s : Shared) (H : Hp) (C : Addr) (cl : List (Str × Addr)) (fp : List Addr), PE (X.blk s H scope (compEnvC scope cl C X.env) fp) elt (RdP X.K ca fe)) (hsub : ∀ i ∈ g.slots, i ∈ own.map (·.2)) (hsub1 : ∀ i ∈ g1.slots, i ∈ vs1)
    (hs : ∀ x, foldedSetIterable iter X.env x = pure x := by intro _; rfl) (hs1 : ∀ env x, foldedSetIterable iter1 env x = pure x := by intro _ _; rfl) :
    PS X (.Assign [.Name y py] (.ListComp elt [⟨tg, iter, [], 0⟩, ⟨tg1, iter1, [], 0⟩] scope pos) spos) (RdS X.K ca (gSetN i (nLc2 it g it1 g1 fe (own.map (·.2)) vs1))) :=
  PSimp (ps_setLc2 hc hN hy hyl hsw hi ok hv hg (fun _ _ _ _ _ => ts_nil) hi1 hg1 (fun _ _ _ _ _ => ts_nil) he hs hs1) fun D σ H q => by
    obtain ⟨F, Hs, ρ, o, S, e, n⟩ := q
    unfold gSetN at e
    split at e
    · rename_i d ρ1 h1
      split at e
      · rename_i hi
        cases e
        exact rd_lc2 hsub hsub1 ⟨F, Hs, ρ, [], d, ρ1, S, h1, fun a Hs' H' e1 S' => n _ Hs' H' e1 (S'.setT (by rw [← S'.ln]; exact hi))⟩
      · cases e
    · cases e
end
/-! ### o.f, o.g = e -/
def gFldT (K : PySem.W.Frag) (to : TE) (f : Str) : TG := fun v σ H Q => to σ H fun o H1 => ∃ a C dx fs, o = .ref a ∧ H1 a = some (.ins C dx fs) ∧ Cls K C ∧ NoAttr K C f ∧ fs.length < 1000 ∧ Q σ (upd H1 a (.ins C dx (putF f v fs)))
def putAt (C f : Str) (i : Nat) (d : D) (ρ : En) : Option En := match ρ[i]? with
  | some (some (.own b (.ins c fs))) => if c = C ∧ fs.length < 900 then some (ρ.set i (some (.own b (.ins c (putD f d fs))))) else none
  | _ => none
def gFld2 (C f g : Str) (i : Nat) (s : SF) : SS := fun ρ => match s ρ with
  | some (.tup [a, b], ρ1) => (match putAt C f i a ρ1 with
    | some ρ2 => (match putAt C g i b ρ2 with
      | some ρ3 => some (.nx ρ3)
      | none => none)
    | none => none)
  | _ => none
section
variable {X : Cx} {ca : CA} {o : Expr} {to : TE} {f : Str} {pos : Pos}
theorem pg_fld (ho : PE X o to) (ha : ∀ v, assign (.Attribute o f pos) X.env v = (do
      let ov ← holding [v] (eval o X.env)
      standAt pos.atName
      holding [v, ov] (setAttr ov f v)
      release [v, ov] []) := by intro _; rfl) : PG X (.Attribute o f pos) (gFldT X.K to f) := by
  refine ⟨fun pins s σ H v u Q I r h => ?_⟩
  rw [ha]
  refine wpAny_bind (wpAny_holding (thn (ho.run pins s σ H _ I h) fun ov s1 ⟨x, H1, I1, r1, a, C, dx, fs, ex, ea, c, n, l, q⟩ => ?_))
  subst ex
  cases (show ov = Value.ref a from r1)
  exact wpAny_bind (wpAny_standAt (wpAny_bind (wpAny_holding (setattr_ok I1 ea c n l r fun s2 I2 => wpAny_release ⟨σ, _, I2, q⟩))))
theorem put_ok {K : PySem.W.Frag} {F : Fx} {Hs H : Hp} {σ : L2.St} {ρ ρ' : En} {τ : List (Addr × Ob)} {C f : Str} {fl : List Str} {i : Nat} {d : D} {v : V} (c : ClsD K ca C fl) (hf : f ∈ fl) (S : SR K ca F Hs H σ ρ τ) (r : Rp K ca Hs v d) (h : putAt C f i d ρ = some ρ') {Q : L2.St → Hp → Prop} (q : ∀ H', SR K ca F Hs H' σ ρ' τ → Q σ H') :
    gFldT K (tVar i) f v σ H Q := by
  unfold putAt at h
  split at h
  · rename_i b c' fs h2
    split at h
    · rename_i hc
      obtain ⟨rfl, hl⟩ := hc
      cases h
      obtain ⟨a, k1, k2, k3, k4⟩ := S.ownAt h2
      obtain ⟨dx, vs, k5, k6⟩ := obi k4
      refine ⟨_, k1, a, _, dx, vs, rfl, k5, c.cls, c.no f hf, by rw [fs_len k6]; omega, q _ ?_⟩
      refine S.write h2 k1 (Ex.refl _) (fun c u hc => ?_) (fun c u hc hu _ => ?_) th_new (fun c hc _ => hc) S.nt (tb_put S.tb k5 (fun _ z => nomatch z) fun _ _ z => nomatch z) ⟨_, upd_same, .ins (put_rp r k6)⟩
      · rw [upd_ne (fun z => by rw [z, k2] at hc; cases hc)]
        exact S.ex c u hc
      · rw [upd_ne hc]
        exact hu
    · cases h
  · cases h
theorem g_fld2 {C f g : Str} {fl : List Str} {i : Nat} {s : SF} {tg e : Expr} (c : ClsD X.K ca C fl) (hf : f ∈ fl) (hg : g ∈ fl) (hp : PS X (.Assign [tg] e pos) (tAsg (RdI X.K ca s) (gTup X.K 2 (gCons (gFldT X.K (tVar i) f) (gCons (gFldT X.K (tVar i) g) gNil))))) : PS X (.Assign [tg] e pos) (RdS X.K ca (gFld2 C f g i s)) := PSimp hp fun D σ H q => by
  obtain ⟨F, Hs, ρ, o, S, e, n⟩ := q
  unfold gFld2 at e
  split at e
  · rename_i a b ρ1 h1
    split at e
    · rename_i ρ2 h2
      split at e
      · rename_i ρ3 h3
        cases e
        refine RdI.intro S h1 fun v Hs' H' e1 S' r => ?_
        cases r with
        | tup h4 h5 =>
          cases h5 with
          | cons ra h5 =>
            cases h5 with
            | cons rb h5 =>
              cases h5
              refine ⟨_, _, rfl, st_of (S'.ex _ _ h4), rfl, _, _, rfl, put_ok c hf S' ra h2 fun H2 S2 => ?_⟩
              exact ⟨_, _, rfl, put_ok c hg S2 rb h3 fun H3 S3 => ⟨rfl, n _ Hs' H3 e1 S3⟩⟩
      · cases e
    · cases e
  · cases e
end
end Dv

/-! En0 -/
/-! En0: a display {e: v} whose key is a tuple. -/
namespace Dv
open PySem PySem.Spec PyProof.Rows L2 Evl LamX
variable [Nm]
/-- {k: v}, the key an int or a text, or a tuple of such -/
def tDisp1 (tk tv : TE) : TE := fun σ H Q => tDisp [(tk, tv)] σ H Q ∨ ∀ p, H p = none → tk σ (upd H p (.dT [])) fun x H1 => tv σ H1 fun z H2 => H2 p = some (.dT []) ∧ ∃ b k, x = .ref b ∧ H2 b = some (.tup (k.map kV)) ∧ Q (.ref p) (upd H2 p (.dT [(k, z)]))
theorem pe_disp1 {X : Cx} {pos : Pos} {e v : Expr} {tk tv : TE} (hu : X.A.units + 1 < cLine) (hk : PE X e tk) (hv : PE X v tv) : PE X (.Dict [some e] [v] pos) (tDisp1 tk tv) := by
  refine ⟨fun pins s σ H Q I q => ?_⟩
  rcases q with q | q
  · exact (pe_disp (pps_cons hk hv pps_nil) (by rfl) (by rfl) (fun z => by cases z) (Nat.le_of_ble_eq_true rfl)).run pins s σ H Q I q
  have hn := I.hok.fresh (Nat.le_refl s.heap.objs.size)
  have I1 := I.laid (a := s.heap.objs.size) (o := .dT []) (h' := s.heap.push { cls := .type "dict", data := .dict #[] }) (t' := s.toks) (fun _ _ q => Heap.get?_push_of_some _ q) (Nat.le_refl _) (dt_empty s.heap I.big)
  have hz := zip_pairTrees [some e] [v] X.env pos (by rfl) (by rfl)
  have hl := pairTrees_length [some e] [v] X.env pos (by rfl) (by rfl)
  rw [arm_eval_Dict, hz, dictDisplay_pairs _ (fun z => by rw [z] at hl; cases hl) (by rw [hl]; exact Nat.le_of_ble_eq_true rfl)]
  refine wpAny_bind (wpAny_standAt (wpAny_bind (wpAny_subDictH (knd := tupleKind (mixKind X.prog X.w)) (Q := fun d s' => wpAny (model X.prog X.w) X.A (pure (Value.ref d)) (fun v s' => ∃ x H', Inv X pins σ H' s' ∧ L2.RelV x v ∧ Q x H') X.xe s') (show X.A.units < cLine from Nat.lt_of_succ_lt hu) (by rw [hl]; exact Nat.le_of_ble_eq_true rfl) ?_)))
  refine pairTrees_cons_walk (thn (hk.run pins _ σ _ _ I1 (q _ hn)) fun u s1 ⟨x, H1, J1, rx, q1⟩ => thn (hv.run pins s1 σ H1 _ J1 q1) fun u2 s2 ⟨z, H2, J2, rz, e2, b, k, ex, eb, q2⟩ => pairTrees_nil_walk ?_)
  subst ex
  obtain rfl : u = Value.ref b := rx
  obtain ⟨y, hd, xs, rel, dd⟩ := dt_of J2.hok e2
  cases rel
  refine ⟨[(k, b, u2)], ⟨rfl, rfl, key_of J2.hok eb, trivial⟩, dd, fun h' tk' dd' hs => wpAny_pure ⟨.ref s.heap.objs.size, _, ?_, rfl, q2⟩⟩
  obtain ⟨o, es, ep, hq, h2, h3, h4, _, h5⟩ := dd'
  refine d_write J2 (by rw [e2]; exact True.intro) hs ⟨o, hq⟩ ⟨Nat.le_of_ble_eq_true rfl, hd, [(k, b, u2)], .cons ⟨rfl, ?_, rz⟩ .nil, o, es, ep, hq, h2, h3, h4, h5⟩
  rw [upd_ne (ne_of eb e2 (fun z => nomatch z))]
  exact eb
end Dv

/-! En -/
/-! En: dicts by ints and texts, one's own. -/
namespace Dv
open PySem PySem.Spec PyProof.Rows L2 Evl LamX
variable [Nm]

def keyD : D → Option Key
  | .int i => some (.inl i)
  | .str x => some (.inr x)
  | _ => none
def keysD : List D → Option (List Key)
  | [] => some []
  | d :: ds => match keyD d, keysD ds with
    | some k, some ks => some (k :: ks)
    | _, _ => none
def keyT : D → Option (List Key)
  | .tup ds => keysD ds
  | _ => none
section
variable {κ : Type} [DecidableEq κ]
def valD (ds : List (κ × D)) (k : κ) : Option D := (ds.find? fun kv => decide (kv.1 = k)).map (·.2)
def putKD (ds : List (κ × D)) (k : κ) (d : D) : List (κ × D) :=
  if (ds.any fun kv => decide (kv.1 = k)) = true then ds.map (fun kv => if kv.1 = k then (kv.1, d) else kv) else ds ++ [(k, d)]
end
section
variable {K : PySem.W.Frag} {ca : CA} {F : Fx} {Hs H : Hp} {σ : L2.St} {ρ : En} {τ : List (Addr × Ob)} {a : Addr} {u : HO} {o : Ob}
theorem keyD_v {d : D} {k : Key} {v : V} (r : Rp K ca H v d) (h : keyD d = some k) : v = kV k := by
  cases r <;> simp [keyD] at h <;> subst h <;> rfl
theorem keysD_v : ∀ {ds : List D} {vs : List V} {k : List Key}, RpAll K ca H vs ds → keysD ds = some k → vs = k.map kV
  | _, _, _, .nil, h => by cases h; rfl
  | _, _, _, .cons (d := d) (ds := ds) r rs, h => by
    unfold keysD at h
    cases h1 : keyD d with
    | none => rw [h1] at h; cases h
    | some k1 =>
      rw [h1] at h
      cases h2 : keysD ds with
      | none => rw [h2] at h; cases h
      | some k2 =>
        rw [h2] at h
        cases h
        rw [keyD_v r h1, keysD_v rs h2, List.map_cons]
theorem keyT_v {d : D} {k : List Key} {v : V} (r : Rp K ca H v d) (h : keyT d = some k) : ∃ b, v = .ref b ∧ H b = some (.tup (k.map kV)) := by
  cases r with
  | tup h1 h2 => exact ⟨_, rfl, keysD_v h2 h ▸ h1⟩
  | _ => cases h
section
variable {κ : Type} [DecidableEq κ]
theorem ks_len : ∀ {vs : List (κ × V)} {ds : List (κ × D)}, RpKs K ca H vs ds → vs.length = ds.length
  | _, _, .nil => rfl
  | _, _, .cons _ r => congrArg Nat.succ (ks_len r)
theorem ks_any (k : κ) : ∀ {vs : List (κ × V)} {ds : List (κ × D)}, RpKs K ca H vs ds → (vs.any fun kv => decide (kv.1 = k)) = ds.any fun kv => decide (kv.1 = k)
  | _, _, .nil => rfl
  | _, _, .cons _ r => by rw [List.any_cons, List.any_cons, ks_any k r]
theorem ks_val (k : κ) : ∀ {vs : List (κ × V)} {ds : List (κ × D)}, RpKs K ca H vs ds → (∀ d, valD ds k = some d → ∃ v, valV vs k = some v ∧ Rp K ca H v d) ∧ (valD ds k = none → valV vs k = none)
  | _, _, .nil => ⟨fun d h => by simp [valD] at h, fun _ => rfl⟩
  | _, _, .cons (f := f) h r => by
    obtain ⟨i1, i2⟩ := ks_val k r
    by_cases e : f = k
    · refine ⟨fun d q => ?_, fun q => ?_⟩
      · simp [valD, List.find?_cons, e] at q
        subst q
        exact ⟨_, valV_pos e, h⟩
      · simp [valD, List.find?_cons, e] at q
    · refine ⟨fun d q => ?_, fun q => ?_⟩
      · rw [valV_neg e]
        exact i1 d (by simpa [valD, List.find?_cons, e] using q)
      · rw [valV_neg e]
        exact i2 (by simpa [valD, List.find?_cons, e] using q)
theorem ks_map (k : κ) {v : V} {d : D} (rv : Rp K ca H v d) : ∀ {vs : List (κ × V)} {ds : List (κ × D)}, RpKs K ca H vs ds → RpKs K ca H (vs.map fun kv => if kv.1 = k then (kv.1, v) else kv) (ds.map fun kv => if kv.1 = k then (kv.1, d) else kv)
  | _, _, .nil => .nil
  | _, _, .cons (f := f) h r => by
    rw [List.map_cons, List.map_cons]
    by_cases e : f = k
    · rw [if_pos e, if_pos e]; exact .cons rv (ks_map k rv r)
    · rw [if_neg e, if_neg e]; exact .cons h (ks_map k rv r)
theorem ks_app : ∀ {vs ws : List (κ × V)} {ds es : List (κ × D)}, RpKs K ca H vs ds → RpKs K ca H ws es → RpKs K ca H (vs ++ ws) (ds ++ es)
  | _, _, _, _, .nil, s => s
  | _, _, _, _, .cons h r, s => .cons h (ks_app r s)
theorem ks_put (k : κ) {v : V} {d : D} {vs : List (κ × V)} {ds : List (κ × D)} (r : RpKs K ca H vs ds) (rv : Rp K ca H v d) : RpKs K ca H (putK vs k v) (putKD ds k d) := by
  unfold putK putKD
  rw [ks_any k r]
  split
  · exact ks_map k rv r
  · exact ks_app r (.cons rv .nil)
end
/-- a new thing of one's own -/
theorem SR.tempO (S : SR K ca F Hs H σ ρ τ) (h : H a = none) (r : OC K ca Hs u o) : SR K ca F Hs (upd H a u) σ ρ ((a, o) :: τ) := by
  obtain ⟨n1, n2, _⟩ := S.fresh h
  have S1 : SR K ca F Hs (upd H a u) σ ρ τ := S.step0 (Ex.refl _) (S.ex.trans (Ex.new h)) (ExtN.of (Ex.new h)) th_new (fun b q _ => q) S.nt (tb_new S.tb h)
  have no : ∀ {b : Addr} {q : Ob}, ObR K ca Hs H b q → a ≠ b := fun ho z => by
    obtain ⟨x, hx, _⟩ := ho.there
    rw [← z, h] at hx
    cases hx
  refine { S1 with tm := fun p hp => ?_, tj := ?_, ts := fun p hp i b q hq z => ?_ }
  · rcases List.mem_cons.mp hp with rfl | hp
    · exact ⟨n1, n2, _, upd_same, r⟩
    · exact S1.tm p hp
  · rw [List.map_cons, List.nodup_cons]
    refine ⟨fun hm => ?_, S1.tj⟩
    obtain ⟨p, hp, e⟩ := List.mem_map.mp hm
    exact no (S.tm p hp).2.2 e.symm
  · rcases List.mem_cons.mp hp with rfl | hp
    · obtain ⟨c, h1, _, _, h4⟩ := S.ownAt hq
      rw [h1] at z
      cases z
      exact no h4 rfl
    · exact S1.ts p hp i b q hq z
theorem SR.writeT {o' : Ob} (S : SR K ca F Hs H σ ρ ((a, o) :: τ)) (r : OC K ca Hs u o') : SR K ca F Hs (upd H a u) σ ρ ((a, o') :: τ) := by
  obtain ⟨h1, h2, x0, y1, y2⟩ := S.tm _ List.mem_cons_self
  have y1 : H a = some x0 := y1
  have h1 : Hs a = none := h1
  have h2 : F.H a = none := h2
  have nd := List.nodup_cons.mp S.tj
  refine ⟨fun b u q => ?_, S.e0, fun b u q1 q2 q3 => ?_, fun b q => ?_, S.nw, fun i x q => ?_, S.dj, fun p hp => ?_, by rw [List.map_cons, List.nodup_cons]; exact nd, fun p hp i b o q => ?_, S.ln, S.nt, tb_put S.tb y1 y2.nt y2.nc, S.pp⟩
  · rw [upd_ne (fun z => by rw [z, h1] at q; cases q)]
    exact S.ex b u q
  · rw [upd_ne (fun z => by rw [z, h2] at q1; cases q1)]
    exact S.fr b u q1 q2 q3
  · by_cases z : b = a
    · rw [z, upd_same]; exact Option.some_ne_none _
    · rw [upd_ne z]; exact S.th b q
  · obtain ⟨v, r1, r2⟩ := S.sl i x q
    refine ⟨v, r1, ?_⟩
    cases x with
    | sh d => exact r2
    | own b o =>
      obtain ⟨c, rfl, r3, r4, r5⟩ := r2
      exact ⟨c, rfl, r3, r4, r5.mono (Ex.refl _) (upd_ne fun z => S.ts _ List.mem_cons_self i b o q (by rw [r1, z]))⟩
  · rcases List.mem_cons.mp hp with rfl | hp
    · exact ⟨h1, h2, _, upd_same, r⟩
    · obtain ⟨r1, r2, r3⟩ := S.tm p (List.mem_cons_of_mem _ hp)
      exact ⟨r1, r2, r3.mono (Ex.refl _) (upd_ne fun z => nd.1 (List.mem_map.mpr ⟨p, hp, z⟩))⟩
  · rcases List.mem_cons.mp hp with rfl | hp
    · exact S.ts _ List.mem_cons_self i b o q
    · exact S.ts p (List.mem_cons_of_mem _ hp) i b o q
theorem SR.writeS {i : Nat} {b : Bool} {o' : Ob} (S : SR K ca F Hs H σ ρ τ) (h : ρ[i]? = some (some (.own b o))) (g1 : σ[i]? = some (some (.ref a))) (r : OC K ca Hs u o') : SR K ca F Hs (upd H a u) σ (ρ.set i (some (.own b o'))) τ := by
  obtain ⟨a', g1', g2, g3, g4⟩ := S.ownAt h
  rw [g1] at g1'
  cases g1'
  obtain ⟨u0, k1, k2⟩ := g4
  refine S.write h g1 (Ex.refl _) (fun c x hc => ?_) (fun c x hc hx _ => ?_) th_new (fun c hc _ => hc) S.nt (tb_put S.tb k1 k2.nt k2.nc) ⟨u, upd_same, r⟩
  · rw [upd_ne (fun z => by rw [z, g2] at hc; cases hc)]
    exact S.ex c x hc
  · rw [upd_ne hc]
    exact hx
end
/-! ### readings -/
def gGetD : G2
  | .dic ds, k => (match keyD k with
    | some k => valD ds k
    | none => none)
  | .dit ds, k => (match keyT k with
    | some k => valD ds k
    | none => none)
  | _, _ => none
def inD (k : D) : D → Option Bool
  | .dic ds => (match keyD k with
    | some k => some (valD ds k).isSome
    | none => none)
  | .dit ds => (match keyT k with
    | some k => some (valD ds k).isSome
    | none => none)
  | _ => none
def gInD : G2 := fun k d => (inD k d).map .bl
def gNiD : G2 := fun k d => (inD k d).map fun b => .bl (!b)
def ownD (ρ : En) (i : Nat) : Option (Bool × List (Key × D)) := match ρ[i]? with
  | some (some (.own b (.dic ds))) => some (b, ds)
  | _ => none
theorem ownD_some {ρ : En} {i : Nat} {b : Bool} {ds : List (Key × D)} (h : ownD ρ i = some (b, ds)) : ρ[i]? = some (some (.own b (.dic ds))) := by
  unfold ownD at h
  split at h
  · rename_i q; cases h; exact q
  · cases h
def ownDt (ρ : En) (i : Nat) : Option (Bool × List (List Key × D)) := match ρ[i]? with
  | some (some (.own b (.dit ds))) => some (b, ds)
  | _ => none
theorem ownDt_some {ρ : En} {i : Nat} {b : Bool} {ds : List (List Key × D)} (h : ownDt ρ i = some (b, ds)) : ρ[i]? = some (some (.own b (.dit ds))) := by
  unfold ownDt at h
  split at h
  · rename_i q; cases h; exact q
  · cases h
def gPutD (i : Nat) (fk fv : PF) : SS := fun ρ => match fv ρ, fk ρ with
  | some d, some k => (match ownD ρ i with
    | some (b, ds) => (match keyD k with
      | some k => if szOk (ds.length + 1) = true then some (.nx (ρ.set i (some (.own b (.dic (putKD ds k d)))))) else none
      | none => none)
    | none => (match ownDt ρ i with
      | some (b, ds) => (match keyT k with
        | some k => if szOk (ds.length + 1) = true then some (.nx (ρ.set i (some (.own b (.dit (putKD ds k d)))))) else none
        | none => none)
      | none => none))
  | _, _ => none
def gSetd (i : Nat) (fk fv : PF) : SS := fun ρ => match fk ρ, fv ρ, ownD ρ i with
  | some k, some d, some (b, ds) => (match keyD k with
    | some k => if szOk (ds.length + 1) = true then (match valD ds k with
      | some _ => some (.nx ρ)
      | none => some (.nx (ρ.set i (some (.own b (.dic (putKD ds k d))))))) else none
    | none => none)
  | _, _, _ => none
def nDic0 : NF' := fun ρ => some (.dic [], ρ)
def nDic1 (fk fv : PF) : NF' := fun ρ => match fk ρ, fv ρ with
  | some k, some d => (match keyD k with
    | some k => some (.dic [(k, d)], ρ)
    | none => (match keyT k with
      | some k => some (.dit [(k, d)], ρ)
      | none => none))
  | _, _ => none
section
variable {X : Cx} {ca : CA} {o e v : Expr} {fo fk fv : PF} {pos p2 apos cpos : Pos} {i : Nat}
theorem d_dget (hu : X.A.units + 1 < cLine) (ho : PE X o (RdW X.K ca fo)) (hk : PE X e (RdP X.K ca fk)) (hs : NoSl e) : PE X (.Subscript o e pos) (RdP X.K ca (fOp gGetD fo fk)) := PEimp (pe_dget hu ho hk hs) fun σ H Q q => by
  obtain ⟨F, Hs, ρ, τ, d, S, e, n⟩ := q
  unfold fOp at e
  split at e
  rotate_left
  · cases e
  rename_i dd h1
  split at e
  rotate_left
  · cases e
  rename_i kd h2
  unfold gGetD at e
  split at e
  · rename_i ds k
    split at e
    · rename_i k' hk
      refine RdW.intro S h1 fun x Hs1 H1 t1 w1 => RdP.intro (S.go t1) h2 fun y Hs2 H2 t2 r2 => ?_
      obtain ⟨a, vs, rfl, k1, k2⟩ := (w1.mono t2.e t2.k).dic t2.x
      obtain ⟨z, k3, k4⟩ := (ks_val k' k2).1 d e
      obtain rfl := keyD_v r2 hk
      refine ⟨a, z, rfl, ?_, (n.to (t1.trans t2)).here t2.x k4⟩
      rw [← k3]
      exact DGet.k k1
    · cases e
  · rename_i ds k
    split at e
    · rename_i k' hk
      refine RdW.intro S h1 fun x Hs1 H1 t1 w1 => RdP.intro (S.go t1) h2 fun y Hs2 H2 t2 r2 => ?_
      obtain ⟨a, vs, rfl, k1, k2⟩ := (w1.mono t2.e t2.k).dit t2.x
      obtain ⟨z, k3, k4⟩ := (ks_val k' k2).1 d e
      obtain ⟨c, rfl, hc⟩ := keyT_v r2 hk
      refine ⟨a, z, rfl, ?_, (n.to (t1.trans t2)).here t2.x k4⟩
      rw [← k3]
      exact DGet.t k1 (t2.x _ _ hc)
    · cases e
  · cases e
theorem val_some {κ : Type} [DecidableEq κ] {K : PySem.W.Frag} {H : Hp} {vs : List (κ × V)} {ds : List (κ × D)} (r : RpKs K ca H vs ds) (k : κ) : (valV vs k).isSome = (valD ds k).isSome := by
  obtain ⟨i1, i2⟩ := ks_val k r
  cases q : valD ds k with
  | none => rw [i2 q]; rfl
  | some d =>
    obtain ⟨v, hv, _⟩ := i1 d q
    rw [hv]; rfl
theorem inD_get {K : PySem.W.Frag} {Hs H : Hp} {x y : V} {k d : D} {b : Bool} (hx : Ex Hs H) (w : WR K ca Hs H x d) (r : Rp K ca Hs y k) (h : inD k d = some b) : ∃ a o, x = .ref a ∧ DGet H a y o ∧ o.isSome = b := by
  unfold inD at h
  split at h
  · rename_i ds
    split at h
    · rename_i k' hk
      cases h
      obtain ⟨a, vs, rfl, k1, k2⟩ := w.dic hx
      obtain rfl := keyD_v r hk
      exact ⟨a, _, rfl, DGet.k k1, val_some k2 k'⟩
    · cases h
  · rename_i ds
    split at h
    · rename_i k' hk
      cases h
      obtain ⟨a, vs, rfl, k1, k2⟩ := w.dit hx
      obtain ⟨c, rfl, hc⟩ := keyT_v r hk
      exact ⟨a, _, rfl, DGet.t k1 (hx _ _ hc), val_some k2 k'⟩
    · cases h
  · cases h
theorem rd_in {K : PySem.W.Frag} {σ : L2.St} {H : Hp} {Q : VK} (q : RdP K ca (fOp gInD fk fo) σ H Q) : tDIn (RdP K ca fk) (RdW K ca fo) σ H Q := by
  obtain ⟨F, Hs, ρ, τ, d, S, e, n⟩ := q
  unfold fOp at e
  split at e
  rotate_left
  · cases e
  rename_i kd h1
  split at e
  rotate_left
  · cases e
  rename_i dd h2
  unfold gInD at e
  cases hb : inD kd dd with
  | none => rw [hb] at e; cases e
  | some b =>
    rw [hb] at e
    cases e
    refine RdP.intro S h1 fun y Hs1 H1 t1 r1 => RdW.intro (S.go t1) h2 fun x Hs2 H2 t2 w2 => ?_
    obtain ⟨a, o, rfl, k1, k2⟩ := inD_get t2.x w2 (r1.mono t2.e) hb
    refine ⟨a, o, rfl, k1, ?_⟩
    rw [k2]
    exact (n.to (t1.trans t2)).here t2.x (.bl _)
theorem rd_ni {K : PySem.W.Frag} {σ : L2.St} {H : Hp} {Q : VK} (q : RdP K ca (fOp gNiD fk fo) σ H Q) : tDNotIn (RdP K ca fk) (RdW K ca fo) σ H Q := by
  obtain ⟨F, Hs, ρ, τ, d, S, e, n⟩ := q
  unfold fOp at e
  split at e
  rotate_left
  · cases e
  rename_i kd h1
  split at e
  rotate_left
  · cases e
  rename_i dd h2
  unfold gNiD at e
  cases hb : inD kd dd with
  | none => rw [hb] at e; cases e
  | some b =>
    rw [hb] at e
    cases e
    refine RdP.intro S h1 fun y Hs1 H1 t1 r1 => RdW.intro (S.go t1) h2 fun x Hs2 H2 t2 w2 => ?_
    obtain ⟨a, o, rfl, k1, k2⟩ := inD_get t2.x w2 (r1.mono t2.e) hb
    refine ⟨a, o, rfl, k1, ?_⟩
    rw [k2]
    exact (n.to (t1.trans t2)).here t2.x (.bl _)
theorem d_din (hu : X.A.units + 1 < cLine) (hk : PE X e (RdP X.K ca fk)) (ho : PE X o (RdW X.K ca fo)) (h1 : behindInMarks .In o = false := by rfl) : PE X (.Compare e [.In] [o] pos) (RdP X.K ca (fOp gInD fk fo)) := PEimp (pe_cmp (pc_din hu hk ho) h1) fun _ _ _ q => rd_in q
theorem d_tdin (hu : X.A.units + 1 < cLine) (hk : PE X e (RdP X.K ca fk)) (ho : PE X o (RdW X.K ca fo)) (h1 : behindInMarks .In o = false := by rfl) : PT X (.Compare e [.In] [o] pos) (RdT X.K ca (tB' (fOp gInD fk fo))) := PTimp (pt_cmp (pc_din hu hk ho) h1) fun σ H Q q => by
  obtain ⟨F, Hs, ρ, τ, b, S, e, n⟩ := q
  refine rd_in (RdP.intro S (asB_some e) fun v Hs' H' t r => ?_)
  cases r
  exact ⟨b, rfl, n Hs' H' t⟩
theorem d_tdni (hu : X.A.units + 1 < cLine) (hk : PE X e (RdP X.K ca fk)) (ho : PE X o (RdW X.K ca fo)) (h1 : behindInMarks .NotIn o = false := by rfl) : PT X (.Compare e [.NotIn] [o] pos) (RdT X.K ca (tB' (fOp gNiD fk fo))) := PTimp (pt_cmp (pc_dnotin hu hk ho) h1) fun σ H Q q => by
  obtain ⟨F, Hs, ρ, τ, b, S, e, n⟩ := q
  refine rd_ni (RdP.intro S (asB_some e) fun v Hs' H' t r => ?_)
  cases r
  exact ⟨b, rfl, n Hs' H' t⟩
/-- d[k] = v -/
theorem g_dput (hu : X.A.units + 1 < cLine) (ho : PE X o (tVar i)) (hk : PE X e (RdP X.K ca fk)) (hv : PE X v (RdP X.K ca fv)) (hs : swapsWith v (some (.Subscript o e p2)) pos.line X.env = pure false := by rfl) :
    PS X (.Assign [.Subscript o e p2] v pos) (RdS X.K ca (gPutD i fk fv)) := PSimp (ps_dput hu ho hk hv hs) fun D σ H q => by
  obtain ⟨F, Hs, ρ, o, S, e, n⟩ := q
  unfold gPutD at e
  split at e
  rotate_left
  · cases e
  rename_i d kd h1 h2
  split at e
  · rename_i b ds h3
    split at e
    · rename_i k hk
      split at e
      · rename_i c
        cases e
        refine RdP.intro S h1 fun y Hs1 H1 t1 r1 => ?_
        obtain ⟨a, g1, _, _, _⟩ := (S.go t1).ownAt (ownD_some h3)
        refine ⟨_, g1, RdP.intro (S.go t1) h2 fun z Hs2 H2 t2 r2 => ?_⟩
        have S2 := (S.go t1).go t2
        obtain ⟨a', g1', _, _, g4⟩ := S2.ownAt (ownD_some h3)
        rw [g1] at g1'
        cases g1'
        obtain ⟨vs, k1, k2⟩ := obd g4
        obtain rfl := keyD_v r2 hk
        have hl : vs.length < sizeLine := by
          rw [ks_len k2]
          have := of_decide_eq_true c
          exact sz_lt (by omega)
        exact ⟨a, _, rfl, DPut.k k1 hl, n _ Hs2 _ (t1.e.trans t2.e) (S2.writeS (ownD_some h3) g1 (.dic (ks_put k k2 (r1.mono t2.e))))⟩
      · cases e
    · cases e
  · split at e
    rotate_left
    · cases e
    rename_i b ds h3
    split at e
    · rename_i k hk
      split at e
      · rename_i c
        cases e
        refine RdP.intro S h1 fun y Hs1 H1 t1 r1 => ?_
        obtain ⟨a, g1, _, _, _⟩ := (S.go t1).ownAt (ownDt_some h3)
        refine ⟨_, g1, RdP.intro (S.go t1) h2 fun z Hs2 H2 t2 r2 => ?_⟩
        have S2 := (S.go t1).go t2
        obtain ⟨a', g1', _, _, g4⟩ := S2.ownAt (ownDt_some h3)
        rw [g1] at g1'
        cases g1'
        obtain ⟨vs, k1, k2⟩ := obdt g4
        obtain ⟨bb, rfl, hb⟩ := keyT_v r2 hk
        have hl : vs.length < sizeLine := by
          rw [ks_len k2]
          have := of_decide_eq_true c
          exact sz_lt (by omega)
        exact ⟨a, _, rfl, DPut.t k1 (t2.x _ _ hb) hl, n _ Hs2 _ (t1.e.trans t2.e) (S2.writeS (ownDt_some h3) g1 (.dit (ks_put k k2 (r1.mono t2.e))))⟩
      · cases e
    · cases e
/-- d.setdefault(k, v) -/
theorem g_setd (ho : PE X o (tVar i)) (hk : PE X e (RdP X.K ca fk)) (hv : PE X v (RdP X.K ca fv)) (m : M2 X o "setdefault" apos e v cpos) (hs : swapsWith (.Call (.Attribute o "setdefault" apos) [e, v] [] cpos) none pos.line X.env = pure false := by rfl) :
    PS X (.Expr (.Call (.Attribute o "setdefault" apos) [e, v] [] cpos) pos) (RdS X.K ca (gSetd i fk fv)) := PSimp (ps_expr (pe_dsetd ho hk hv m) hs) fun D σ H q => by
  obtain ⟨F, Hs, ρ, o, S, e, n⟩ := q
  unfold gSetd at e
  split at e
  · rename_i kd d b ds h1 h2 h3
    split at e
    · rename_i k hk
      split at e
      · rename_i c
        obtain ⟨a, g1, _, _, g4⟩ := S.ownAt (ownD_some h3)
        obtain ⟨vs0, k0, _⟩ := obd g4
        refine ⟨_, g1, a, rfl, .inl ⟨vs0, .inl k0⟩, RdP.intro S h1 fun y Hs1 H1 t1 r1 => RdP.intro (S.go t1) h2 fun z Hs2 H2 t2 r2 => ?_⟩
        have S2 := (S.go t1).go t2
        obtain ⟨a', g1', _, _, g4'⟩ := S2.ownAt (ownD_some h3)
        rw [g1] at g1'
        cases g1'
        obtain ⟨vs, k1, k2⟩ := obd g4'
        obtain rfl := keyD_v r1 hk
        have hl : vs.length < sizeLine := by
          rw [ks_len k2]
          have := of_decide_eq_true c
          exact sz_lt (by omega)
        refine ⟨vs, k, k1, rfl, hl, fun v hv => ?_, fun hv => ?_⟩
        · split at e
          · cases e
            exact n _ Hs2 _ (t1.e.trans t2.e) S2
          · rename_i hno
            rw [(ks_val k k2).2 hno] at hv
            cases hv
        · split at e
          · rename_i d' hd
            obtain ⟨v', hv', _⟩ := (ks_val k k2).1 d' hd
            rw [hv] at hv'
            cases hv'
          · cases e
            exact n _ Hs2 _ (t1.e.trans t2.e) (S2.writeS (ownD_some h3) g1 (.dic (ks_put k k2 r2)))
      · cases e
    · cases e
  · cases e
theorem n_dic0 : PE X (.Dict [] [] pos) (RdN X.K ca nDic0) := PEimp pe_dnewK fun σ H Q q => by
  obtain ⟨F, Hs, ρ, τ, o, ρ', S, e, n⟩ := q
  cases e
  exact fun p hp => n p Hs _ (Ex.refl _) (S.tempO hp (.dic .nil))
theorem n_dic1 (hu : X.A.units + 1 < cLine) (hk : PE X e (RdP X.K ca fk)) (hv : PE X v (RdP X.K ca fv)) : PE X (.Dict [some e] [v] pos) (RdN X.K ca (nDic1 fk fv)) := PEimp (pe_disp1 hu hk hv) fun σ H Q q => by
  obtain ⟨F, Hs, ρ, τ, o, ρ', S, e, n⟩ := q
  unfold nDic1 at e
  split at e
  · rename_i kd d h1 h2
    split at e
    · rename_i k hk
      cases e
      refine .inl fun p hp => ?_
      have S1 := S.tempO (K := X.K) (o := .dic []) hp (.dic .nil)
      refine RdP.intro S1 h1 fun y Hs1 H1 t1 r1 => RdP.intro (S1.go t1) h2 fun z Hs2 H2 t2 r2 => ?_
      have S2 := (S1.go t1).go t2
      obtain ⟨_, _, c3⟩ := S2.tm _ List.mem_cons_self
      obtain ⟨vs, v1, v2⟩ := obd c3
      cases v2
      obtain rfl := keyD_v r1 hk
      exact ⟨v1, [(k, z)], rfl, Nat.le_of_ble_eq_true rfl, n p Hs2 _ (t1.e.trans t2.e) (S2.writeT (.dic (.cons r2 .nil)))⟩
    · split at e
      · rename_i k hk
        cases e
        refine .inr fun p hp => ?_
        have S1 := S.tempO (K := X.K) (o := .dit []) hp (.dit .nil)
        refine RdP.intro S1 h1 fun y Hs1 H1 t1 r1 => RdP.intro (S1.go t1) h2 fun z Hs2 H2 t2 r2 => ?_
        have S2 := (S1.go t1).go t2
        obtain ⟨_, _, c3⟩ := S2.tm _ List.mem_cons_self
        obtain ⟨vs, v1, v2⟩ := obdt c3
        cases v2
        obtain ⟨b, rfl, hb⟩ := keyT_v (r1.mono t2.e) hk
        exact ⟨v1, b, k, rfl, t2.x _ _ hb, n p Hs2 _ (t1.e.trans t2.e) (S2.writeT (.dit (.cons r2 .nil)))⟩
      · cases e
  · cases e
end
end Dv

/-! Eo -/
/-! Eo: for a, b in zip(text, list). -/
namespace Dv
open PySem PySem.Spec PyProof.Rows L2 Evl LamX
variable [Nm]

theorem hu_1 {k : Nat} {A : Around} (r : Room k A) : A.units + 1 < cLine := by have := r.un; omega
def Itx (K : PySem.W.Frag) (x : Str) (b : Addr) : It :=
  ⟨fun i H => i < x.cps.size ∧ ∃ (ys : List V) (y : V), SqL K H b ys ∧ ys[i]? = some y,
    fun i H v H' => ∃ T c y, v = .ref T ∧ H T = none ∧ H' = upd H T (.tup [.str ⟨#[c]⟩, y]) ∧ x.cps[i]? = some c ∧ ∀ ys, SqL K H b ys → ys[i]? = some y,
    fun i H => ∃ ys : List V, SqL K H b ys ∧ i ≤ x.cps.size ∧ i ≤ ys.length ∧ (i = x.cps.size ∨ i = ys.length)⟩
theorem turn_x {P : Program} {w : World} {K : PySem.W.Frag} {elts : List Expr} {kk : Nat} {tpos : Pos} {b z TI TO i1 i2 : Addr} {x : Str} {t : Tok} (D : ZipSep2 z TI TO i1 i2 [i1] [i2, b]) (hne : b ≠ i2) :
    Turn P w K (.Tuple elts kk tpos) (Itx K x b) [z, TI, TO, i1, i2] z (fun i h => IsZip h z TI TO .none ∧ IsTupOf2 h TI (.ref i1) (.ref i2) ∧ (∃ u v, IsTupOf2 h TO u v) ∧ h.IsStrIter i1 (strIterType x) x t i ∧ h.IsListIter i2 b i) where
  mem := List.mem_cons_self
  obj := fun i h st c hc => by
    obtain ⟨g1, g2, ⟨u, v, g3⟩, ⟨o4, g4, _, d4⟩, ⟨o5, g5, _, d5⟩⟩ := st
    simp only [List.mem_cons, List.not_mem_nil, or_false] at hc
    rcases hc with rfl | rfl | rfl | rfl | rfl
    · exact ⟨_, g1, fun v q => nomatch q⟩
    · exact ⟨_, g2, fun v q => nomatch q⟩
    · exact ⟨_, g3, fun v q => nomatch q⟩
    · exact ⟨o4, g4, fun v q => by rw [d4] at q; cases q⟩
    · exact ⟨o5, g5, fun v q => by rw [d5] at q; cases q⟩
  keep := fun i h h' st k => by
    obtain ⟨g1, g2, ⟨u, v, g3⟩, g4, g5⟩ := st
    obtain ⟨o4, g4, r4⟩ := g4
    exact ⟨k z (by simp) _ g1, k TI (by simp) _ g2, ⟨u, v, k TO (by simp) _ g3⟩, ⟨o4, k i1 (by simp) _ g4, r4⟩, g5.at fun o q => k i2 (by simp) o q⟩
  item := by
    intro X hP hw hK hc i pins s σ H E I hf st hg
    subst hP hw hK
    obtain ⟨g1, g2, ⟨u0, v0, g3⟩, g4, g5⟩ := st
    obtain ⟨hlt, ys, y, hq, hy⟩ := hg
    obtain ⟨its, rv, pl, _⟩ := I.list hq
    have hlt2 : i < its.toArray.size := by rw [List.size_toArray, ← rv.length]; exact (List.getElem?_eq_some_iff.mp hy).1
    refine wpAny_pyNext_zipD2_item D (Draws.text (A := X.A.in1) (I.ok.hd hc) i1 x t) (Draws.list (A := X.A.in1) (I.ok.hd hc) i2 b hne its.toArray) g1 g2 g3 g4 ⟨g5, pl.isList⟩ hlt hlt2 fun x1 x2 h1 tk p1 p2 a1 a2 a3 a4 a5 a6 a7 => ?_
    obtain ⟨c, u, hcx, rfl⟩ := p1
    refine ⟨_, rfl, wpAny_letOwnedTupleGo_zip (s := { s with heap := h1, toks := tk }) a1 fun h2 b1 sb => ?_⟩
    have zlt : z < s.heap.objs.size := Heap.lt_size g1
    have hT : h2.get? s.heap.objs.size = some { cls := .type "tuple", data := .seq #[.str ⟨#[c]⟩ u, x2] } := (sb.2 _ (Nat.ne_of_gt zlt)).trans a5
    obtain ⟨w2, hw2, rw2⟩ := rv.get hy
    have ex2 : x2 = w2 := by
      have p2' : its.toArray[i]? = some x2 := p2
      have q2 : its[i]? = some x2 := by simpa using p2'
      rw [hw2] at q2
      exact (Option.some.inj q2).symm
    subst ex2
    have nw : ObjOk X.prog X.w (upd H s.heap.objs.size (.tup [.str ⟨#[c]⟩, y])) h2 s.heap.objs.size (.tup [.str ⟨#[c]⟩, y]) :=
      ⟨by show 2 ≤ sizeLine; decide, [.str ⟨#[c]⟩ u, x2], .cons ⟨u, rfl⟩ (.cons rw2 .nil), ⟨_, hT, rfl, _, rfl⟩⟩
    have I1 : Inv X pins σ (upd H s.heap.objs.size (.tup [.str ⟨#[c]⟩, y])) { s with heap := h2, toks := tk } :=
      I.turnedNew (ch := [z, TI, TO, i1, i2]) (fun c' o hb q => (sb.2 c' (fun e => hb (by simp [e]))).trans (a7 c' o (fun e => hb (by simp [e])) (fun e => hb (by simp [e])) (fun e => hb (by simp [e])) (fun e => hb (by simp [e])) q)) hf (Nat.le_refl _) nw
    obtain ⟨o4, ho4, r4⟩ := a3
    refine ⟨.ref s.heap.objs.size, _, I1, rfl, ⟨_, c, y, rfl, I.hok.fresh (Nat.le_refl _), rfl, hcx, fun l hl => by rw [I.list_inj hl hq]; exact hy⟩, ⟨b1, ?_, ⟨_, _, (sb.2 _ D.TOz).trans a2⟩, ⟨o4, (sb.2 _ (Ne.symm D.zi1)).trans ho4, r4⟩, a4.1.at fun o q => (sb.2 _ (Ne.symm D.zi2)).trans q⟩, fun d hd => ?_⟩
    · exact (sb.2 _ D.TIz).trans (a7 _ _ D.TIz D.TITO D.TIi1 D.TIi2 g2)
    · have dlt : d < s.heap.objs.size := by
        simp only [List.mem_cons, List.not_mem_nil, or_false] at hd
        rcases hd with rfl | rfl | rfl | rfl | rfl
        · exact zlt
        · exact Heap.lt_size g2
        · exact Heap.lt_size g3
        · obtain ⟨_, e4, _⟩ := g4; exact Heap.lt_size e4
        · obtain ⟨_, e5, _⟩ := g5; exact Heap.lt_size e5
      rw [upd_ne (Nat.ne_of_lt dlt)]
      exact (hf d hd).1
  done := by
    intro X hP hw hK hc i pins s σ H E I hf st hg
    subst hP hw hK
    obtain ⟨g1, g2, ⟨u0, v0, g3⟩, g4, g5⟩ := st
    obtain ⟨ys, hq, l1, l2, le⟩ := hg
    obtain ⟨its, rv, pl, _⟩ := I.list hq
    have el : its.toArray.size = ys.length := by rw [List.size_toArray, rv.length]
    exact wpAny_pyNext_zipD2_end D (Draws.text (A := X.A.in1) (I.ok.hd hc) i1 x t) (Draws.list (A := X.A.in1) (I.ok.hd hc) i2 b hne its.toArray) g1 g2 g3 g4 ⟨g5, pl.isList⟩ l1 (by rw [el]; exact l2) (by rw [el]; exact le) fun h1 tk hk =>
      ⟨rfl, I.turnedL (ch := [z, TI, TO, i1, i2]) (fun c' o hb q => hk c' o (fun e => hb (by simp [e])) (fun e => hb (by simp [e])) (fun e => hb (by simp [e])) (fun e => hb (by simp [e])) q) hf⟩
  self := fun A i s Q E st h => wpAny_pyIter_zip st.1 h
theorem sepX {n b : Nat} (h : b < n) : ZipSep2 (n + 4) (n + 2) (n + 3) n (n + 1) [n] [n + 1, b] where
  TIz := fun (e : n + 2 = n + 4) => by omega
  TOz := fun (e : n + 3 = n + 4) => by omega
  TITO := fun (e : n + 2 = n + 3) => by omega
  TIi1 := fun (e : n + 2 = n) => by omega
  mem1 := List.mem_cons_self
  zf1 := fun e => by
    have e : n + 4 = n := List.mem_singleton.mp e
    omega
  Tf1 := fun e => by
    have e : n + 3 = n := List.mem_singleton.mp e
    omega
  TIi2 := fun (e : n + 2 = n + 1) => by omega
  mem2 := List.mem_cons_self
  zf2 := fun e => by
    rcases List.mem_cons.mp e with e | e
    · have e : n + 4 = n + 1 := e
      omega
    · have e : n + 4 = b := List.mem_singleton.mp e
      omega
  Tf2 := fun e => by
    rcases List.mem_cons.mp e with e | e
    · have e : n + 3 = n + 1 := e
      omega
    · have e : n + 3 = b := List.mem_singleton.mp e
      omega
  sep1_2 := fun e => by
    rcases List.mem_cons.mp e with e | e
    · have e : n = n + 1 := e
      omega
    · have e : n = b := List.mem_singleton.mp e
      omega
  sep2_1 := fun e => by
    have e : n + 1 = n := List.mem_singleton.mp e
    omega
def iZx (K : PySem.W.Frag) (ta : TA) : TI := fun σ H R => ta σ H fun vs H1 => ∃ x b ys, vs = [.str x, .ref b] ∧ SqL K H1 b ys ∧ R (Itx K x b) H1
theorem pi_zx {X : Cx} {e e2 : Expr} {ta : TA} {p pos tpos : Pos} {elts : List Expr} {kk : Nat} (hg : Gl X "zip") (hm : X.mg "zip" = none) (ha : PA X [e, e2] ta)
    (hs : starEach [e, e2] X.env = (false, eval e X.env) :: starEach [e2] X.env := by rfl) (hpl : (backTo pos (starEach [e2] X.env)).any (·.1) = false := by rfl) :
    PI X (.Tuple elts kk tpos) (.Call (.Name "zip" p) [e, e2] [] pos) (iZx X.K ta) := by
  constructor
  intro pins s σ H R I h
  refine Call_ (ld_blt I hg hm PyProof.Rows.boot_zip (PyProof.Rows.callWith_type1 (thn (ha.run pos pins s σ H _ I h) fun us s1 z => ?_) hs hpl))
  obtain ⟨vs, H1, I1, r1, x, b, ys, rfl, hq, q⟩ := z
  cases r1 with
  | cons r rr =>
    cases rr with
    | cons r' rr =>
      cases rr
      obtain ⟨t, rfl⟩ := r
      cases r'
      obtain ⟨its, rv, pl, _⟩ := I1.list hq
      have lb : b < s1.heap.objs.size := pl.lt
      refine zip_begins2 (begins_text x t) (begins_list b its.toArray) trivial pl.isList fun h' z1 z2 z3 z4 z5 hsz hk => wpAny_pyIter_zip z1 ?_
      have I2 : Inv X pins σ H1 { s1 with heap := h' } := I1.kept (t' := s1.toks) hk
      have D := sepX lb
      refine ⟨s1.heap.objs.size + 4, [s1.heap.objs.size + 4, s1.heap.objs.size + 2, s1.heap.objs.size + 3, s1.heap.objs.size, s1.heap.objs.size + 1], _, _, H1, rfl, I2, turn_x (x := x) (t := t) D (Nat.ne_of_lt (Nat.lt_succ_of_lt lb)), ⟨z1, z2, ⟨_, _, z3⟩, ⟨_, z4, rfl, rfl⟩, ⟨_, z5, rfl, rfl⟩⟩, fun c hc => ?_, q⟩
      have hle : s1.heap.objs.size ≤ c := by
        simp only [List.mem_cons, List.not_mem_nil, or_false] at hc
        rcases hc with rfl | rfl | rfl | rfl | rfl
        · exact Nat.le_add_right _ 4
        · exact Nat.le_add_right _ 2
        · exact Nat.le_add_right _ 3
        · exact Nat.le_refl _
        · exact Nat.le_add_right _ 1
      exact I1.fpOk hle (I1.hok.fresh hle)
/-! ### as data -/
def zipSD (z : Str) (ds : List D) : List D := (z.cps.toList.zip ds).map fun p => .tup [.str ⟨#[p.1]⟩, p.2]
def iZs (fa fb : PF) : AF := fun ρ => match fa ρ, fb ρ with
  | some (.str z), some (.lst ds) => some (zipSD z ds)
  | _, _ => none
theorem itX {K : PySem.W.Frag} {ca : CA} {Hs B : Hp} {z : Str} {a : Addr} {xs : List V} {ds : List D} (h : B a = some (.lst xs)) (r : RpAll K ca Hs xs ds) : ItOk K ca Hs B (Itx K z a) (zipSD z ds) := by
  have hn : (zipSD z ds).length = min z.cps.size ds.length := by unfold zipSD; rw [List.length_map, List.length_zip, Array.length_toList]
  refine ⟨fun H => SqL K H a xs, fun i H v H' => ∃ T c y, v = .ref T ∧ H T = none ∧ H' = upd H T (.tup [.str ⟨#[c]⟩, y]) ∧ z.cps[i]? = some c ∧ xs[i]? = some y, ⟨fun i H hi q => ?_, fun H q => ?_, fun i H v H' hi q y => ?_⟩, fun H1 e => sq_of (e _ _ h nt_lst), fun i x Hs1 H1 H2 e1 ex hi y => ?_⟩
  · rw [hn] at hi
    have h2 : i < xs.length := by rw [r.len]; omega
    exact ⟨by omega, xs, xs[i], q, by simp [h2]⟩
  · refine ⟨xs, q, by omega, by rw [r.len]; omega, ?_⟩
    rw [r.len]
    omega
  · obtain ⟨T, c, y', q1, q2, q3, q4, q5⟩ := y
    exact ⟨T, c, y', q1, q2, q3, q4, q5 xs q⟩
  · obtain ⟨T, c, v, rfl, hT, rfl, hu, hv⟩ := y
    obtain ⟨d, h1, h2⟩ := r.getV hv
    have t : Go Hs1 H1 (upd Hs1 T (.tup [.str ⟨#[c]⟩, v])) (upd H1 T (.tup [.str ⟨#[c]⟩, v])) := Go.alloc ex nt_tup hT
    refine ⟨_, .tup [.str ⟨#[c]⟩, d], t, ?_, .tup upd_same (.cons (.str _) (.cons (h2.mono (e1.trans t.e)) .nil))⟩
    unfold zipSD
    have hu' : z.cps.toList[i]? = some c := by rw [Array.getElem?_toList]; exact hu
    have hz : (z.cps.toList.zip ds)[i]? = some (c, d) := List.getElem?_zip_eq_some.mpr ⟨hu', h1⟩
    rw [List.getElem?_map, hz]
    rfl
section
variable {X : Cx} {ca : CA} {a b : Expr} {fa fb : PF} {elts : List Expr} {kk : Nat} {p pos tpos : Pos}
theorem i_zipS (hg : Gl X "zip") (hm : X.mg "zip" = none) (ha : PE X a (RdP X.K ca fa)) (hb : PE X b (RdP X.K ca fb)) (hs : starEach [a, b] X.env = (false, eval a X.env) :: starEach [b] X.env := by rfl) (hs2 : starEach [b] X.env = (false, eval b X.env) :: starEach [] X.env := by rfl) (hpl : (backTo pos (starEach [b] X.env)).any (·.1) = false := by rfl) :
    PI X (.Tuple elts kk tpos) (.Call (.Name "zip" p) [a, b] [] pos) (RdIS X.K ca (iZs fa fb)) :=
  PIimp (pi_zx hg hm (a_cons ha (a_cons hb a_nil hs2) hs) hs hpl) fun σ H R q => by
    obtain ⟨F, Hs, ρ, τ, ds, S, e, n⟩ := q
    unfold iZs at e
    split at e
    · rename_i z es h1 h2
      cases e
      refine ⟨F, Hs, ρ, τ, [.str z, .lst es], S, by simp only [aCons, h1, h2, aNil], fun vs Hs' H' t r => ?_⟩
      cases r with
      | cons r rr =>
        cases rr with
        | cons r2 rr =>
          cases rr
          cases r
          cases r2 with
          | lst h3 r3 => exact ⟨z, _, _, rfl, sq_of (t.x _ _ h3), n _ _ _ t (itX h3 r3)⟩
    · cases e
end
end Dv

/-! Ep -/
/-! Ep: the end of the walk for a law whose promise is kept where no guard stands. -/
namespace Dv
open PySem PySem.Spec PyProof.Rows L2 Evl LamX
variable [Nm]

/-- the abstract heap at the start: the script alone, if it is none of the module's own objects -/
def startH (K : PySem.W.Frag) (a : Addr) (vs : List Value) (ns : List Int) : Hp := fun b => if b = a ∧ (K.lookup a).isNone = true then some (.frz { cls := .type "list", data := .seq vs.toArray } (.lst (ns.map V.int))) else none
section
variable {P : Program} {w : World} {K : PySem.W.Frag} {a : Addr} {vs : List Value} {ns : List Int} {s1 : Shared}
theorem startH_at {b : Addr} {u : HO} (h : startH K a vs ns b = some u) : b = a ∧ K.lookup a = none ∧ u = .frz { cls := .type "list", data := .seq vs.toArray } (.lst (ns.map V.int)) := by
  unfold startH at h
  split at h
  · rename_i c
    cases h
    exact ⟨c.1, Option.isNone_iff_eq_none.mp c.2, rfl⟩
  · cases h
theorem startH_only : Only (startH K a vs ns) := fun b => by
  cases q : startH K a vs ns b with
  | none => exact .inl rfl
  | some u => exact .inr ⟨_, _, by rw [(startH_at q).2.2]⟩
theorem startH_sq (X : K.In s1.heap) (ha : s1.heap.get? a = some { cls := .type "list", data := .seq vs.toArray }) (rv : Vals (ns.map V.int) vs) (hl : ns.length ≤ sizeLine) (hv : vs.length = ns.length) : SqL K (startH K a vs ns) a (ns.map V.int) := by
  cases hk : K.lookup a with
  | none => exact .inl (.inr ⟨_, by unfold startH; rw [if_pos ⟨rfl, by rw [hk]; rfl⟩]⟩)
  | some o =>
    have e := X a o hk
    rw [ha] at e
    cases e
    exact .inr ⟨_, vs.toArray, _, hk, rfl, rfl, rfl, by rw [List.size_toArray, hv]; exact hl, by simpa using rv⟩
theorem startH_ok (ha : s1.heap.get? a = some { cls := .type "list", data := .seq vs.toArray }) (rv : Vals (ns.map V.int) vs) (hl : ns.length ≤ sizeLine) : HOk P w (startH K a vs ns) s1.heap := fun b u h => by
  obtain ⟨rfl, _, rfl⟩ := startH_at h
  exact ⟨ha, by rw [List.length_map]; exact hl, vs, _, rv, ha⟩
/-- the law's def is called -/
theorem law_callG {mg mb : Str → Option Value} {k : Nat} {fa : Addr} {fd : FuncData} {x : Str} {sp : Sp} (X : K.In s1.heap) (hns : s1.heap.Ns mainGlobals mg) (hb : s1.heap.Ns builtinsNs mb) (hbb : ∀ y : Str, y ≠ "__name__" → mb y = bootBuiltins y) (nl : s1.heap.NoLimit) (hg : s1.gens = #[])
    (ha : s1.heap.get? a = some { cls := .type "list", data := .seq vs.toArray }) (hi : IntsAre vs ns) (hl : ns.length ≤ sizeLine) (hr : Room k callerA) (F : ∀ base : Heap, K.In base → base.Ns mainGlobals mg → FnG P w K mg base k fa fd [x] sp) (bd : ∀ (s : Shared) (u : Value), BindsTo s fd ⟨[u], []⟩ [(x, u)])
    (hsp : ∀ H : Hp, Only H → SqL K H a (ns.map V.int) → sp [.ref a] H (fun v _ => v = .bl true) fun _ _ _ => False) :
    codeAny (model P w) callerA (.call (.ref fa) ⟨[.ref a], []⟩) (fun z s' => z = .ok (.ret (.bool true)) ∧ OldK s1.heap s'.heap ∧ s'.os = s1.os ∧ AllBare s'.gens) s1 := by
  have rv := vals_ints hi
  have ok : HOk P w (startH K a vs ns) s1.heap := startH_ok ha rv hl
  have sq := startH_sq (ns := ns) X ha rv hl hi.length
  generalize hH : startH K a vs ns = H at ok sq
  have only : Only H := by rw [← hH]; exact startH_only
  have at_ : ∀ b u, H b = some u → b = a ∧ K.lookup a = none ∧ u = .frz { cls := .type "list", data := .seq vs.toArray } (.lst (ns.map V.int)) := fun b u h => startH_at (by rw [hH]; exact h)
  have vis : ∀ {b : Addr} {o : Obj}, s1.heap.get? b = some o → (b = a → False) → (hidT s1.heap H).get? b = some o := fun {b o} e n => hidT_get e (by
    cases q : H b with
    | none => rfl
    | some u => exact (n (at_ b u q).1).elim)
  have nsK : ∀ {b : Addr} {m : Str → Option Value}, s1.heap.Ns b m → (hidT s1.heap H).Ns b m := fun {b m} z => by
    obtain ⟨o, es, ep, e, d, r⟩ := z
    refine ⟨o, es, ep, vis e fun z => ?_, d, r⟩
    subst z
    rw [ha] at e
    cases e
    exact Data.noConfusion d
  have inK : K.In (hidT s1.heap H) := fun b o e => by
    cases q : H b with
    | none => exact hidT_get (X b o e) q
    | some u =>
      obtain ⟨rfl, n, _⟩ := at_ b u q
      rw [n] at e
      cases e
  have md : Mod K mg (hidT s1.heap H) := ⟨inK, nsK hns, ⟨mb, nsK hb, hbb⟩, let ⟨mc, q1, q2⟩ := nl; ⟨mc, nsK q1, q2⟩⟩
  have e0 : Env0 P w K mg (hidT s1.heap H) callerA [] s1 H := ⟨rfl, md, fun _ _ e => of_hidT e, Nat.le_of_eq (hidT_size _ _), trivial, fun b hb => (List.not_mem_nil hb).elim, ok, .of_eq hg⟩
  refine codeAny_mono ((F _ inK (nsK hns)).go callerA [] s1 H ⟨[.ref a], []⟩ [.ref a] [.ref a] _ _ rfl hr e0 (bd s1 (.ref a)) (.cons rfl .nil) (hsp H only sq)) fun z s' h => ?_
  cases z with
  | error e => exact h.elim
  | ok fl =>
    cases fl with
    | ret u =>
      obtain ⟨v, H', os, bare, un, ok', rz, q⟩ := h
      have q : v = .bl true := q
      subst q
      cases (show u = Value.bool true from rz)
      refine ⟨rfl, OldK.of_keep fun b o e => ?_, os, bare⟩
      cases q : H b with
      | none => exact un.keep b o e q (fun z => (List.not_mem_nil z).elim) (by simp)
      | some u =>
        obtain ⟨_, _, rfl⟩ := at_ b u q
        obtain ⟨e1, _⟩ := ok b _ q
        obtain ⟨e2, _⟩ := ok' b _ (un.frzs b _ _ q)
        rw [e] at e1
        cases e1
        exact e2
    | next => exact h.elim
    | brk => exact h.elim
    | cont => exact h.elim
theorem walk_G {l : PySem.W.OpenLaw} {n k : Nat} {q : Program} {loose : List Str} {XP : (Str → Option Value) → Heap → Prop} {YP : World → Heap → Prop} {d : DefRec} {x : Str} (hn : l.most = some n) (hn2 : n ≤ sizeLine) (hdf : d.params.defaults = []) (hr : Room k callerA)
    (F : ∀ (w : World) (mg : Str → Option Value) (fa : Addr) (h : Heap), YP w h → h.Ns mainGlobals mg → mg d.name = some (.ref fa) → ∃ (K : PySem.W.Frag) (fd : FuncData) (sp : Sp), K.In h ∧ (∀ (s : Shared) (u : Value), BindsTo s fd ⟨[u], []⟩ [(x, u)]) ∧
      (∀ (H : Hp) (a : Addr) (ns : List Int), ns.length ≤ n → Only H → SqL K H a (ns.map V.int) → sp [.ref a] H (fun v _ => v = .bl true) fun _ _ _ => False) ∧ ∀ base : Heap, K.In base → base.Ns mainGlobals mg → FnG l.prog w K mg base k fa fd [x] sp) :
    PySem.W.WalkO q loose XP YP l.row.toRowW d [] (fun f vs => PySem.call f vs) := by
  refine Att.attach_call hn hdf fun w s0 s1 mg mb fa o pm cd doc a vs ns G Y ho hd hcd hmg hobj hints hlen hg => ?_
  obtain ⟨K, fd, sp, X, bd, hsp, hF⟩ := F w mg fa _ Y G.T.g hmg
  exact law_callG X G.T.g G.T.b G.T.builtins G.T.nolimit hg hobj hints (Nat.le_trans hlen hn2) hr hF bd fun H hO hS => hsp H a ns hlen hO hS
end
end Dv

/-! Fa -/
/-! Fa: a def in a def, handed to another def and called there. -/
namespace Dv
open PySem PySem.Spec PyProof.Rows L2 Evl LamX NdefX
variable [Nm]

/-- what a nested def promises when its captured cells hold cvs, data cds -/
def spL (K : PySem.W.Frag) (ca : CA) (n : Nat) (sem : SemP) (cvs : List V) (cds : List D) : List (Option V) → Sp := fun ws vs H Q _ =>
  ∃ Hs ds rv, Bs Hs H ∧ RpAll K ca Hs vs ds ∧ ds.length = n ∧ RpAll K ca Hs cvs cds ∧ ws = cvs.map some ∧ sem (ds ++ cds) = some rv ∧ ∀ v Hs' H', Go Hs H Hs' H' → RvR K ca H Hs' H' v rv → Q v H'
theorem startF_eq {N : List Str} {vs cvs : List V} : startF N vs (cvs.map some) = L2.start N (vs ++ cvs) := by
  unfold startF L2.start
  rw [List.map_append, List.length_map, List.length_append, List.append_assoc]
  congr 3
  omega
section
variable {P : Program} {w : World} {K : PySem.W.Frag} {ca : CA} {mg : Str → Option Value} {base : Heap} {k : Nat} {f : Addr} {F : NF} {N ps fr : List Str} {g : SS} {cvs : List V} {cds : List D}
theorem nokL (S : NScope N ps fr F.scope) (hb : ∀ (doc pm ctv : Value) (us : List Value), us.length = ps.length → bindArgs (F.fd doc pm ctv) ⟨us, []⟩ = pure (ps.zip us)) (hl : ps.length + fr.length ≤ N.length)
    (hg : ∀ (A : Around) (out : List Env) (s : Shared) (H : Hp) (E : XK), Room k (A.deeper (envF F f s.heap.objs.size)) → PSs (ncx CX0 P w K mg base N F f A out s H E).nox F.body (RdS K ca g)) :
    NOk P w K mg base CX0 (k + 1) f F ps fr (spL K ca ps.length (runP N.length (ps.length + fr.length) g) cvs cds) := by
  refine nok_of (N := N) S hb (fun ws vs H Q E h => ?_) fun A out s H vs ws Q E hr hf hc' hw h => ⟨_, PSs.nox (hg A out s H E hr), ?_⟩
  · obtain ⟨Hs, ds, rv, _, r, e, _⟩ := h
    rw [r.len, e]
  · obtain ⟨Hs, ds, rv, x, r, hn, rc, rfl, e, n⟩ := h
    unfold runP at e
    split at e
    rotate_left
    · cases e
    rename_i hd
    have r2 := r.app rc
    rw [startF_eq]
    have S0 := SR.startP (N := N) x r2 (by rw [hd]; exact hl)
    rw [← hd] at e
    split at e
    · rename_i rv' ρ' hg'
      cases e
      exact RdS.intro S0 hg' fun v Hs' H' e1 R => by
        obtain ⟨σ, τ, S'⟩ := retS R
        exact n v Hs' H' S'.goOut (rvOut R)
    · rename_i ρ' hg'
      cases e
      exact RdS.intro S0 hg' fun σ' Hs' H' e1 S' => n .non Hs' H' S'.goOut .non
    · cases e
end
/-- f(..), f a name that holds the function at fa -/
def fCallV (i : Nat) (fa : Addr) (sem : SemP) (af : AF) : PF := fun ρ => match ρ[i]? with
  | some (some (.sh (.raw (.ref b)))) => if b = fa then fCall sem af ρ else none
  | _ => none
def semC (sem : SemP) (cds : List D) (n : Nat) : SemP := fun ds => if ds.length = n then sem (ds ++ cds) else none
/-- the facts that a called local function wants -/
structure LeadE (Y : Cx) (ca : CA) (k : Nat) (fa : Addr) (F : NF) (ps fr : List Str) (sem : SemP) (cvs : List V) (cds : List D) : Prop where
  ok : NOk Y.prog Y.w Y.K Y.mg Y.base CX0 k fa F ps fr (spL Y.K ca ps.length sem cvs cds)
  cells : CellsAt F.cl fr (cvs.map some) Y.s_0.heap Y.H_0
  nf : ∀ y c, F.cl.lookup y = some c → c ∉ Y.fs
  nx : ∀ y c, F.cl.lookup y = some c → c ∉ Y.ex
  pn : ∀ Hs, Nm.pn Hs → Hs fa = some (FnO fa F) ∧ RpAll Y.K ca Hs cvs cds
  cd : ∀ H, Tb H → H F.c = some (CodeO F.c F.qual)
section
variable {Y : Cx} {ca : CA} {k j i : Nat} {fa : Addr} {F : NF} {ps fr : List Str} {sem : SemP} {cvs : List V} {cds : List D} {x : Str} {e : Expr} {es : List Expr} {p pos : Pos} {af : AF}
theorem rd_fa {σ : L2.St} {F0 : Fx} {Hs H : Hp} {ρ : En} {τ : List (Addr × Ob)} {v : V} (S : SR Y.K ca F0 Hs H σ ρ τ) (h : ρ[i]? = some (some (.sh (.raw v)))) : σ[i]? = some (some v) := by
  obtain ⟨u, h1, h2⟩ := S.sl i _ h
  cases (show Rp Y.K ca Hs u (.raw v) from h2)
  exact h1
theorem e_lead (L : LeadE Y ca k fa F ps fr sem cvs cds) (hr : Room j Y.A) (hk : k ≤ j) (hN : Y.N[i]? = some x) (hv : Vis Y.env.scope x) (ha : PA Y (e :: es) (RdA Y.K ca af))
    (hd : (x == ("__debug__" : Str)) = false := by decide) (hcd : (x == ("__classdict__" : Str)) = false := by decide)
    (he : starEach (e :: es) Y.env = (false, eval e Y.env) :: starEach es Y.env := by rfl) (hpl : (backTo pos (starEach es Y.env)).any (·.1) = false := by rfl) :
    PE Y (.Call (.Name x p) (e :: es) [] pos) (RdP Y.K ca (fCallV i fa (semC sem cds ps.length) af)) := by
  refine ⟨fun pins s σ H Q I h => ?_⟩
  obtain ⟨F0, Hs, ρ, τ, d, S, eq, n⟩ := h
  unfold fCallV at eq
  split at eq
  rotate_left
  · cases eq
  rename_i b hb
  split at eq
  rotate_left
  · cases eq
  rename_i hba
  subst hba
  unfold fCall at eq
  split at eq
  rotate_left
  · cases eq
  rename_i ds hds
  split at eq
  rotate_left
  · cases eq
  rename_i rv hrv
  cases eq
  unfold semC at hrv
  split at hrv
  rotate_left
  · cases hrv
  rename_i hlen
  refine wpAny_Call_Name_kw (thn ((pe_var (pos := p) hN hv hd hcd).run pins s σ H (fun v H1 => v = .ref b ∧ H1 = H) I ⟨.ref b, rd_fa S hb, rfl, rfl⟩) fun u s1 ⟨v, H1, I1, r1, q1⟩ => ?_)
  obtain ⟨ev, eH⟩ := q1
  subst ev
  rw [eH] at I1
  obtain rfl : u = Value.ref b := r1
  have hf : H b = some (FnO b F) := S.ex _ _ (L.pn Hs S.pp).1
  have ht : RdA Y.K ca af σ H fun vs H1 => ∃ Hs1, Go Hs H Hs1 H1 ∧ RpAll Y.K ca Hs1 vs ds := ⟨F0, Hs, ρ, τ, ds, S, hds, fun vs Hs1 H1 t r => ⟨Hs1, t, r⟩⟩
  refine PySem.W.callWith_F (first := []) (fnAt_of I1 hf) (thn (ha.run pos pins s1 σ H _ I1 ht) fun us s2 ⟨vs, H2, I2, r, Hs2, t2, r2⟩ => ?_) he hpl
  have S2 := S.go t2
  have hf2 : H2 b = some (FnO b F) := S2.ex _ _ (L.pn Hs2 S2.pp).1
  refine ⟨fnAt_of I2 hf2, ?_⟩
  show wpAny _ _ (call (.ref b) us) _ _ _
  have C := L.cells.later L.nf L.nx I2
  refine wpAny_call (codeAny_mono (L.ok.run Y.A Y.stack s2 H2 us vs _ Q E0 (hr.mono hk) I2.env0 hf2 (L.cd H2 S2.tb) C r ⟨Hs2, ds, rv, S2.bs, r2, hlen, (L.pn Hs2 S2.pp).2, rfl, hrv, fun v Hs3 H3 t3 r3 => ?_⟩) fun r s' hq => ?_)
  · obtain ⟨Hs4, t4, r4⟩ := rv_share t3 r3
    exact n v Hs4 H3 (t2.trans t4) r4
  · cases r with
    | error e => exact (show False from hq).elim
    | ok fl =>
      cases fl with
      | ret u => exact I2.after hq
      | next => exact False.elim hq
      | brk => exact False.elim hq
      | cont => exact False.elim hq
end

/-! ### a def that is handed a local function -/
/-- the same tables and codes; more is known of what is shared -/
@[reducible] def Nm.ext (I : Nm) (q : Hp → Prop) (qm : ∀ {H H' : Hp}, Ex H H' → q H → q H') : Nm := ⟨I.T, I.cd, fun H => I.pn H ∧ q H, fun e h => ⟨I.pm e h.1, qm e h.2⟩⟩
@[reducible] def Nm.caps (I : Nm) (K : PySem.W.Frag) (ca : CA) (cvs : List V) (cds : List D) : Nm := I.ext (fun Hs => RpAll K ca Hs cvs cds) fun e h => h.mono e
omit [Nm] in
theorem bs_caps {I : Nm} {K : PySem.W.Frag} {ca : CA} {cvs : List V} {cds : List D} {Hs H : Hp} (b : @Bs I Hs H) (r : RpAll K ca Hs cvs cds) : @Bs (I.caps K ca cvs cds) Hs H :=
  @Bs.mk (I.caps K ca cvs cds) Hs H (@Bs.x I Hs H b) (@Bs.nt I Hs H b) (@Bs.tb I Hs H b) ⟨@Bs.pp I Hs H b, r⟩
omit [Nm] in
theorem go_caps {I : Nm} {q : Hp → Prop} {qm : ∀ {H H' : Hp}, Ex H H' → q H → q H'} {Hs H Hs' H' : Hp} (b : @Go (I.ext q qm) Hs H Hs' H') : @Go I Hs H Hs' H' :=
  @Go.mk I Hs H Hs' H' (@Go.e (I.ext q qm) _ _ _ _ b) (@Go.k (I.ext q qm) _ _ _ _ b) (@Go.x (I.ext q qm) _ _ _ _ b) (@Go.n (I.ext q qm) _ _ _ _ b) (@Go.th (I.ext q qm) _ _ _ _ b) (@Go.nt (I.ext q qm) _ _ _ _ b) (@Go.tb (I.ext q qm) _ _ _ _ b)
def shAll (ρ : En) : List Nat → Option (List D)
  | [] => some []
  | j :: js => (match ρ[j]? with
    | some (some (.sh d)) => (match shAll ρ js with
      | some ds => some (d :: ds)
      | none => none)
    | _ => none)
theorem shAll_ok {K : PySem.W.Frag} {ca : CA} {F : Fx} {Hs H : Hp} {σ : L2.St} {ρ : En} {τ : List (Addr × Ob)} (S : SR K ca F Hs H σ ρ τ) : ∀ {js : List Nat} {cds : List D}, shAll ρ js = some cds → ∃ cvs, js.map (slotAt σ) = cvs.map some ∧ RpAll K ca Hs cvs cds
  | [], cds, h => by cases h; exact ⟨[], rfl, .nil⟩
  | j :: js, cds, h => by
    unfold shAll at h
    split at h
    · rename_i d hd
      split at h
      · rename_i ds hds
        cases h
        obtain ⟨cvs, e1, r1⟩ := shAll_ok S hds
        obtain ⟨v, h1, h2⟩ := S.sl j _ hd
        exact ⟨v :: cvs, by rw [List.map_cons, List.map_cons, slotAt_of h1, e1], .cons h2 r1⟩
      · cases h
    · cases h
structure FnC (I : Nm) (P : Program) (w : World) (K : PySem.W.Frag) (ca : CA) (mg : Str → Option Value) (base : Heap) (k : Nat) (f : Addr) (fd : FuncData) (ps : List Str) (cl : List (Str × Addr)) (fr : List Str) (semOf : List D → SemP) : Prop where
  ln : ∀ cds ds rv, semOf cds ds = some rv → ds.length = ps.length
  go : ∀ (cvs : List V) (cds : List D) (A : Around) (out : List Env) (s : Shared) (H : Hp) (ar : Args) (us : List Value) (vs : List V) (Q : VK) (E : XK), A.guards = some [] → Room k A → Env0 P w K mg base A out s H →
    BindsTo s fd ar (ps.zip us) → Vals vs us → CellsAt cl fr (cvs.map some) s.heap H → (∀ y c, cl.lookup y = some c → c ∉ frs out) → @spP (I.caps K ca cvs cds) K ca (semOf cds) vs H Q E → codeAny (model P w) A (.call (.ref f) ar) (CR CX0 out P w H s Q E) s
section
variable {P : Program} {w : World} {K : PySem.W.Frag} {ca : CA} {mg : Str → Option Value} {base : Heap} {k : Nat} {f : Addr} {x qual : Str} {params : Arguments} {body : List Stmt} {scope : Scope} {dvs : List V} {kws : List (Str × V)} {fd : FuncData} {N ps : List Str} {cl : List (Str × Addr)} {fr : List Str} {gOf : List V → List D → SS} {semOf : List D → SemP}
theorem gPC (I : Nm) (F : FunD K x qual params body scope dvs kws f fd) (sc : FnScope N ps scope) (hl : ps.length ≤ N.length) (hsem : ∀ cvs cds ds rv, semOf cds ds = some rv → runP N.length ps.length (gOf cvs cds) ds = some rv)
    (hg : ∀ (cvs : List V) (cds : List D) (cdv : Value) (A : Around) (out : List Env) (s : Shared) (H : Hp) (E : XK), CellsAt cl fr (cvs.map some) s.heap H → (∀ y c, cl.lookup y = some c → c ∉ frs out) → A.guards = some [] → Room k (A.deeper (envOfC qual scope s.heap.objs.size f cdv)) →
      PSs (cxOf CX0 P w K mg base N qual scope f cdv A out s H E).nox body (@RdS (I.caps K ca cvs cds) K ca (gOf cvs cds))) : FnC I P w K ca mg base (k + 1) f fd ps cl fr semOf := by
  have ln : ∀ cds ds rv, semOf cds ds = some rv → ds.length = ps.length := fun cds ds rv h => by
    have e := hsem [] cds ds rv h
    unfold runP at e
    split at e
    · rename_i q; exact q
    · cases e
  obtain ⟨oc, od, dV, kV, doc, pm, an, cdv, ct, osl, rfl, look, code, _, _⟩ := F.ex
  refine ⟨ln, fun cvs cds A out s H ar us vs Q E gd room e0 bd rel hC hnf hsp => ?_⟩
  letI : Nm := I.caps K ca cvs cds
  obtain ⟨Hs, ds, rv, x, r, e, n⟩ := hsp
  have hd := ln _ _ _ e
  have e := hsem cvs cds ds rv e
  unfold runP at e
  rw [if_pos hd] at e
  have kin : K.In s.heap := e0.mod.kin.keeps fun b o z => (e0.bs b o z).1
  have lim : s.heap.NoLimit := e0.mod.nolimit.keeps fun b o z => (e0.bs b o z).1
  have hlv : vs.length = ps.length := by rw [r.len, hd]
  have kinds : ∀ z ∈ ps.zip us, scope.names.lookup z.1 = some .local ∨ (scope.names.lookup z.1 = some .cell ∧ ((cellsFrom (s.heap.objs.size + 1) scope.names []).lookup z.1).isSome = true) := by
    rintro ⟨n, u⟩ hz
    rcases sc.par n (List.of_mem_zip hz).1 with q | q
    · exact Or.inl q
    · exact Or.inr ⟨q, PySem.W.cellsFrom_some _ _ _ (Or.inl q)⟩
  refine codeAny_call_function room.depth (kin _ _ look) rfl sc.co sc.gen rfl (PySem.W.codeRec_of kin code) (bd _ _ _ _ ?_)
  refine wpAny_newFunctionEnv_cells sc.kind kinds fun env he s1 y => ?_
  subst he
  refine ⟨lim.keeps y.toInCall.keep, codeAny_func ?_⟩
  have ht := hg cvs cds cdv A out s H E hC hnf gd (room.deeper _)
  have I0 : Inv (cxOf CX0 P w K mg base N qual scope f cdv A out s H E) [] (L2.start N vs) H s1 := inv_start sc room.hd e0 hlv rel y
  have S0 := SR.startP (N := N) x r (by rw [hd]; exact hl)
  have hq : RdS K ca (gOf cvs cds) { nx := fun _ H' => Q .non H', rt := Q } (L2.start N vs) H := by
    rw [← hd] at e
    split at e
    · rename_i rv' ρ' hg'
      cases e
      exact RdS.intro S0 hg' fun v Hs' H' e1 R => by
        obtain ⟨σ, τ, S'⟩ := retS R
        exact n v Hs' H' S'.goOut (rvOut R)
    · rename_i ρ' hg'
      cases e
      exact RdS.intro S0 hg' fun σ' Hs' H' e1 S' => n .non Hs' H' S'.goOut .non
    · cases e
  refine wpAny_mono (ht.nox.run [] s1 (L2.start N vs) H _ I0 hq) (fun fl s' hs => ?_) fun _ _ z => z
  cases fl with
  | ret u =>
    obtain ⟨v, σ', H', J, rv, q⟩ := hs
    exact ⟨v, H', J.os, J.bare, J.base, J.hok, rv, q⟩
  | next =>
    obtain ⟨σ', H', J, q⟩ := hs
    exact ⟨V.non, H', J.os, J.bare, J.base, J.hok, rfl, q⟩
  | brk =>
    obtain ⟨_, _, _, q⟩ := hs
    cases q
  | cont =>
    obtain ⟨_, _, _, q⟩ := hs
    cases q
end
/-- g(.., f, ..): js tells where the captured names stand -/
def fCallC (js : List Nat) (semOf : List D → SemP) (af : AF) : PF := fun ρ => match shAll ρ js with
  | some cds => fCall (semOf cds) af ρ
  | none => none
section
variable {X : Cx} {ca : CA} {k : Nat} {x : Str} {f : Addr} {fd : FuncData} {ps : List Str} {cl : List (Str × Addr)} {fr : List Str} {js : List Nat} {semOf : List D → SemP} {p pos : Pos} {e : Expr} {es : List Expr} {af : AF} {dvs : List V} {ds0 : List Value}
theorem e_callC {I : Nm} (F : FnC I X.prog X.w X.K ca X.mg X.base k f fd ps cl fr semOf) (gd : X.A.guards = some []) (hr : Room k X.A) (hg : Gl X x) (hm : X.mg x = some (.ref f)) (hk : PySem.W.keepIn X.K (.ref f) = true) (hb : Binds X.K fd ps ds0) (hdv : Vals dvs ds0) {dds : List D} (hdd : ∀ H, RpAll X.K ca H dvs dds)
    (hfn : ∀ y c, X.env.cells.lookup y = some c → X.fn y = true) (cp : X.Ok → Caps X cl fr js) (ha : PA X (e :: es) (@RdA I X.K ca af))
    (hdb : (x == ("__debug__" : Str)) = false := by decide) (he : starEach (e :: es) X.env = (false, eval e X.env) :: starEach es X.env := by rfl) (hpl : (backTo pos (starEach es X.env)).any (·.1) = false := by rfl) :
    PE X (.Call (.Name x p) (e :: es) [] pos) (@RdP I X.K ca (fCallC js (fun cds ds => semOf cds (ds ++ dds)) af)) := by
  letI := I
  refine ⟨fun pins s σ H Q J h => ?_⟩
  obtain ⟨F0, Hs, ρ, τ, d, S, eq, n⟩ := h
  unfold fCallC at eq
  split at eq
  rotate_left
  · cases eq
  rename_i cds hcds
  unfold fCall at eq
  split at eq
  rotate_left
  · cases eq
  rename_i ds hds
  split at eq
  rotate_left
  · cases eq
  rename_i rv hrv
  cases eq
  have ht : RdA X.K ca af σ H fun vs H1 => ∃ Hs1, Go Hs H Hs1 H1 ∧ RpAll X.K ca Hs1 vs ds := ⟨F0, Hs, ρ, τ, ds, S, hds, fun vs Hs1 H1 t r => ⟨Hs1, t, r⟩⟩
  refine wpAny_Call_Name_kw (ld_glob J hg hm (PySem.W.callWith_K (h₀ := X.base) J.ok.mod.kin hk (thn (ha.run pos pins s σ H _ J ht) fun us s1 ⟨vs, H1, I1, r, Hs1, t1, r1⟩ => ⟨I1.kIn, ?_⟩) he hpl) hdb)
  have S1 := S.go t1
  obtain ⟨cvs, ec, rc⟩ := shAll_ok S1 hcds
  have C : CellsAt cl fr (cvs.map some) s1.heap H1 := by rw [← ec]; exact cells_of I1 (cp I1.ok)
  have nf : ∀ y c, cl.lookup y = some c → c ∉ frs X.stack := fun y c hy hc => by
    have hy' := (cp I1.ok).sub y c hy
    rcases List.mem_cons.mp (I1.stkSub c hc) with z | z
    · exact I1.cne y c hy' z
    · obtain ⟨_, o, ho, _⟩ := I1.ok.funs.mem z
      exact absurd (Nat.lt_of_lt_of_le (Heap.lt_size ho) (I1.ok.cab y c (hfn y c hy') hy')) (Nat.lt_irrefl _)
  have r2 : Vals (vs ++ dvs) (us ++ ds0) := r.append hdv
  have rd := r1.app (hdd Hs1)
  have hl : (us ++ ds0).length = ps.length := by rw [← r2.length, rd.len]; exact F.ln _ _ _ hrv
  refine wpAny_call (codeAny_mono (F.go cvs cds X.A X.stack s1 H1 _ _ _ Q E0 gd hr I1.env0 (hb s1 us I1.kIn hl) r2 C nf ⟨Hs1, ds ++ dds, rv, bs_caps S1.bs rc, rd, hrv, fun v Hs3 H3 t3 r3 => ?_⟩) fun z s' hq => ?_)
  · obtain ⟨Hs4, t4, r4⟩ := rv_share (go_caps t3) r3
    exact n v Hs4 H3 (t1.trans t4) r4
  · cases z with
    | error _ => exact hq.elim
    | ok fl =>
      cases fl with
      | ret u => exact I1.after hq
      | next => exact False.elim hq
      | brk => exact False.elim hq
      | cont => exact False.elim hq
end
end Dv

/-! Fb -/
/-! Fb: setdefault on dicts whose keys are truths, or tuples; numbers by first appearance. -/
namespace Dv
open PySem PySem.Spec PyProof.Rows L2 Evl LamX
variable [Nm]

/-- a dict whose keys are carried by value (truths too) -/
def DLf (P : Program) (w : World) (a : Addr) (kvs : List (Leaf × V)) : HO := .ext fun h => kvs.length ≤ sizeLine ∧ (a == sysModules) = false ∧ ∃ vs, KV kvs vs ∧ h.DictOf (leafKind P w) a vs
/-- what a kind of dict does -/
structure Sdk (X : Cx) (κ : Type) [DecidableEq κ] (ob : Addr → List (κ × V) → HO) (ky : Hp → V → κ → Prop) : Prop where
  nt : ∀ a kvs, NT (ob a kvs)
  new : ∀ (h : Heap) (H : Hp), sysModules < h.objs.size → ObjOk X.prog X.w H (h.push { cls := .type "dict", data := .dict #[] }) h.objs.size (ob h.objs.size [])
  ty : ∀ {pins : List (Addr × Obj)} {σ : L2.St} {H : Hp} {s : Shared} {a : Addr} {kvs : List (κ × V)}, Inv X pins σ H s → H a = some (ob a kvs) → s.TypeIs (.ref a) "dict" ∧ ∀ b, Value.ref a = .ref b → ∃ ob, s.heap.get? b = some ob ∧ ob.dict = none
  setd : ∀ {pins : List (Addr × Obj)} {σ : L2.St} {H : Hp} {s : Shared} {a : Addr} {kvs : List (κ × V)} {k : κ} {y d : V} {u r : Value} {Q : Value → Shared → Prop} {E : Value → Shared → Prop}, X.A.units + 1 < cLine → Inv X pins σ H s → H a = some (ob a kvs) → ky H y k → L2.RelV y u → L2.RelV d r → kvs.length < sizeLine →
    (∀ v, valV kvs k = some v → ∀ (w' : Value) (s' : Shared), Inv X pins σ H s' → L2.RelV v w' → Q w' s') →
    (valV kvs k = none → ∀ (w' : Value) (s' : Shared), Inv X pins σ (upd H a (ob a (putK kvs k d))) s' → L2.RelV d w' → Q w' s') → wpAny (model X.prog X.w) X.A (call (.builtin "dict.setdefault") [.ref a, u, r]) Q E s
  len : CallR X (.builtin "len") (fun xs H Q => ∃ (p : Addr) (kvs : List (κ × V)), xs = [.ref p] ∧ H p = some (ob p kvs) ∧ Q (.int ((kvs.length : Nat) : Int)) H)
def kyT : Hp → V → List Key → Prop := fun H y k => ∃ b, y = .ref b ∧ H b = some (.tup (k.map kV))
def kyB : Hp → V → Leaf → Prop := fun _ y k => ∃ b : Bool, y = .bl b ∧ k = .num (if b then 1 else 0)
theorem sdkT {X : Cx} : Sdk X (List Key) (fun _ kvs => .dT kvs) kyT where
  nt := fun _ _ _ z => nomatch z
  new := fun h H hb => dt_empty h hb
  ty := fun I e => ⟨(isD_at I (.inr ⟨_, .inl e⟩)).1, (isD_at I (.inr ⟨_, .inl e⟩)).2.1⟩
  setd := fun {pins σ H s a kvs k y d u r Q E} hu I e hk ry rd hl h1 h2 => by
    obtain ⟨b, rfl, hb⟩ := hk
    obtain rfl : u = Value.ref b := ry
    obtain ⟨z, hd, xs, rel, dd⟩ := dt_of I.hok e
    have hz : xs.length ≤ sizeLine := by rw [← Paired.length rel]; exact z
    refine call_setdefault_heap (hsz := hz) (tupleKind_room_in1 hu) (key_of I.hok hb) hd dd (fun p hp => ?_) fun hn h' dd' hs => ?_
    · have q := rel.val k
      rw [hp] at q
      cases q0 : valV kvs k with
      | none => rw [q0] at q; exact (show False from q).elim
      | some v0 => rw [q0] at q; exact h1 v0 q0 _ _ (I.tok _) q
    · have q := rel.val k
      rw [hn] at q
      cases q0 : valV kvs k with
      | some v0 => rw [q0] at q; exact (show False from q).elim
      | none =>
        have hl2 : (putK kvs k d).length ≤ sizeLine := by have := length_putK kvs k d; omega
        obtain ⟨q, es, ep, hq, h3, h4, h5, _, h6⟩ := dd'
        refine h2 q0 _ _ (d_write I (by rw [e]; exact True.intro) hs ⟨q, hq⟩ ⟨hl2, hd, _, (rel.put k hb rd).keeps fun c ys ec => ?_, q, es, ep, hq, h3, h4, h5, h6⟩) rd
        rw [upd_ne (ne_of ec e (fun z => nomatch z))]
        exact ec
  len := call_len_dT
theorem lf_at {X : Cx} {pins : List (Addr × Obj)} {σ : L2.St} {H : Hp} {s : Shared} {a : Addr} {kvs : List (Leaf × V)} (I : Inv X pins σ H s) (e : H a = some (DLf X.prog X.w a kvs)) : kvs.length ≤ sizeLine ∧ (a == sysModules) = false ∧ ∃ vs, KV kvs vs ∧ s.heap.DictOf (leafKind X.prog X.w) a vs := (I.hok a _ e).1
theorem lf_new {P : Program} {w : World} {H : Hp} {h : Heap} {a : Addr} {kvs : List (Leaf × V)} {vs : List (Leaf × Value)} (z : kvs.length ≤ sizeLine) (hd : (a == sysModules) = false) (rel : KV kvs vs) (dd : h.DictOf (leafKind P w) a vs) : ObjOk P w H h a (DLf P w a kvs) := by
  have ⟨o, es, ep, ho, _⟩ := dd
  exact ⟨⟨z, hd, vs, rel, dd⟩, ⟨o, ho⟩, fun h1 h2 ⟨z, hd, vs, rel, ⟨o, es, ep, ho, r⟩⟩ k => ⟨z, hd, vs, rel, ⟨o, es, ep, k o ho, r⟩⟩⟩
theorem sdkB {X : Cx} : Sdk X Leaf (fun a kvs => DLf X.prog X.w a kvs) kyB where
  nt := fun _ _ _ z => by unfold DLf at z; cases z
  new := fun h H hb => lf_new (Nat.zero_le _) (beq_eq_false_iff_ne.mpr (Ne.symm (Nat.ne_of_lt hb))) .nil (Heap.DictOf.new h)
  ty := fun {pins σ H s a kvs} I e => by
    obtain ⟨_, hd, vs, _, dd⟩ := lf_at I e
    refine ⟨dd.typeIs, fun b q => ?_⟩
    cases q
    obtain ⟨ob, _, _, h1, h2, _⟩ := dd
    exact ⟨ob, h1, h2.2.1⟩
  setd := fun {pins σ H s a kvs k y d u r Q E} hu I e hk ry rd hl h1 h2 => by
    obtain ⟨b, rfl, rfl⟩ := hk
    obtain rfl : u = Value.bool b := ry
    obtain ⟨z, hd, vs, rel, dd⟩ := lf_at I e
    have hz : vs.length ≤ sizeLine := by rw [← rel.length]; exact z
    have hk : (leafKind X.prog X.w).is (.num (if b then 1 else 0)) (.bool b) = true := by cases b <;> rfl
    refine call_meetsIn PySem.F.slot_dict_setdefault dd.typeIs PySem.F.entry_dict_setdefault (PySem.F.args_dict_setdefault_3 _ _ _) (kt_meets_setdefault (leafKind X.prog X.w) a hk hd r) ⟨vs, dd, hz, fun v hv => ?_, fun hn h' dd' hs => ?_⟩
    · have q := rel.val (.num (if b then 1 else 0))
      rw [hv] at q
      cases q0 : valV kvs (.num (if b then 1 else 0)) with
      | none => rw [q0] at q; exact (show False from q).elim
      | some v0 => rw [q0] at q; exact h1 v0 q0 _ _ (I.tok _) q
    · have q := rel.val (.num (if b then 1 else 0))
      rw [hn] at q
      cases q0 : valV kvs (.num (if b then 1 else 0)) with
      | some v0 => rw [q0] at q; exact (show False from q).elim
      | none =>
        have hl2 : (putK kvs (.num (if b then 1 else 0)) d).length ≤ sizeLine := by have := length_putK kvs (.num (if b then 1 else 0)) d; omega
        have he : ∃ q, h'.get? a = some q := let ⟨q, _, _, hq, _⟩ := dd'; ⟨q, hq⟩
        exact h2 q0 _ _ (d_write (t' := s.toks + 1) I (by rw [e]; exact True.intro) hs he (lf_new hl2 hd (rel.put _ rd) dd')) rd
  len := by
    intro pins s σ H xs us Q I r h
    obtain ⟨p, kvs, rfl, hp, q⟩ := h
    obtain ⟨u, rfl, rx⟩ := vals1 r
    obtain rfl : u = .ref p := rx
    obtain ⟨z, hd, vs, rel, dd⟩ := lf_at I hp
    have hl : kvs.length = vs.length := rel.length
    refine call_len_dict hd dd (by rw [← hl]; rw [sizeLine_eq] at z; omega) ?_
    rw [← hl]
    exact ⟨.int ((kvs.length : Nat) : Int), H, I.tok _, ⟨_, rfl⟩, q⟩
end Dv

/-! Fc -/
/-! Fc: [d.setdefault(x, len(d)) for x in xs]. -/
namespace Dv
open PySem PySem.Spec PyProof.Rows L2 Evl LamX
variable [Nm]

/-! ### the mathematics -/
section
variable {κ : Type} [DecidableEq κ]
def numGo : List κ → List κ → List Nat
  | _, [] => []
  | seen, x :: xs => if x ∈ seen then seen.idxOf x :: numGo seen xs else seen.length :: numGo (seen ++ [x]) xs
def tabFrom : Nat → List κ → List (κ × V)
  | _, [] => []
  | n, k :: ks => (k, .int (n : Int)) :: tabFrom (n + 1) ks
abbrev tabOf (ks : List κ) : List (κ × V) := tabFrom 0 ks
theorem tab_len : ∀ (n : Nat) (ks : List κ), (tabFrom n ks).length = ks.length
  | _, [] => rfl
  | n, k :: ks => by unfold tabFrom; rw [List.length_cons, List.length_cons, tab_len (n + 1) ks]
theorem tab_val_none (k : κ) : ∀ (n : Nat) (ks : List κ), k ∉ ks → valV (tabFrom n ks) k = none
  | _, [], _ => rfl
  | n, y :: ks, h => by
    rw [List.mem_cons, not_or] at h
    unfold tabFrom
    rw [valV_neg (fun e => h.1 e.symm)]
    exact tab_val_none k (n + 1) ks h.2
theorem tab_val (k : κ) : ∀ (n : Nat) (ks : List κ), k ∈ ks → valV (tabFrom n ks) k = some (.int ((n + ks.idxOf k : Nat) : Int))
  | n, y :: ks, h => by
    unfold tabFrom
    by_cases e : y = k
    · rw [valV_pos e]
      subst e
      simp
    · rw [valV_neg e]
      have h2 : k ∈ ks := by
        rcases List.mem_cons.mp h with z | z
        · exact absurd z.symm e
        · exact z
      rw [tab_val k (n + 1) ks h2, List.idxOf_cons]
      have : (y == k) = false := by simpa using e
      rw [this]
      simp
      omega
theorem tab_snoc (k : κ) : ∀ (n : Nat) (ks : List κ), tabFrom n ks ++ [(k, V.int ((n + ks.length : Nat) : Int))] = tabFrom n (ks ++ [k])
  | n, [] => by simp [tabFrom]
  | n, y :: ks => by
    have := tab_snoc k (n + 1) ks
    rw [List.cons_append]
    unfold tabFrom
    rw [List.cons_append, ← this, List.length_cons]
    have e : n + (ks.length + 1) = n + 1 + ks.length := by omega
    rw [e]
theorem tab_put (k : κ) (ks : List κ) (h : k ∉ ks) : putK (tabOf ks) k (.int ((ks.length : Nat) : Int)) = tabOf (ks ++ [k]) := by
  unfold putK
  rw [valV_any, tab_val_none k 0 ks h]
  rw [if_neg (by simp)]
  have := tab_snoc k 0 ks
  rw [Nat.zero_add] at this
  exact this
theorem numGo_len : ∀ (seen xs : List κ), (numGo seen xs).length = xs.length
  | _, [] => rfl
  | seen, x :: xs => by
    unfold numGo
    split
    · rw [List.length_cons, List.length_cons, numGo_len seen xs]
    · rw [List.length_cons, List.length_cons, numGo_len _ xs]
end
/-! ### the rule -/
section
variable {κ : Type} [DecidableEq κ]
def tDNewG (ob : Addr → List (κ × V) → HO) : TE := fun _ H Q => ∀ p, H p = none → Q (.ref p) (upd H p (ob p []))
def tSetdG (ob : Addr → List (κ × V) → HO) (ky : Hp → V → κ → Prop) (td ty tx : TE) : TE := fun σ H Q => td σ H fun x H1 => ∃ a, x = .ref a ∧ (∃ kvs, H1 a = some (ob a kvs)) ∧ ty σ H1 fun y H2 => tx σ H2 fun z H3 =>
  ∃ (kvs : List (κ × V)) (k : κ), H3 a = some (ob a kvs) ∧ ky H3 y k ∧ kvs.length < sizeLine ∧ (∀ v, valV kvs k = some v → Q v H3) ∧ (valV kvs k = none → Q z (upd H3 a (ob a (putK kvs k z))))
variable {X : Cx} {ob : Addr → List (κ × V) → HO} {ky : Hp → V → κ → Prop} {o e f : Expr} {td ty tx : TE} {apos cpos pos : Pos}
theorem pe_dnewG (D : Sdk X κ ob ky) : PE X (.Dict [] [] pos) (tDNewG ob) := ⟨fun pins s σ H Q I h =>
  wpAny_Dict_empty ⟨.ref s.heap.objs.size, _, I.laid (a := s.heap.objs.size) (o := ob s.heap.objs.size []) (t' := s.toks) (fun _ _ q => Heap.get?_push_of_some _ q) (Nat.le_refl _) (D.new s.heap _ I.big), rfl, h _ (I.hok.fresh (Nat.le_refl _))⟩⟩
theorem pe_setdG (D : Sdk X κ ob ky) (hu : X.A.units + 1 < cLine) (ho : PE X o td) (he : PE X e ty) (hf : PE X f tx) (m : M2 X o "setdefault" apos e f cpos) : PE X (.Call (.Attribute o "setdefault" apos) [e, f] [] cpos) (tSetdG ob ky td ty tx) := by
  refine ⟨fun pins s σ H Q I h => ?_⟩
  refine wpAny_Call_method m.base m.few m.line PySem.F.plainAttrs_dict PySem.F.slot_dict_setdefault PySem.F.type_dict_setdefault (thn (ho.run pins s σ H _ I h) fun u s1 ⟨x, H1, I1, rx, a, ex, ⟨kvs0, d⟩, q1⟩ => ?_)
  subst ex
  obtain rfl : u = Value.ref a := rx
  obtain ⟨t1, t2⟩ := D.ty I1 d
  refine ⟨t1, t2, ?_⟩
  rw [m.trees]
  refine Calls.callWith_builtin rfl (Calls.evalArgs_plain (Calls.spliced_cons (thn (he.run pins s1 σ H1 _ I1 q1) fun iv s2 ⟨y, H2, I2, ry, q2⟩ =>
    Calls.spliced_cons (thn (hf.run pins s2 σ H2 _ I2 q2) fun fv s3 ⟨z, H3, I3, rz, kvs, k, ea, ey, hl, q3, q4⟩ => Calls.spliced_nil ?_))))
  exact D.setd hu I3 ea ey ry rz hl (fun v hv w' s4 I4 rw' => ⟨v, _, I4, rw', q3 v hv⟩) fun hn w' s4 I4 rw' => ⟨z, _, I4, rw', q4 hn⟩
end
/-! ### the body of such a def: slot 0 the list, 1 the dict, 2 the item -/
section
variable {κ : Type} [DecidableEq κ]
abbrev rLenG (ob : Addr → List (κ × V) → HO) : List V → Hp → VK → Prop := fun xs H Q => ∃ (p : Addr) (kvs : List (κ × V)), xs = [.ref p] ∧ H p = some (ob p kvs) ∧ Q (.int ((kvs.length : Nat) : Int)) H
def tNumd (K : PySem.W.Frag) (ca : CA) (ob : Addr → List (κ × V) → HO) (ky : Hp → V → κ → Prop) : TS :=
  tSeq (tAsg (tDNewG ob) (gName 1)) (tRet (tLc (iList K (tVar 0)) (gName 2) tYes (tSetdG ob ky (tVar 1) (tVar 2) (tCB (rLenG ob) (tCons (tVar 1) tNil))) [2]))
theorem rp_nats {K : PySem.W.Frag} {ca : CA} {H : Hp} : ∀ l : List Nat, RpAll K ca H (l.map fun (j : Nat) => V.int (j : Int)) (l.map fun (i : Nat) => D.int (i : Int))
  | [] => .nil
  | i :: l => .cons (.int _) (rp_nats l)
theorem numd_ok {K : PySem.W.Frag} {ca : CA} {ob : Addr → List (κ × V) → HO} {ky : Hp → V → κ → Prop} {Hs H : Hp} {p : Addr} {xs : List V} {ks : List κ} {Q : VK} {nx bk ct : L2.St → Hp → Prop} (hnt : ∀ a kvs, NT (ob a kvs)) (x : Bs Hs H) (hp : Hs p = some (.lst xs)) (hl : xs.length ≤ 100000)
    (hk : xs.length = ks.length ∧ ∀ (i : Nat) (v : V), xs[i]? = some v → ∃ k : κ, ks[i]? = some k ∧ ∀ H', Ex Hs H' → ky H' v k)
    (n : ∀ v Hs' H', Go Hs H Hs' H' → Rp K ca Hs' v (.lst ((numGo [] ks).map fun (i : Nat) => D.int (i : Int))) → Q v H') :
    tNumd K ca ob ky { nx := nx, bk := bk, ct := ct, rt := Q } [some (.ref p), none, none] H := by
  intro a ha
  have sa : Hs a = none := fresh_back x.x ha
  have ne : p ≠ a := fun z => by rw [z, sa] at hp; cases hp
  have hpH : H p = some (.lst xs) := x.x _ _ hp
  refine ⟨V.ref p, rfl, p, rfl, ⟨xs, sq_of (by rw [upd_ne ne]; exact hpH)⟩, fun D hD => ?_⟩
  have neD : D ≠ a := fun z => by rw [z, upd_same] at hD; cases hD
  have hD' : H D = none := by rw [upd_ne neD] at hD; exact hD
  have sD : Hs D = none := fresh_back x.x hD'
  have nep : p ≠ D := fun z => by rw [z, sD] at hp; cases hp
  refine lc_it (walk_list (a := p) (xs := xs)) (fun i H' => ∃ seen : List κ, ∃ done : List Nat, H' = upd (upd H a (ob a (tabOf seen))) D (.lst (done.map fun (j : Nat) => V.int (j : Int))) ∧ done.length = i ∧ seen.length ≤ i ∧ numGo [] ks = done ++ numGo seen (ks.drop i))
    ⟨[], [], rfl, rfl, Nat.le_refl _, rfl⟩ (fun i H' _ ⟨seen, done, e, _⟩ => sq_of (by rw [e, upd_ne nep, upd_ne ne]; exact hpH)) (fun i v H' H2 hi ⟨seen, done, e, hd, hs, hn⟩ hy => ?_) fun H' ⟨seen, done, e, hd, hs, hn⟩ => ?_
  · obtain ⟨rfl, hv⟩ := hy
    obtain ⟨k, hki, hky⟩ := hk.2 i v hv
    subst e
    have exs : Ex Hs (upd (upd H a (ob a (tabOf seen))) D (.lst (done.map fun (j : Nat) => V.int (j : Int)))) := fun b u q => by
      rw [upd_ne (fun z => by rw [z, sD] at q; cases q), upd_ne (fun z => by rw [z, sa] at q; cases q)]
      exact x.x b u q
    have ea : (upd (upd H a (ob a (tabOf seen))) D (.lst (done.map fun (j : Nat) => V.int (j : Int)))) a = some (ob a (tabOf seen)) := by rw [upd_ne (Ne.symm neD), upd_same]
    have hdrop : ks.drop i = k :: ks.drop (i + 1) := drop_at (by rw [← hk.1]; exact hi) hki
    rw [hdrop] at hn
    have hlen : (tabOf seen).length < sizeLine := by rw [tab_len]; exact sz_lt (by omega)
    refine ⟨rfl, ?_⟩
    change tSetdG ob ky (tVar 1) (tVar 2) (tCB (rLenG ob) (tCons (tVar 1) tNil)) _ _ _
    refine ⟨V.ref a, rfl, a, rfl, ⟨_, ea⟩, v, rfl, V.ref a, rfl, a, tabOf seen, rfl, ea, tabOf seen, k, ea, hky _ exs, hlen, fun v' hv' => ?_, fun hv' => ?_⟩
    · have hm : k ∈ seen := Classical.byContradiction fun z => by rw [tab_val_none k 0 seen z] at hv'; cases hv'
      rw [tab_val k 0 seen hm] at hv'
      cases hv'
      refine ⟨_, upd_same, ?_, seen, done ++ [seen.idxOf k], ?_, ?_, ?_, ?_⟩
      · rw [List.length_map]; exact sz_lt (by omega)
      · rw [upd_upd, List.map_append]; simp
      · rw [List.length_append, hd]; rfl
      · omega
      · rw [hn, numGo.eq_2, if_pos hm]; simp
    · have hm : k ∉ seen := fun z => by rw [tab_val k 0 seen z] at hv'; cases hv'
      rw [tab_len, tab_put k seen hm]
      refine ⟨done.map fun (j : Nat) => V.int (j : Int), ?_, ?_, seen ++ [k], done ++ [seen.length], ?_, ?_, ?_, ?_⟩
      · rw [upd_ne neD, upd_same]
      · rw [List.length_map]; exact sz_lt (by omega)
      · rw [List.map_append]
        funext b
        by_cases z : b = D
        · subst z; rw [upd_same, upd_same]; rfl
        · rw [upd_ne z, upd_ne z]
          by_cases z2 : b = a
          · subst z2; rw [upd_same, upd_same]
          · rw [upd_ne z2, upd_ne z, upd_ne z2, upd_ne z2]
      · rw [List.length_append, hd]; rfl
      · rw [List.length_append, List.length_singleton]; omega
      · rw [hn, numGo.eq_2, if_neg hm]; simp
  · subst e
    have hdone : done = numGo [] ks := by
      rw [hk.1, List.drop_length] at hn
      rw [hn]; simp [numGo]
    subst hdone
    refine n _ (upd Hs D (.lst ((numGo [] ks).map fun (j : Nat) => V.int (j : Int)))) _ ?_ (.lst upd_same ?_)
    · have tr : Go Hs H Hs (upd H a (ob a (tabOf seen))) := ⟨Ex.refl _, ExtN.of (Ex.new ha), x.x.trans (Ex.new ha), fun b h1 _ => h1, th_new, id, fun q => tb_new q ha⟩
      refine tr.trans (Go.alloc tr.x nt_lst ?_)
      rw [upd_ne neD]; exact hD'
    · exact rp_nats _

end
/-! ### as a def's promise -/
def blsD : List D → Option (List Bool)
  | [] => some []
  | .bl b :: ds => (match blsD ds with
    | some bs => some (b :: bs)
    | none => none)
  | _ => none
def tupsD : List D → Option (List (List Int))
  | [] => some []
  | .tup xs :: ds => (match intsD xs, tupsD ds with
    | some b, some bs => some (b :: bs)
    | _, _ => none)
  | _ => none
def natsD (l : List Nat) : D := .lst (l.map fun (i : Nat) => .int (i : Int))
/-- numbers by first appearance: of truths, or of tuples of numbers -/
def semNumd : SemP := fun ds => match ds with
  | [.lst ms] => if ms.length ≤ 100000 then (match blsD ms with
    | some bs => some (.sh (natsD (numGo [] bs)))
    | none => (match tupsD ms with
      | some ts => some (.sh (natsD (numGo [] ts)))
      | none => none)) else none
  | _ => none
theorem bls_rp {K : PySem.W.Frag} {ca : CA} {H : Hp} : ∀ {vs : List V} {ds : List D} {bs : List Bool}, RpAll K ca H vs ds → blsD ds = some bs → vs = bs.map V.bl
  | _, _, _, .nil, h => by cases h; rfl
  | _, _, bs, .cons (d := d) r rr, h => by
    unfold blsD at h
    split at h
    · cases ‹_ :: _ = []›
    · rename_i b ds' e
      cases e
      split at h
      · rename_i bs' e'
        cases h
        cases r
        rw [bls_rp rr e']
        rfl
      · cases h
    · cases h
theorem ints_rp {K : PySem.W.Frag} {ca : CA} {H : Hp} : ∀ {vs : List V} {ds : List D} {bs : List Int}, RpAll K ca H vs ds → intsD ds = some bs → vs = bs.map V.int
  | _, _, _, .nil, h => by cases h; rfl
  | _, _, bs, .cons (d := d) r rr, h => by
    unfold intsD at h
    split at h
    · cases ‹_ :: _ = []›
    · rename_i b ds' e
      cases e
      split at h
      · rename_i bs' e'
        cases h
        cases r
        rw [ints_rp rr e']
        rfl
      · cases h
    · cases h
theorem tups_rp {K : PySem.W.Frag} {ca : CA} {H : Hp} : ∀ {vs : List V} {ds : List D} {ts : List (List Int)}, RpAll K ca H vs ds → tupsD ds = some ts → vs.length = ts.length ∧ ∀ (i : Nat) (v : V), vs[i]? = some v → ∃ t : List Int, ts[i]? = some t ∧ ∃ b, v = .ref b ∧ H b = some (.tup (t.map V.int))
  | _, _, _, .nil, h => by cases h; exact ⟨rfl, fun i v z => by simp at z⟩
  | _, _, bs, .cons (d := d) r rr, h => by
    unfold tupsD at h
    split at h
    · cases ‹_ :: _ = []›
    · rename_i b ds' e
      cases e
      split at h
      · rename_i t ts' e1 e2
        cases h
        obtain ⟨l, g⟩ := tups_rp rr e2
        cases r with
        | tup h1 h2 =>
          refine ⟨by rw [List.length_cons, List.length_cons, l], fun i v z => ?_⟩
          cases i with
          | zero =>
            simp at z
            subst z
            refine ⟨t, rfl, _, rfl, ?_⟩
            rw [ints_rp h2 e1] at h1
            exact h1
          | succ i => simpa using g i v (by simpa using z)
      · cases h
    · cases h
theorem numGo_map {α β : Type} [DecidableEq α] [DecidableEq β] {f : α → β} (hf : ∀ a b, f a = f b → a = b) : ∀ (xs seen : List α), numGo (seen.map f) (xs.map f) = numGo seen xs
  | [], seen => by rw [List.map_nil, numGo.eq_1, numGo.eq_1]
  | x :: xs, seen => by
    rw [List.map_cons, numGo.eq_2, numGo.eq_2]
    have hm : f x ∈ seen.map f ↔ x ∈ seen := ⟨fun h => by obtain ⟨y, hy, e⟩ := List.mem_map.mp h; rw [← hf _ _ e]; exact hy, fun h => List.mem_map.mpr ⟨x, h, rfl⟩⟩
    have hi : ∀ l : List α, (l.map f).idxOf (f x) = l.idxOf x := fun l => by
      induction l with
      | nil => rfl
      | cons y l ih =>
        rw [List.map_cons, List.idxOf_cons, List.idxOf_cons, ih]
        by_cases e : y = x
        · subst e; simp
        · have e2 : ¬ f y = f x := fun z => e (hf _ _ z)
          have b1 : (f y == f x) = false := by simpa using e2
          have b2 : (y == x) = false := by simpa using e
          rw [b1, b2]
    by_cases h : x ∈ seen
    · rw [if_pos (hm.mpr h), if_pos h, hi, numGo_map hf xs seen]
    · rw [if_neg (fun z => h (hm.mp z)), if_neg h, List.length_map]
      have := numGo_map hf xs (seen ++ [x])
      rw [List.map_append] at this
      rw [show [f x] = [x].map f from rfl, this]
section
variable {P : Program} {w : World} {K : PySem.W.Frag} {ca : CA} {mg : Str → Option Value} {base : Heap} {k : Nat} {f : Addr} {x qual p0 : Str} {params : Arguments} {body : List Stmt} {scope : Scope} {dvs : List V} {kws : List (Str × V)} {fd : FuncData} {N : List Str}
theorem numd_G (F : FunD K x qual params body scope dvs kws f fd) (sc : FnScope N [p0] scope) (hN : N.length = 3)
    (hb : ∀ (κ : Type) (_ : DecidableEq κ) (ob : Addr → List (κ × V) → HO) (ky : Hp → V → κ → Prop) (cdv : Value) (A : Around) (out : List Env) (s : Shared) (H : Hp) (E : XK), (∀ X : Cx, X.prog = P → X.w = w → Sdk X κ ob ky) → A.guards = some [] → Room k (A.deeper (envOfC qual scope s.heap.objs.size f cdv)) →
      PSs (cxOf CX0 P w K mg base N qual scope f cdv A out s H E).nox body (tNumd K ca ob ky)) :
    FnG P w K mg base (k + 1) f fd [p0] (spP K ca semNumd) := by
  refine fnG F sc (fun vs H Q E h => ?_) (fun cdv A out s H vs Q E gd hr h => ?_)
  · obtain ⟨Hs, ds, rv, _, r, e, _⟩ := h
    unfold semNumd at e
    split at e
    · rw [r.len]; rfl
    · cases e
  · obtain ⟨Hs, ds, rv, x, r, e, n⟩ := h
    unfold semNumd at e
    split at e
    rotate_left
    · cases e
    rename_i ms
    split at e
    rotate_left
    · cases e
    rename_i hms
    cases r with
    | cons r rr =>
      cases rr
      cases r with
      | lst h1 r1 =>
        rename_i p xs
        have hst : L2.start N [V.ref p] = [some (.ref p), none, none] := by unfold L2.start; rw [hN]; rfl
        rw [hst]
        split at e
        · rename_i bs hbs
          cases e
          have exs := bls_rp r1 hbs
          refine ⟨_, hb Leaf _ (fun a kvs => DLf P w a kvs) kyB cdv A out s H E (fun X e1 e2 => by subst e1 e2; exact sdkB) gd hr, numd_ok (ks := bs.map fun (b : Bool) => Leaf.num (if b then 1 else 0)) (fun a kvs => (sdkB (X := cxOf CX0 P w K mg base N qual scope f cdv A out s H E)).nt a kvs) x h1 (by rw [r1.len]; exact hms) ⟨by rw [exs, List.length_map, List.length_map], fun i v hv => ?_⟩ fun v Hs' H' t r2 => ?_⟩
          · rw [exs, List.getElem?_map] at hv
            cases hb' : bs[i]? with
            | none => rw [hb'] at hv; cases hv
            | some b =>
              rw [hb'] at hv
              cases hv
              exact ⟨_, by rw [List.getElem?_map, hb']; rfl, fun H' _ => ⟨b, rfl, rfl⟩⟩
          · refine n v Hs' H' t ?_
            have := numGo_map (f := fun (b : Bool) => Leaf.num (if b then 1 else 0)) (by intro a b; cases a <;> cases b <;> simp) bs []
            rw [List.map_nil] at this
            rw [this] at r2
            exact r2
        · split at e
          · rename_i ts hts
            cases e
            obtain ⟨l1, g1⟩ := tups_rp r1 hts
            refine ⟨_, hb (List Key) _ (fun _ kvs => .dT kvs) kyT cdv A out s H E (fun X e1 e2 => by subst e1 e2; exact sdkT) gd hr, numd_ok (ks := ts.map fun (t : List Int) => t.map Sum.inl) (fun _ _ _ z => nomatch z) x h1 (by rw [r1.len]; exact hms) ⟨by rw [List.length_map, l1], fun i v hv => ?_⟩ fun v Hs' H' t r2 => ?_⟩
            · obtain ⟨t, e1, b, rfl, hb'⟩ := g1 i v hv
              refine ⟨_, by rw [List.getElem?_map, e1]; rfl, fun H' ex => ⟨b, rfl, ?_⟩⟩
              rw [List.map_map]
              exact ex _ _ hb'
            · refine n v Hs' H' t ?_
              have := numGo_map (f := fun (t : List Int) => t.map (Sum.inl : Int → Key)) (fun a b e => by
                exact (List.map_inj_right (fun x y z => Sum.inl.inj z)).mp e) ts []
              rw [List.map_nil] at this
              rw [this] at r2
              exact r2
          · cases e
end
end Dv

/-! Fd -/
/-! Fd: dict comprehensions; stars in displays. -/
namespace Dv
open PySem PySem.Spec PyProof.Rows L2 Evl LamX
variable [Nm]

def aStar (f : PF) (r : AF) : AF := fun ρ => match f ρ with
  | some (.lst es) => (match r ρ with
    | some ds => some (es ++ ds)
    | none => none)
  | _ => none
theorem a_star {X : Cx} {ca : CA} {e : Expr} {es : List Expr} {p : Pos} {f : PF} {r : AF} (he : PE X e (RdP X.K ca f)) (hr : PA X es (RdA X.K ca r)) (hs : starEach (.Starred e p :: es) X.env = (true, eval e X.env) :: starEach es X.env := by rfl) : PA X (.Starred e p :: es) (RdA X.K ca (aStar f r)) := PAimp (StX.pa_star he hr hs) fun σ H Q q => by
  obtain ⟨F, Hs, ρ, τ, ds, S, e, n⟩ := q
  unfold aStar at e
  split at e
  · rename_i es h1
    split at e
    · rename_i dr h2
      cases e
      refine RdP.intro S h1 fun v Hs1 H1 t1 r1 => ?_
      cases r1 with
      | lst h3 r3 => exact ⟨_, _, rfl, .inr (sq_of (t1.x _ _ h3)), F, Hs1, ρ, τ, dr, S.go t1, h2, fun vs Hs2 H2 t2 r2 => n _ Hs2 H2 (t1.trans t2) ((r3.mono t2.e).app r2)⟩
    · cases e
  · cases e
def dcGo (tg : Tg) (fk fv : PF) (ρ : En) : List (Key × D) → List D → Option (List (Key × D))
  | kvs, [] => some kvs
  | kvs, d :: ds => (match tg.asg d ρ with
    | none => none
    | some ρ1 => (match fk ρ1, fv ρ1 with
      | some kd, some y => (match keyD kd with
        | some k => if szOk (kvs.length + 1) = true then dcGo tg fk fv ρ (putKD kvs k y) ds else none
        | none => none)
      | _, _ => none))
def nDc (it : AF) (tg : Tg) (fk fv : PF) (ow : List Nat) : NF' := fun ρ => match it ρ with
  | some ds => (match dcGo tg fk fv (wipeE ρ ow) [] ds with
    | some kvs => some (.dic kvs, ρ)
    | none => none)
  | none => none
section
variable {K : PySem.W.Frag} {ca : CA} {σ : L2.St} {H : Hp}
theorem rd_dc {it : AF} {tg : Tg} {fk fv : PF} {ow : List Nat} (hsub : ∀ i ∈ tg.slots, i ∈ ow) {Q : VK} (q : RdN K ca (nDc it tg fk fv ow) σ H Q) : tDc (RdIW K ca it) (gTg K tg) (RdT K ca tYs) (RdP K ca fk) (RdP K ca fv) ow σ H Q := by
  obtain ⟨F, Hs, ρ, τ, o, ρ', S, e, n⟩ := q
  unfold nDc at e
  split at e
  rotate_left
  · cases e
  rename_i ds hit
  split at e
  rotate_left
  · cases e
  rename_i kvs hgo
  cases e
  refine ⟨F, Hs, ρ, τ, ds, S, hit, fun J Hs1 H1 t1 ok => ?_⟩
  intro D hD
  obtain ⟨G, Y, w, hG, hY⟩ := ok
  have S1 := S.go t1
  let P : Nat → Hp → Prop := fun i H' => ∃ Hs' zs, Ex Hs1 Hs' ∧ ExtN H1 H' ∧ SR K ca F Hs' H' σ ρ ((D, .dic zs) :: τ) ∧ dcGo tg fk fv (wipeE ρ ow) zs (ds.drop i) = some kvs
  refine ⟨fun i m H' => m = ds.length - i ∧ i ≤ ds.length ∧ P i H', ⟨ds.length, by simp, Nat.zero_le _, Hs1, [], Ex.refl _, ExtN.of (Ex.new hD), S1.tempO (o := .dic []) hD (.dic .nil), hgo⟩, ?_⟩
  rintro i m H3 ⟨rfl, hi, Hs3, zs, e3, k3, S3, g3⟩
  by_cases hlt : i < ds.length
  · refine .inr ⟨w.goes i H3 hlt (hG H3 k3), P (i + 1), fun H' p' => ⟨ds.length - (i + 1), by omega, rfl, hlt, p'⟩, fun x H4 hy => ?_⟩
    obtain ⟨Hs4, d, t4, hd, rd⟩ := hY i x Hs3 H3 H4 e3 S3.ex hlt (w.yields i H3 x H4 hlt (hG H3 k3) hy)
    rw [drop_at hlt hd] at g3
    unfold dcGo at g3
    split at g3
    · cases g3
    rename_i ρ1 hasg
    split at g3
    rotate_left
    · cases g3
    rename_i kd y hfk hfv
    split at g3
    rotate_left
    · cases g3
    rename_i k hk
    split at g3
    rotate_left
    · cases g3
    rename_i hz
    have S4 := S3.go t4
    refine tg_ok (S4.wiped ow) rd hasg fun σ2 S5 hw => ⟨by rw [hw ow hsub, wipe_twice], ?_⟩
    refine RdT.intro S5 rfl fun Hs6 H6 t6 => ?_
    rw [if_pos rfl]
    refine RdP.intro (S5.go t6) hfk fun v Hs7 H7 t7 r7 => ?_
    refine RdP.intro ((S5.go t6).go t7) hfv fun u Hs8 H8 t8 r8 => ?_
    have tt := (t6.trans t7).trans t8
    have S8 := S4.go tt
    obtain ⟨c1, c2, c3⟩ := S8.tm _ List.mem_cons_self
    obtain ⟨vs, hv, rv⟩ := obd c3
    obtain rfl := keyD_v r7 hk
    have hl : vs.length < sizeLine := by
      rw [ks_len rv]
      have := of_decide_eq_true hz
      exact sz_lt (by omega)
    refine ⟨vs, k, rfl, hv, hl, Hs8, putKD zs k y, (e3.trans t4.e).trans tt.e, fun b u hb hn => ?_, S8.writeT (.dic (ks_put k rv r8)), g3⟩
    rw [upd_ne (fun z => by rw [z, hD] at hb; cases hb)]
    exact tt.k b u (t4.k b u (k3 b u hb hn) hn) hn
  · have ei : i = ds.length := by omega
    subst ei
    rw [List.drop_length] at g3
    cases g3
    exact .inl ⟨w.stops H3 (hG H3 k3), n D Hs3 H3 (t1.e.trans e3) S3⟩
end
section
variable {X : Cx} {ca : CA}
theorem n_dc {kx vx tg iter : Expr} {scope : Scope} {own : List (Str × Nat)} {pos : Pos} {it : AF} {g : Tg} {fk fv : PF} (hc : X.calm = true) (hN : X.N.Nodup) (hi : PI X tg iter (RdIW X.K ca it)) (ok : BlkOk X.N X.env.scope scope own)
    (hg : ∀ (s : Shared) (H : Hp) (C : Addr) (cl : List (Str × Addr)) (fp : List Addr), PG (X.blk s H scope (compEnvC scope cl C X.env) fp) tg (gTg X.K g))
    (hk : ∀ (s : Shared) (H : Hp) (C : Addr) (cl : List (Str × Addr)) (fp : List Addr), PE (X.blk s H scope (compEnvC scope cl C X.env) fp) kx (RdP X.K ca fk)) (hv : ∀ (s : Shared) (H : Hp) (C : Addr) (cl : List (Str × Addr)) (fp : List Addr), PE (X.blk s H scope (compEnvC scope cl C X.env) fp) vx (RdP X.K ca fv))
    (hsub : ∀ i ∈ g.slots, i ∈ own.map (·.2)) (hs : ∀ x, foldedSetIterable iter X.env x = pure x := by intro _; rfl) :
    PE X (.DictComp kx vx [⟨tg, iter, [], 0⟩] scope pos) (RdN X.K ca (nDc it g fk fv (own.map (·.2)))) := PEimp (pe_dc hc hN hi ok hg (fun _ _ _ _ _ => ts_nil) hk hv hs) fun _ _ _ q => rd_dc hsub q
end
end Dv

/-! Fe -/
/-! Fe: the def statement within a def. -/
namespace Dv
open PySem PySem.Spec PyProof.Rows L2 Evl LamX NdefX

/-- the function at f is known from now on -/
@[reducible] def Nm.fun (I : Nm) (f : Addr) (F : NF) : Nm := ⟨I.T, (F.c, F.qual) :: I.cd, fun H => I.pn H ∧ H f = some (FnO f F), fun e h => ⟨I.pm e h.1, e _ _ h.2⟩⟩
section
variable {I J : Nm} {K : PySem.W.Frag} {ca : CA} {F0 : Fx} {Hs H H1 : Hp} {σ : L2.St} {ρ : En} {τ : List (Addr × Ob)} {f : Addr} {F : NF} {i : Nat}
theorem sr_inst (S : @SR I K ca F0 Hs H σ ρ τ) (tb : @Tb J H) (pp : J.pn Hs) : @SR J K ca F0 Hs H σ ρ τ := by
  cases S with
  | mk a b c d e g h i j k l m n o => exact @SR.mk J K ca F0 Hs H σ ρ τ a b c d e g h i j k l m tb pp
theorem sr_ndef (S : @SR I K ca F0 Hs H σ ρ []) (hi : i < σ.length) (e : ExtN H H1) (nn : ∀ b, H1 b = none → H b = none) (T1 : TabsN I.T H1) (f0 : H f = none) (f1 : H1 f = some (FnO f F)) (c1 : H1 F.c = some (CodeO F.c F.qual)) :
    @SR (I.fun f F) K ca F0 (upd Hs f (FnO f F)) H1 (σ.set i (some (.ref f))) (ρ.set i (some (.sh (.raw (.ref f))))) [] := by
  letI := I
  have hs : Hs f = none := (S.fresh f0).1
  have tb : Tb H1 := ⟨T1, fun p hp => e _ _ (S.tb.2 p hp) codeO_ne⟩
  have S1 : SR K ca F0 (upd Hs f (FnO f F)) H1 σ ρ [] := S.step0 (Ex.new hs) (fun b u q => by
      by_cases z : b = f
      · subst z; rw [upd_same] at q; cases q; exact f1
      · rw [upd_ne z] at q; exact e _ _ (S.ex b u q) (S.nt b u q)) e (fun b h z => h (nn b z)) (fun b q1 q2 => by rw [upd_ne (fun z => q2 (by rw [z]; exact f0))]; exact q1) (S.nt.upd (fnO_ne)) tb
  refine sr_inst (S1.setS hi (.raw _)) ⟨T1, fun p hp => ?_⟩ ⟨S1.pp, upd_same⟩
  rcases List.mem_cons.mp hp with rfl | hp
  · exact c1
  · exact tb.2 p hp
end
section
variable {P : Program} {w : World} {K : PySem.W.Frag} {mg : Str → Option Value} {base : Heap} {k : Nat} {f c : Addr} {x qual : Str} {params : Arguments} {body : List Stmt} {scope : Scope} {dvs : List V} {kws : List (Str × V)} {fd : FuncData} {N ps : List Str} {sp : Sp} {ca : CA}
/-- as fnG; told too: the def's own code object -/
theorem fnGc (F : FunD K x qual params body scope dvs kws f fd) (sc : FnScope N ps scope) (hcd : fd.code = .ref c) (ln : ∀ vs H Q E, sp vs H Q E → vs.length = ps.length)
    (hb : ∀ (A : Around) (out : List Env) (s : Shared) (H : Hp) (vs : List V) (Q : VK) (E : XK), A.guards = some [] → Room k (A.deeper (envOfC qual scope s.heap.objs.size f (.ref c))) → sp vs H Q E →
      ∃ t, PSs (cxOf CX0 P w K mg base N qual scope f (.ref c) A out s H E).nox body t ∧ t { nx := fun _ H' => Q .non H', rt := Q } (L2.start N vs) H) : FnG P w K mg base (k + 1) f fd ps sp := by
  obtain ⟨oc, od, dV, kV, doc, pm, an, cdv, ct, osl, rfl, look, code, _, _⟩ := F.ex
  obtain rfl : cdv = .ref c := hcd
  refine ⟨ln, fun A out s H ar us vs Q E gd room e0 bd rel hsp => ?_⟩
  have kin : K.In s.heap := e0.mod.kin.keeps fun b o z => (e0.bs b o z).1
  have lim : s.heap.NoLimit := e0.mod.nolimit.keeps fun b o z => (e0.bs b o z).1
  have hl := ln _ _ _ _ hsp
  have kinds : ∀ z ∈ ps.zip us, scope.names.lookup z.1 = some .local ∨ (scope.names.lookup z.1 = some .cell ∧ ((cellsFrom (s.heap.objs.size + 1) scope.names []).lookup z.1).isSome = true) := by
    rintro ⟨n, u⟩ hz
    rcases sc.par n (List.of_mem_zip hz).1 with q | q
    · exact Or.inl q
    · exact Or.inr ⟨q, PySem.W.cellsFrom_some _ _ _ (Or.inl q)⟩
  refine codeAny_call_function room.depth (kin _ _ look) rfl sc.co sc.gen rfl (PySem.W.codeRec_of kin code) (bd _ _ _ _ ?_)
  refine wpAny_newFunctionEnv_cells sc.kind kinds fun env he s1 y => ?_
  subst he
  refine ⟨lim.keeps y.toInCall.keep, codeAny_func ?_⟩
  obtain ⟨t, ht, hq⟩ := hb A out s H vs Q E gd (room.deeper _) hsp
  have I : Inv (cxOf CX0 P w K mg base N qual scope f (.ref c) A out s H E) [] (L2.start N vs) H s1 := inv_start sc room.hd e0 hl rel y
  refine wpAny_mono (ht.nox.run [] s1 (L2.start N vs) H _ I hq) (fun fl s' hs => ?_) fun _ _ z => z
  cases fl with
  | ret u =>
    obtain ⟨v, σ', H', J, rv, q⟩ := hs
    exact ⟨v, H', J.os, J.bare, J.base, J.hok, rv, q⟩
  | next =>
    obtain ⟨σ', H', J, q⟩ := hs
    exact ⟨V.non, H', J.os, J.bare, J.base, J.hok, rfl, q⟩
  | brk =>
    obtain ⟨_, _, _, q⟩ := hs
    cases q
  | cont =>
    obtain ⟨_, _, _, q⟩ := hs
    cases q
theorem go_fun {I : Nm} {fa : Addr} {F : NF} {Hs H Hs' H' : Hp} {σ : L2.St} {ρ : En} {τ : List (Addr × Ob)} {mu : List Addr} (S : @SR (I.fun fa F) K ca ⟨Hs, H, []⟩ Hs' H' σ ρ τ) : @Go I Hs H Hs' H' :=
  @Go.mk I Hs H Hs' H' (@SR.e0 (I.fun fa F) _ _ _ _ _ _ _ _ S) (fun b u h => @SR.fr (I.fun fa F) _ _ _ _ _ _ _ _ S b u h (by simp)) (@SR.ex (I.fun fa F) _ _ _ _ _ _ _ _ S) (@SR.nw (I.fun fa F) _ _ _ _ _ _ _ _ S) (@SR.th (I.fun fa F) _ _ _ _ _ _ _ _ S)
    (fun _ => @SR.nt (I.fun fa F) _ _ _ _ _ _ _ _ S) (fun _ => ⟨(@SR.tb (I.fun fa F) _ _ _ _ _ _ _ _ S).1, fun p hp => (@SR.tb (I.fun fa F) _ _ _ _ _ _ _ _ S).2 p (List.mem_cons_of_mem _ hp)⟩)
theorem gND (I : Nm) {st : Stmt} {rest : List Stmt} (F : FunD K x qual params (st :: rest) scope dvs kws f fd) (sc : FnScope N ps scope) (hl : ps.length ≤ N.length) (hcd : fd.code = .ref c) {i : Nat} (hi : i < N.length) (m : SemP) (mk : Env → Addr → NF) (hmk : ∀ env c', (mk env c').c = c') (g : Addr → SS)
    (hdef : ∀ (A : Around) (out : List Env) (s : Shared) (H : Hp) (E : XK), PS (cxOf CX0 P w K mg base N qual scope f (.ref c) A out s H E).nox st (tNdefM I.T i (mk (envOfC qual scope s.heap.objs.size f (.ref c)))))
    (hrest : ∀ (A : Around) (out : List Env) (s : Shared) (H : Hp) (E : XK) (fa c' : Addr), A.guards = some [] → Room k (A.deeper (envOfC qual scope s.heap.objs.size f (.ref c))) → PSs (cxOf CX0 P w K mg base N qual scope f (.ref c) A out s H E).nox rest (@RdS (I.fun fa (mk (envOfC qual scope s.heap.objs.size f (.ref c)) c')) K ca (g fa)))
    (hm : ∀ ds rv, m ds = some rv → ds.length = ps.length ∧ ∃ d, rv = .sh d ∧ ∀ fa, ∃ ρ', g fa ((init N.length ps.length (ds.map .sh)).set i (some (.sh (.raw (.ref fa))))) = some (.rt (.sh d) ρ')) :
    FnG P w K mg base (k + 1) f fd ps (@spP I K ca m) := by
  letI := I
  refine fnGc F sc hcd (fun vs H Q E h => ?_) (fun A out s H vs Q E gd hr h => ?_)
  · obtain ⟨Hs, ds, rv, _, r, e, _⟩ := h
    rw [r.len, (hm ds rv e).1]
  · obtain ⟨Hs, ds, rv, x, r, e, n⟩ := h
    obtain ⟨hd, d, rfl, hg⟩ := hm ds rv e
    have S0 := SR.startP (N := N) x r (by rw [hd]; exact hl)
    rw [hd] at S0
    have hrest' : PSs (cxOf CX0 P w K mg base N qual scope f (.ref c) A out s H E).nox rest (fun D σ H' => ∃ fa c', @RdS (I.fun fa (mk (envOfC qual scope s.heap.objs.size f (.ref c)) c')) K ca (g fa) D σ H') :=
      ⟨fun pins s1 σ H1 D I1 ⟨fa, c', q⟩ => (hrest A out s H E fa c' gd hr).run pins s1 σ H1 D I1 q⟩
    refine ⟨_, pss_cons (hdef A out s H E) hrest', S0.tb.1, fun fa c' H1 e1 nn T1 f0 f1 c1 => ⟨fa, c', ?_⟩⟩
    have c1' : H1 (mk (envOfC qual scope s.heap.objs.size f (.ref c)) c').c = some (CodeO (mk (envOfC qual scope s.heap.objs.size f (.ref c)) c').c (mk (envOfC qual scope s.heap.objs.size f (.ref c)) c').qual) := by
      rw [hmk]; exact c1
    have S1 := sr_ndef (i := i) S0 (by rw [start_len (by rw [r.len, hd]; exact hl)]; exact hi) e1 nn T1 f0 f1 c1'
    obtain ⟨ρ', hg'⟩ := hg fa
    refine @RdS.intro (I.fun fa _) _ _ _ _ _ _ _ _ _ _ S1 hg' fun v Hs' H' e2 R => ?_
    obtain ⟨⟨σ', S'⟩, r'⟩ := R
    exact n v Hs' H' (go_fun (mu := []) S') r'
end
end Dv

/-! Ff -/
/-! Ff: by its name, a def that is handed a local function. -/
namespace Dv
open PySem PySem.Spec PyProof.Rows L2 Evl LamX NdefX

structure CalC (I : Nm) (P : Program) (w : World) (K : PySem.W.Frag) (ca : CA) (mg : Str → Option Value) (base : Heap) (x : Str) (k : Nat) (cl : List (Str × Addr)) (fr : List Str) (semOf : List D → SemP) (dds : List D) : Prop where
  ex : ∃ (f : Addr) (fd : FuncData) (ps : List Str) (ds0 : List Value) (dvs : List V), FnC I P w K ca mg base k f fd ps cl fr semOf ∧ mg x = some (.ref f) ∧ PySem.W.keepIn K (.ref f) = true ∧ Binds K fd ps ds0 ∧ Vals dvs ds0 ∧ ∀ H, RpAll K ca H dvs dds
theorem e_calC {I : Nm} {X : Cx} {ca : CA} {k : Nat} {x : Str} {cl : List (Str × Addr)} {fr : List Str} {js : List Nat} {semOf : List D → SemP} {dds : List D} {p pos : Pos} {e : Expr} {es : List Expr} {af : AF} (C : CalC I X.prog X.w X.K ca X.mg X.base x k cl fr semOf dds) (gd : X.A.guards = some []) (hr : Room k X.A) (hg : Gl X x)
    (hfn : ∀ y c, X.env.cells.lookup y = some c → X.fn y = true) (cp : X.Ok → Caps X cl fr js) (ha : PA X (e :: es) (@RdA I X.K ca af))
    (hdb : (x == ("__debug__" : Str)) = false := by decide) (he : starEach (e :: es) X.env = (false, eval e X.env) :: starEach es X.env := by rfl) (hpl : (backTo pos (starEach es X.env)).any (·.1) = false := by rfl) :
    PE X (.Call (.Name x p) (e :: es) [] pos) (@RdP I X.K ca (fCallC js (fun cds ds => semOf cds (ds ++ dds)) af)) := by
  obtain ⟨f, fd, ps, ds0, dvs, F, hm, hk, hb, hdv, hdd⟩ := C.ex
  exact e_callC F gd hr hg hm hk hb hdv hdd hfn cp ha hdb he hpl
end Dv

/-! Fg -/
/-! Fg: what is new through and through. -/
namespace Dv
open PySem PySem.Spec PyProof.Rows L2 Evl LamX NdefX
variable [Nm]

/-- Hn is a part of Hs', and was not there in H -/
def NewH (H Hn Hs' : Hp) : Prop := ∀ b o, Hn b = some o → H b = none ∧ Hs' b = some o
def uni (A B : Hp) : Hp := fun b => match A b with
  | some o => some o
  | none => B b
theorem uni_l {A B : Hp} : Ex A (uni A B) := fun b o h => by unfold uni; rw [h]
theorem NewH.ex {H Hn Hs : Hp} (n : NewH H Hn Hs) : Ex Hn Hs := fun b o h => (n b o h).2
theorem NewH.uni {H A B Hs : Hp} (a : NewH H A Hs) (b : NewH H B Hs) : NewH H (uni A B) Hs := fun c o h => by
  unfold Dv.uni at h
  split at h
  · rename_i u q; cases h; exact a c _ q
  · exact b c o h
theorem NewH.uni_r {H A B Hs : Hp} (a : NewH H A Hs) (b : NewH H B Hs) : Ex B (Dv.uni A B) := fun c o h => by
  unfold Dv.uni
  split
  · rename_i u q
    have := (a c u q).2
    rw [(b c o h).2] at this
    exact this.symm
  · exact h
theorem NewH.to {H Hn Hs Hs' : Hp} (n : NewH H Hn Hs) (e : Ex Hs Hs') : NewH H Hn Hs' := fun b o h => ⟨(n b o h).1, e _ _ (n b o h).2⟩
theorem NewH.back {H H' Hn Hs : Hp} (n : NewH H' Hn Hs) (th : ∀ b, H b ≠ none → H' b ≠ none) : NewH H Hn Hs := fun b o h => ⟨none_of_ne fun z => th b z (n b o h).1, (n b o h).2⟩
theorem NewH.nil {H Hs : Hp} : NewH H (fun _ => none) Hs := fun b o h => by cases h
theorem NewH.upd {H Hn Hs : Hp} {p : Addr} {u : HO} (n : NewH H Hn Hs) (hp : H p = none) (hs : Hs p = none) : NewH H (upd Hn p u) (upd Hs p u) := fun b o h => by
  by_cases z : b = p
  · subst z; rw [upd_same] at h ⊢; exact ⟨hp, h⟩
  · rw [upd_ne z] at h ⊢; exact n b o h
theorem NewH.at {H Hn Hs : Hp} {p : Addr} (n : NewH H Hn Hs) (hs : Hs p = none) : Hn p = none := by
  cases q : Hn p with
  | none => rfl
  | some u => rw [(n p u q).2] at hs; cases hs
/-- a reading that tells new data -/
def RdPF (K : PySem.W.Frag) (ca : CA) (f : PF) : TE := fun σ H Q => ∃ F Hs ρ τ d, SR K ca F Hs H σ ρ τ ∧ f ρ = some d ∧ ∀ v Hs' H' Hn, Go Hs H Hs' H' → NewH H Hn Hs' → Rp K ca Hn v d → Q v H'
def RdAF (K : PySem.W.Frag) (ca : CA) (f : AF) : TA := fun σ H Q => ∃ F Hs ρ τ ds, SR K ca F Hs H σ ρ τ ∧ f ρ = some ds ∧ ∀ vs Hs' H' Hn, Go Hs H Hs' H' → NewH H Hn Hs' → RpAll K ca Hn vs ds → Q vs H'
theorem RdPF.intro {K : PySem.W.Frag} {ca : CA} {F : Fx} {Hs H : Hp} {σ : L2.St} {ρ : En} {τ : List (Addr × Ob)} {d : D} {f : PF} {Q : VK} (S : SR K ca F Hs H σ ρ τ) (h : f ρ = some d) (n : ∀ v Hs' H' Hn, Go Hs H Hs' H' → NewH H Hn Hs' → Rp K ca Hn v d → Q v H') : RdPF K ca f σ H Q := ⟨F, Hs, ρ, τ, d, S, h, n⟩
def fFl (f : PF) : PF := fun ρ => match f ρ with
  | some d => if (imm d).isSome = true then some d else none
  | none => none
section
variable {X : Cx} {ca : CA} {e : Expr} {f : PF} {es : List Expr} {r : AF} {pos : Pos}
/-- what is told by value -/
theorem f_fl (h : PE X e (RdP X.K ca f)) : PE X e (RdPF X.K ca (fFl f)) := PEimp h fun σ H Q q => by
  obtain ⟨F, Hs, ρ, τ, d, S, e, n⟩ := q
  unfold fFl at e
  split at e
  · rename_i d' h1
    split at e
    · rename_i c
      cases e
      refine RdP.intro S h1 fun v Hs' H' t r => ?_
      obtain ⟨v0, hv⟩ := Option.isSome_iff_exists.mp c
      have : v = v0 := by cases r <;> simp [imm] at hv <;> exact hv
      subst this
      exact n v Hs' H' _ t .nil (imm_rp hv)
    · cases e
  · cases e
theorem f_p (h : PE X e (RdPF X.K ca f)) : PE X e (RdP X.K ca f) := PEimp h fun σ H Q q => by
  obtain ⟨F, Hs, ρ, τ, d, S, e, n⟩ := q
  exact RdPF.intro S e fun v Hs' H' Hn t nn r => n v Hs' H' t (r.mono nn.ex)
theorem fa_nil : PA X [] (RdAF X.K ca aNil) := PAimp pa_nil fun σ H Q q => by
  obtain ⟨F, Hs, ρ, τ, ds, S, e, n⟩ := q
  cases e
  exact n [] Hs H _ (Go.refl S.ex) .nil .nil
theorem fa_cons (he : PE X e (RdPF X.K ca f)) (hr : PA X es (RdAF X.K ca r)) (hs : starEach (e :: es) X.env = (false, eval e X.env) :: starEach es X.env := by rfl) : PA X (e :: es) (RdAF X.K ca (aCons f r)) := PAimp (pa_cons he hr hs) fun σ H Q q => by
  obtain ⟨F, Hs, ρ, τ, ds, S, e, n⟩ := q
  unfold aCons at e
  split at e
  · rename_i d h1
    split at e
    · rename_i dr h2
      cases e
      refine RdPF.intro S h1 fun v Hs1 H1 Hn1 t1 n1 r1 => ⟨F, Hs1, ρ, τ, dr, S.go t1, h2, fun vs Hs2 H2 Hn2 t2 n2 r2 => ?_⟩
      have a1 := n1.to t2.e
      have a2 := n2.back t1.th
      exact n (v :: vs) Hs2 H2 (uni Hn1 Hn2) (t1.trans t2) (a1.uni a2) (.cons (r1.mono uni_l) (r2.mono (a1.uni_r a2)))
    · cases e
  · cases e
theorem f_tup {x1} (h : PA X es (RdAF X.K ca r)) : PE X (.Tuple es x1 pos) (RdPF X.K ca (fTup r)) := PEimp (pe_tup h) fun σ H Q q => by
  obtain ⟨F, Hs, ρ, τ, d, S, e, n⟩ := q
  unfold fTup at e
  split at e
  · rename_i ds h1
    split at e
    · rename_i c
      cases e
      refine ⟨F, Hs, ρ, τ, ds, S, h1, fun vs Hs1 H1 Hn1 t1 n1 r1 => ⟨by rw [r1.len]; exact szOk_le c, fun p hp => ?_⟩⟩
      have s1 : Hs1 p = none := fresh_back t1.x hp
      have h0 : H p = none := none_of_ne fun z => t1.th p z hp
      exact n _ _ _ _ (t1.trans (Go.alloc (u := .tup vs) t1.x nt_tup hp)) (n1.upd h0 s1) (.tup upd_same (r1.mono (Ex.new (n1.at s1))))
    · cases e
  · cases e
end
section
variable {K : PySem.W.Frag} {ca : CA} {F : Fx} {Hs H : Hp} {σ : L2.St} {ρ : En} {τ : List (Addr × Ob)}
theorem rd_lcF {it : AF} {tg : Tg} {ft : TF} {fe : PF} {ow : List Nat} (hsub : ∀ i ∈ tg.slots, i ∈ ow) {Q : VK} (q : RdPF K ca (fLc it tg ft fe ow) σ H Q) : tLc (RdIW K ca it) (gTg K tg) (RdT K ca ft) (RdPF K ca fe) ow σ H Q := by
  obtain ⟨F, Hs, ρ, τ, d, S, e, n⟩ := q
  unfold fLc at e
  split at e
  rotate_left
  · cases e
  rename_i ds hit
  split at e
  rotate_left
  · cases e
  rename_i hsz
  split at e
  rotate_left
  · cases e
  rename_i ys hgo
  cases e
  refine ⟨F, Hs, ρ, τ, ds, S, hit, fun J Hs1 H1 t1 ok => ?_⟩
  intro D hD
  obtain ⟨G, Y, w, hG, hY⟩ := ok
  have S1 := S.go t1
  have hDs : Hs1 D = none := (S1.fresh hD).1
  refine lc_it w (fun i H' => ∃ Hs' vs zs rest Hn, Go Hs1 H1 Hs' H' ∧ Hs' D = none ∧ H' D = some (.lst vs) ∧ NewH H1 Hn Hs' ∧ RpAll K ca Hn vs zs ∧ ys = zs ++ rest ∧ lcGo tg ft fe (wipeE ρ ow) (ds.drop i) = some rest)
    ⟨Hs1, [], [], ys, fun _ => none, ⟨Ex.refl _, ExtN.of (Ex.new hD), t1.x.trans (Ex.new hD), fun b h1 _ => h1, th_new, id, fun q => tb_new q hD⟩, hDs, upd_same, .nil, .nil, rfl, hgo⟩
    (fun i H' hi ⟨Hs', vs, zs, rest, Hn, t, _⟩ => hG H' t.k) (fun i x H3 H4 hi hp hy => ?_) fun H' hp => ?_
  · obtain ⟨Hs3, vs, zs, rest, Hn, t3, d3, v3, n3, r3, e3, g3⟩ := hp
    obtain ⟨Hs4, d, t4, hd, rd⟩ := hY i x Hs3 H3 H4 t3.e t3.x hi hy
    have t13 := t3.trans t4
    rw [drop_at hi hd] at g3
    unfold lcGo at g3
    have S4 := (S1.go t13).wiped ow
    split at g3
    · cases g3
    rename_i ρ1 hasg
    refine tg_ok S4 rd hasg fun σ2 S5 hw => ⟨by rw [hw ow hsub, wipe_twice], ?_⟩
    split at g3
    · cases g3
    · rename_i hft
      refine RdT.intro S5 hft fun Hs6 H6 t6 => ?_
      rw [if_pos rfl]
      split at g3
      · cases g3
      rename_i y hfe
      split at g3
      · rename_i rest' hr
        cases g3
        refine RdPF.intro (S5.go t6) hfe fun v Hs7 H7 Hn7 t7 n7 r7 => ?_
        have tt := t4.trans (t6.trans t7)
        have h3n : H3 D ≠ none := by rw [v3]; exact Option.some_ne_none _
        have d7 : Hs7 D = none := tt.n D d3 h3n
        have hl : vs.length < sizeLine := by
          rw [r3.len]
          have h1 := lcGo_len hgo
          rw [e3, List.length_append, List.length_cons] at h1
          have h2 : ds.length ≤ 100000 := of_decide_eq_true hsz
          exact sz_lt (by omega)
        have tf := t3.trans tt
        have a1 : NewH H1 Hn Hs7 := n3.to tt.e
        have a2 : NewH H1 Hn7 Hs7 := n7.back fun b hb => t6.th b (t4.th b (t3.th b hb))
        refine ⟨vs, tt.k D _ v3 nt_lst, hl, Hs7, vs ++ [v], zs ++ [y], rest', uni Hn Hn7, ⟨tf.e, fun b u hb hn => ?_, fun b u hb => ?_, fun b h1 h2 => tf.n b h1 h2, fun b hb => th_new b (tf.th b hb), tf.nt, fun hb => tb_put (tf.tb hb) (tt.k D _ v3 nt_lst) nt_lst fun _ _ z => nomatch z⟩, d7, upd_same, a1.uni a2, (r3.mono uni_l).app (.one (r7.mono (a1.uni_r a2))), by rw [e3]; simp, hr⟩
        · rw [upd_ne (fun z => by rw [z, hD] at hb; cases hb)]
          exact tf.k b u hb hn
        · rw [upd_ne (fun z => by rw [z, d7] at hb; cases hb)]
          exact tf.x b u hb
      · cases g3
    · rename_i hft
      refine RdT.intro S5 hft fun Hs6 H6 t6 => ?_
      rw [if_neg Bool.false_ne_true]
      have tt := t4.trans t6
      have h3n : H3 D ≠ none := by rw [v3]; exact Option.some_ne_none _
      exact ⟨Hs6, vs, zs, rest, Hn, t3.trans tt, tt.n D d3 h3n, tt.k D _ v3 nt_lst, n3.to tt.e, r3, e3, g3⟩
  · obtain ⟨Hs', vs, zs, rest, Hn, t, d', v', n', r', e', g'⟩ := hp
    rw [List.drop_length] at g'
    cases g'
    rw [List.append_nil] at e'
    subst e'
    have tf := t1.trans t
    have ed : Ex Hs' (upd Hs' D (.lst vs)) := Ex.new d'
    have h0 : H D = none := none_of_ne fun z => t1.th D z hD
    refine n _ (upd Hs' D (.lst vs)) H' (upd Hn D (.lst vs)) ⟨tf.e.trans ed, tf.k, ex_share d' v' t.x, fun b h1 h2 => ?_, tf.th, fun q => (tf.nt q).upd nt_lst, tf.tb⟩ ((n'.back t1.th).upd h0 d') (.lst upd_same (r'.mono (Ex.new (n'.at d'))))
    rw [upd_ne (fun z => h2 (by rw [z]; exact h0))]
    exact tf.n b h1 h2
end
section
variable {X : Cx} {ca : CA}
theorem f_lc {elt tg iter : Expr} {ifs : List Expr} {scope : Scope} {own : List (Str × Nat)} {pos : Pos} {it : AF} {g : Tg} {ft : TF} {fe : PF} (hc : X.calm = true) (hN : X.N.Nodup) (hi : PI X tg iter (RdIW X.K ca it)) (ok : BlkOk X.N X.env.scope scope own)
    (hg : ∀ (s : Shared) (H : Hp) (C : Addr) (cl : List (Str × Addr)) (fp : List Addr), PG (X.blk s H scope (compEnvC scope cl C X.env) fp) tg (gTg X.K g)) (ht : ∀ (s : Shared) (H : Hp) (C : Addr) (cl : List (Str × Addr)) (fp : List Addr), PTs (X.blk s H scope (compEnvC scope cl C X.env) fp) ifs (RdT X.K ca ft))
    (he : ∀ (s : Shared) (H : Hp) (C : Addr) (cl : List (Str × Addr)) (fp : List Addr), PE (X.blk s H scope (compEnvC scope cl C X.env) fp) elt (RdPF X.K ca fe)) (hsub : ∀ i ∈ g.slots, i ∈ own.map (·.2)) (hs : ∀ x, foldedSetIterable iter X.env x = pure x := by intro _; rfl) :
    PE X (.ListComp elt [⟨tg, iter, ifs, 0⟩] scope pos) (RdPF X.K ca (fLc it g ft fe (own.map (·.2)))) := PEimp (pe_lc hc hN hi ok hg ht he hs) fun _ _ _ q => rd_lcF hsub q
end
end Dv

/-! Fh -/
/-! Fh: defs that hand back new data, or make an instance of new data. -/
namespace Dv
open PySem PySem.Spec PyProof.Rows L2 Evl LamX NdefX

def flatD (ds : List D) : Bool := ds.all fun d => (imm d).isSome
theorem imm_v [Nm] {K : PySem.W.Frag} {ca : CA} {H : Hp} {v v0 : V} {d : D} (r : Rp K ca H v d) (h : imm d = some v0) : v = v0 := by cases r <;> simp [imm] at h <;> exact h
theorem flat_rp [Nm] {K : PySem.W.Frag} {ca : CA} {H H' : Hp} : ∀ {vs : List V} {ds : List D}, RpAll K ca H vs ds → flatD ds = true → RpAll K ca H' vs ds
  | _, _, .nil, _ => .nil
  | _, _, .cons r rr, h => by
    unfold flatD at h
    rw [List.all_cons, Bool.and_eq_true] at h
    obtain ⟨v0, hv⟩ := Option.isSome_iff_exists.mp h.1
    rw [imm_v r hv]
    exact .cons (imm_rp hv) (flat_rp rr h.2)
section
variable [Nm]
def fListF (f : PF) : PF := fun ρ => match f ρ with
  | some (.lst ds) => if flatD ds = true then some (.lst ds) else none
  | _ => none
theorem f_list {X : Cx} {ca : CA} {e : Expr} {f : PF} (h : PE X e (tCB (fun xs H Q => ∃ p ys, xs = [.ref p] ∧ (SqL X.K H p ys ∨ SqT X.K H p ys) ∧ ∀ l, H l = none → Q (.ref l) (upd H l (.lst ys))) (RdAW X.K ca (aCons f aNil)))) : PE X e (RdPF X.K ca (fListF f)) := PEimp h fun σ H Q q => by
  obtain ⟨F, Hs, ρ, τ, d, S, e, n⟩ := q
  unfold fListF at e
  split at e
  · rename_i ds h1
    split at e
    · rename_i c
      cases e
      refine ⟨F, Hs, ρ, τ, [.lst ds], S, by simp only [aCons, h1, aNil], fun vs Hs1 H1 t1 w => ?_⟩
      obtain ⟨v, rfl, w1⟩ := wrs1 w
      obtain ⟨a, xs, rfl, k1, r⟩ := w1.lst t1.x
      refine ⟨a, xs, rfl, .inl (sq_of k1), fun p hp => ?_⟩
      have s1 : Hs1 p = none := fresh_back t1.x hp
      have h0 : H p = none := none_of_ne fun z => t1.th p z hp
      exact n _ _ _ _ (t1.trans (Go.alloc (u := .lst xs) t1.x nt_lst hp)) (NewH.nil.upd h0 s1) (.lst upd_same (flat_rp r c))
    · cases e
  · cases e
theorem f_setLc {X : Cx} {ca : CA} {i : Nat} {y : Str} {py : Pos} {elt tg iter : Expr} {ifs : List Expr} {scope : Scope} {own : List (Str × Nat)} {pos spos : Pos} {it : AF} {g : Tg} {ft : TF} {fe : PF} (hc : X.calm = true) (hN : X.N.Nodup) (hy : X.N[i]? = some y) (hyl : X.env.scope.names.lookup y = some .local)
    (hsw : swapsWith (.ListComp elt [⟨tg, iter, ifs, 0⟩] scope pos) (some (.Name y py)) spos.line X.env = pure true) (hi : PI X tg iter (RdIW X.K ca it)) (ok : BlkOk X.N X.env.scope scope own)
    (hg : ∀ (s : Shared) (H : Hp) (C : Addr) (cl : List (Str × Addr)) (fp : List Addr), PG (X.blk s H scope (compEnvC scope cl C X.env) fp) tg (gTg X.K g)) (ht : ∀ (s : Shared) (H : Hp) (C : Addr) (cl : List (Str × Addr)) (fp : List Addr), PTs (X.blk s H scope (compEnvC scope cl C X.env) fp) ifs (RdT X.K ca ft))
    (he : ∀ (s : Shared) (H : Hp) (C : Addr) (cl : List (Str × Addr)) (fp : List Addr), PE (X.blk s H scope (compEnvC scope cl C X.env) fp) elt (RdPF X.K ca fe)) (hsub : ∀ i ∈ g.slots, i ∈ own.map (·.2)) (hs : ∀ x, foldedSetIterable iter X.env x = pure x := by intro _; rfl) :
    PS X (.Assign [.Name y py] (.ListComp elt [⟨tg, iter, ifs, 0⟩] scope pos) spos) (tAsg (RdPF X.K ca (fLc it g ft fe (own.map (·.2)))) (gName i)) :=
  PSimp (ps_setLc hc hN hy hyl hsw hi ok hg ht he hs) fun D σ H q => rd_lcF hsub q
/-- a block that hands back new data -/
def RdSD (K : PySem.W.Frag) (ca : CA) (g : SS) : TS := fun D σ H => ∃ F Hs ρ d ρ', SR K ca F Hs H σ ρ [] ∧ g ρ = some (.rt (.sh d) ρ') ∧
  ∀ v Hs' H' Hn, Ex Hs Hs' → (∃ σ', SR K ca F Hs' H' σ' ρ' []) → NewH F.H Hn Hs' → Rp K ca Hn v d → D.rt v H'
def gSeqD (g h : SS) : SS := fun ρ => match g ρ with
  | some (.nx ρ') => h ρ'
  | _ => none
section
variable {X : Cx} {ca : CA} {st : Stmt} {rest : List Stmt} {g h : SS} {e : Expr} {f : PF} {pos : Pos}
theorem fd_ret (he : PE X e (RdPF X.K ca f)) : PSs X [.Return (some e) pos] (RdSD X.K ca (gRet (sP f))) := PSsimp (pss_one (ps_ret he)) fun D σ H q => by
  obtain ⟨F, Hs, ρ, d, ρ', S, e, n⟩ := q
  unfold gRet sP at e
  split at e
  · rename_i d' ρ1 h1
    split at h1
    · rename_i d2 h2
      cases h1
      cases e
      exact RdPF.intro S h2 fun v Hs' H' Hn t nn r => n v Hs' H' Hn t.e ⟨σ, S.go t⟩ (nn.back S.th) r
    · cases h1
  · cases e
theorem fd_seq (h1 : PS X st (RdS X.K ca g)) (h2 : PSs X rest (RdSD X.K ca h)) : PSs X (st :: rest) (RdSD X.K ca (gSeqD g h)) := PSsimp (pss_cons h1 h2) fun D σ H q => by
  obtain ⟨F, Hs, ρ, d, ρ', S, e, n⟩ := q
  unfold gSeqD at e
  split at e
  · rename_i ρ1 hg
    refine ⟨F, Hs, ρ, .nx ρ1, S, hg, fun σ' Hs' H' e1 S' => ?_⟩
    exact ⟨F, Hs', ρ1, d, ρ', S', e, fun v Hs2 H2 Hn e2 x nn r => n v Hs2 H2 Hn (e1.trans e2) x nn r⟩
  · cases e
def gSetRet (i : Nat) (f1 f2 : PF) : SS := fun ρ => match f1 ρ with
  | some d1 => if i < ρ.length then (match f2 (ρ.set i (some (.sh d1))) with
    | some d2 => some (.rt (.sh (.tup [d1, d2])) (ρ.set i (some (.sh d1))))
    | none => none) else none
  | none => none
theorem fd_setret {i : Nat} {tg e1 ev e2 : Expr} {f1 f2 : PF} {p1 p2 p3 : Pos} {x1 : Nat} (hp : PS X (.Assign [tg] e1 p1) (tAsg (RdPF X.K ca f1) (gName i))) (hv : PE X ev (tVar i)) (h2 : PE X e2 (RdPF X.K ca f2))
    (hs1 : starEach [ev, e2] X.env = (false, eval ev X.env) :: starEach [e2] X.env := by rfl) (hs2 : starEach [e2] X.env = (false, eval e2 X.env) :: starEach [] X.env := by rfl) :
    PSs X [.Assign [tg] e1 p1, .Return (some (.Tuple [ev, e2] x1 p2)) p3] (RdSD X.K ca (gSetRet i f1 f2)) :=
  PSsimp (pss_cons hp (pss_one (ps_ret (pe_tup (pa_cons hv (pa_cons h2 pa_nil hs2) hs1))))) fun D σ H q => by
    obtain ⟨F, Hs, ρ, d, ρ', S, e, n⟩ := q
    unfold gSetRet at e
    split at e
    rotate_left
    · cases e
    rename_i d1 hf1
    split at e
    rotate_left
    · cases e
    rename_i hi
    split at e
    rotate_left
    · cases e
    rename_i d2 hf2
    cases e
    refine RdPF.intro S hf1 fun v1 Hs1 H1 Hn1 t1 n1 r1 => ?_
    have his : i < σ.length := by rw [← S.ln]; exact hi
    have S1 := (S.go t1).setS his (r1.mono n1.ex)
    refine ⟨v1, List.getElem?_set_self his, ?_⟩
    refine RdPF.intro S1 hf2 fun v2 Hs2 H2 Hn2 t2 n2 r2 => ⟨by show 2 ≤ sizeLine; decide, fun p hp => ?_⟩
    have s2 : Hs2 p = none := fresh_back t2.x hp
    have h1 : H1 p = none := none_of_ne fun z => t2.th p z hp
    have a1 := (n1.to t2.e).back S.th
    have a2 := (n2.back t1.th).back S.th
    have ga : Go Hs2 H2 (upd Hs2 p (.tup [v1, v2])) (upd H2 p (.tup [v1, v2])) := Go.alloc t2.x nt_tup hp
    have u12 := a1.uni a2
    have f0 : F.H p = none := none_of_ne fun z => (S1.go t2).th p z hp
    exact n _ _ _ (upd (uni Hn1 Hn2) p (.tup [v1, v2])) ((t1.e.trans t2.e).trans ga.e) ⟨_, (S1.go t2).go ga⟩ (u12.upd f0 s2) (.tup upd_same (.cons ((r1.mono uni_l).mono (Ex.new (u12.at s2))) (.cons ((r2.mono (a1.uni_r a2)).mono (Ex.new (u12.at s2))) .nil)))
end
/-- a def that hands back new data -/
def spD (K : PySem.W.Frag) (ca : CA) (sem : SemP) : Sp := fun vs H Q _ => ∃ Hs ds d, Bs Hs H ∧ RpAll K ca Hs vs ds ∧ sem ds = some (.sh d) ∧ ∀ v Hs' H' Hn, Go Hs H Hs' H' → NewH H Hn Hs' → Rp K ca Hn v d → Q v H'
end
section
variable {P : Program} {w : World} {K : PySem.W.Frag} {mg : Str → Option Value} {base : Heap} {k : Nat} {f c : Addr} {x qual : Str} {params : Arguments} {body : List Stmt} {scope : Scope} {dvs : List V} {kws : List (Str × V)} {fd : FuncData} {N ps : List Str} {sp : Sp} {ca : CA} {g : SS}
def runD (n m : Nat) (g : SS) : SemP := fun ds => if ds.length = m then (match g (init n m (ds.map .sh)) with
  | some (.rt (.sh d) _) => some (.sh d)
  | _ => none) else none
theorem gPD [Nm] (F : FunD K x qual params body scope dvs kws f fd) (sc : FnScope N ps scope) (hl : ps.length ≤ N.length)
    (hg : ∀ (cdv : Value) (A : Around) (out : List Env) (s : Shared) (H : Hp) (E : XK), A.guards = some [] → Room k (A.deeper (envOfC qual scope s.heap.objs.size f cdv)) → PSs (cxOf CX0 P w K mg base N qual scope f cdv A out s H E).nox body (RdSD K ca g)) : FnG P w K mg base (k + 1) f fd ps (spD K ca (runD N.length ps.length g)) := by
  refine fnG F sc (fun vs H Q E h => ?_) (fun cdv A out s H vs Q E gd hr h => ⟨_, hg cdv A out s H E gd hr, ?_⟩)
  · obtain ⟨Hs, ds, d, _, r, e, _⟩ := h
    unfold runD at e
    split at e
    · rename_i q; rw [r.len, q]
    · cases e
  · obtain ⟨Hs, ds, d, x, r, e, n⟩ := h
    unfold runD at e
    split at e
    rotate_left
    · cases e
    rename_i hd
    rw [← hd] at e
    have S0 := SR.startP (N := N) x r (by rw [hd]; exact hl)
    split at e
    · rename_i d' ρ' hg'
      cases e
      exact ⟨_, Hs, _, d, ρ', S0, hg', fun v Hs' H' Hn e1 ⟨σ', S'⟩ nn r => n v Hs' H' Hn S'.goOut nn r⟩
    · cases e
theorem gNDD (I : Nm) {st : Stmt} {rest : List Stmt} (F : FunD K x qual params (st :: rest) scope dvs kws f fd) (sc : FnScope N ps scope) (hl : ps.length ≤ N.length) (hcd : fd.code = .ref c) {i : Nat} (hi : i < N.length) (m : SemP) (mk : Env → Addr → NF) (hmk : ∀ env c', (mk env c').c = c') (g : Addr → SS)
    (hdef : ∀ (A : Around) (out : List Env) (s : Shared) (H : Hp) (E : XK), PS (cxOf CX0 P w K mg base N qual scope f (.ref c) A out s H E).nox st (tNdefM I.T i (mk (envOfC qual scope s.heap.objs.size f (.ref c)))))
    (hrest : ∀ (A : Around) (out : List Env) (s : Shared) (H : Hp) (E : XK) (fa c' : Addr), A.guards = some [] → Room k (A.deeper (envOfC qual scope s.heap.objs.size f (.ref c))) → PSs (cxOf CX0 P w K mg base N qual scope f (.ref c) A out s H E).nox rest (@RdSD (I.fun fa (mk (envOfC qual scope s.heap.objs.size f (.ref c)) c')) K ca (g fa)))
    (hm : ∀ ds rv, m ds = some rv → ds.length = ps.length ∧ ∃ d, rv = .sh d ∧ ∀ fa, ∃ ρ', g fa ((init N.length ps.length (ds.map .sh)).set i (some (.sh (.raw (.ref fa))))) = some (.rt (.sh d) ρ')) :
    FnG P w K mg base (k + 1) f fd ps (@spD I K ca m) := by
  letI := I
  refine fnGc F sc hcd (fun vs H Q E h => ?_) (fun A out s H vs Q E gd hr h => ?_)
  · obtain ⟨Hs, ds, d, _, r, e, _⟩ := h
    rw [r.len, (hm ds _ e).1]
  · obtain ⟨Hs, ds, d, x, r, e, n⟩ := h
    obtain ⟨hd, d', e', hg⟩ := hm ds _ e
    cases e'
    have S0 := SR.startP (N := N) x r (by rw [hd]; exact hl)
    rw [hd] at S0
    have hrest' : PSs (cxOf CX0 P w K mg base N qual scope f (.ref c) A out s H E).nox rest (fun D σ H' => ∃ fa c', @RdSD (I.fun fa (mk (envOfC qual scope s.heap.objs.size f (.ref c)) c')) K ca (g fa) D σ H') :=
      ⟨fun pins s1 σ H1 D I1 ⟨fa, c', q⟩ => (hrest A out s H E fa c' gd hr).run pins s1 σ H1 D I1 q⟩
    refine ⟨_, pss_cons (hdef A out s H E) hrest', S0.tb.1, fun fa c' H1 e1 nn T1 f0 f1 c1 => ⟨fa, c', ?_⟩⟩
    have c1' : H1 (mk (envOfC qual scope s.heap.objs.size f (.ref c)) c').c = some (CodeO (mk (envOfC qual scope s.heap.objs.size f (.ref c)) c').c (mk (envOfC qual scope s.heap.objs.size f (.ref c)) c').qual) := by
      rw [hmk]; exact c1
    have S1 := sr_ndef (i := i) S0 (by rw [start_len (by rw [r.len, hd]; exact hl)]; exact hi) e1 nn T1 f0 f1 c1'
    obtain ⟨ρ', hg'⟩ := hg fa
    exact ⟨_, _, _, d, ρ', S1, hg', fun v Hs' H' Hn e2 ⟨σ', S'⟩ nw r' => n v Hs' H' Hn (go_fun (mu := []) S') nw r'⟩
end
end Dv

/-! Fi -/
/-! Fi: calls of such defs; instances of new data. -/
namespace Dv
open PySem PySem.Spec PyProof.Rows L2 Evl LamX NdefX
variable [Nm]

def fCallD (sem : SemP) (af : AF) : PF := fun ρ => match af ρ with
  | some ds => (match sem ds with
    | some (.sh d) => some d
    | _ => none)
  | none => none
section
variable {X : Cx} {ca : CA} {e : Expr} {af : AF} {k : Nat} {C m : Str} {sem : SemP} {o : Expr} {f : PF} {pos apos p : Pos} {es : List Expr}
theorem c_pureD (h : PE X e (tCall (spD X.K ca sem) [] E0 (RdA X.K ca af))) : PE X e (RdPF X.K ca (fCallD sem af)) := PEimp h fun σ H Q q => by
  obtain ⟨F, Hs, ρ, τ, d, S, e, n⟩ := q
  unfold fCallD at e
  split at e
  · rename_i ds h1
    split at e
    · rename_i d' h2
      cases e
      refine ⟨F, Hs, ρ, τ, ds, S, h1, fun vs Hs1 H1 t1 r1 => ?_⟩
      show spD X.K ca sem (vs ++ []) H1 Q E0
      rw [List.append_nil]
      exact ⟨Hs1, ds, d, (S.go t1).bs, r1, h2, fun v Hs2 H2 Hn t2 n2 r2 => n v Hs2 H2 Hn (t1.trans t2) (n2.back t1.th) r2⟩
    · cases e
  · cases e
structure FnMD (P : Program) (w : World) (K : PySem.W.Frag) (ca : CA) (mg : Str → Option Value) (base : Heap) (C m : Str) (k : Nat) (sem : SemP) : Prop where
  cls : Cls K (ca C)
  ex : ∃ f fd, Meth K (ca C) m f ∧ FnG P w K mg base k f fd ["self"] (spD K ca sem) ∧ Binds K fd ["self"] []
def fMethD (sem : SemP) (C m : Str) (f : PF) : PF := fun ρ => match f ρ with
  | some (.ins c fs) => if c = C ∧ fs.lookup m = none then (match sem [.ins c fs] with
    | some (.sh d) => some d
    | _ => none) else none
  | _ => none
theorem x_methD {pl : Sem Bool} (F : FnMD X.prog X.w X.K ca X.mg X.base C m k sem) (gd : X.A.guards = some []) (hr : Room k X.A) (ho : PE X o (RdP X.K ca f))
    (ht : eval (.Call (.Attribute o m apos) [] [] pos) X.env = (do
      let ov ← eval o X.env
      standAt apos.atName
      let (fn, fst) ← holding [ov] (getMethod ov m pl)
      callWith pos fn fst (backTo pos (starEach [] X.env)) (backToKw pos (keywordEach [] X.env))) := by rfl) : PE X (.Call (.Attribute o m apos) [] [] pos) (RdPF X.K ca (fMethD sem C m f)) := by
  obtain ⟨g, fd, hm, G, b⟩ := F.ex
  refine PEimp (k_meth0 gd ho F.cls hm G hr b .nil ht) fun σ H Q q => ?_
  obtain ⟨F1, Hs, ρ, τ, d, S, e, n⟩ := q
  unfold fMethD at e
  split at e
  · rename_i c fs h1
    split at e
    · rename_i hc
      obtain ⟨rfl, hl⟩ := hc
      split at e
      · rename_i d' h2
        cases e
        refine RdP.intro S h1 fun v Hs1 H1 t1 r1 => ?_
        have r0 := r1
        cases r1 with
        | ins h3 h4 =>
          exact ⟨_, _, _, rfl, t1.x _ _ h3, fs_none h4 hl, Hs1, _, d, (S.go t1).bs, .one r0, h2, fun v Hs2 H2 Hn t2 n2 r2 => n v Hs2 H2 Hn (t1.trans t2) (n2.back t1.th) r2⟩
      · cases e
    · cases e
  · cases e
end
/-! ### __init__ -/
theorem putD_len (f : Str) (d : D) : ∀ l : List (Str × D), (putD f d l).length ≤ l.length + 1
  | [] => by simp [putD]
  | x :: l => by
    have := putD_len f d l
    unfold putD
    split <;> simp <;> omega
def flatF (fs : List (Str × D)) : Bool := fs.all fun d => (imm d.2).isSome
theorem flatF_rp {K : PySem.W.Frag} {ca : CA} {H H' : Hp} : ∀ {vs : List (Str × V)} {ds : List (Str × D)}, RpFs K ca H vs ds → flatF ds = true → RpFs K ca H' vs ds
  | _, _, .nil, _ => .nil
  | _, _, .cons r rr, h => by
    unfold flatF at h
    rw [List.all_cons, Bool.and_eq_true] at h
    obtain ⟨v0, hv⟩ := Option.isSome_iff_exists.mp h.1
    rw [imm_v r hv]
    exact .cons (imm_rp hv) (flatF_rp rr h.2)
/-- an __init__ that makes an instance of new data; sem: the fields -/
def spI (K : PySem.W.Frag) (ca : CA) (C : Str) (sem : List D → Option (List (Str × D))) : Sp := fun vs H Q _ => ∃ Hs a dx ws ds fs, Bs Hs H ∧ vs = .ref a :: ws ∧ Hs a = none ∧ H a = some (.ins (ca C) dx []) ∧ RpAll K ca Hs ws ds ∧ sem ds = some fs ∧
  ∀ Hs' H' Hn dx' vs', GoB a Hs H Hs' H' → H' a = some (.ins (ca C) dx' vs') → RpFs K ca Hn vs' fs → NewH H Hn Hs' → Q .non H'
abbrev IS := En → Option (List (Str × D))
def RdSI (K : PySem.W.Frag) (ca : CA) (C : Str) (g : IS) : TS := fun D σ H => ∃ F a Hs ρ fs, F.mu = [a] ∧ SR K ca F Hs H σ ρ [] ∧ g ρ = some fs ∧
  ∀ σ' Hs' H' Hn dx vs' ρ', SR K ca F Hs' H' σ' ρ' [] → Ex Hs Hs' → H' a = some (.ins (ca C) dx vs') → RpFs K ca Hn vs' fs → NewH F.H Hn Hs' → D.nx σ' H'
def iSeqI (g : SS) (h : IS) : IS := fun ρ => match g ρ with
  | some (.nx ρ') => h ρ'
  | _ => none
def iLast (C f g : Str) (i : Nat) (s : PF) : IS := fun ρ => match s ρ, ρ[i]? with
  | some (.tup [d1, d2]), some (some (.own true (.ins c fs))) => if c = C ∧ flatF fs = true ∧ fs.length < 900 then some (putD g d2 (putD f d1 fs)) else none
  | _, _ => none
section
variable {X : Cx} {ca : CA} {C f g : Str} {st : Stmt} {rest : List Stmt} {e tg : Expr} {pos : Pos}
theorem fi_seq {gs : SS} {h : IS} (h1 : PS X st (RdS X.K ca gs)) (h2 : PSs X rest (RdSI X.K ca C h)) : PSs X (st :: rest) (RdSI X.K ca C (iSeqI gs h)) := PSsimp (pss_cons h1 h2) fun D σ H q => by
  obtain ⟨F, a, Hs, ρ, fs, hmu, S, e, n⟩ := q
  unfold iSeqI at e
  split at e
  · rename_i ρ1 hg
    refine ⟨F, Hs, ρ, .nx ρ1, S, hg, fun σ' Hs' H' e1 S' => ?_⟩
    exact ⟨F, a, Hs', ρ1, fs, hmu, S', e, fun σ2 Hs2 H2 Hn dx vs' ρ2 S2 e2 => n σ2 Hs2 H2 Hn dx vs' ρ2 S2 (e1.trans e2)⟩
  · cases e
/-- one field written, told in full -/
theorem put_okE {K : PySem.W.Frag} {F : Fx} {Hs H : Hp} {σ : L2.St} {ρ : En} {τ : List (Addr × Ob)} {fl : List Str} {i : Nat} {d : D} {v : V} {b : Bool} {fs : List (Str × D)} {a dx : Addr} {vs : List (Str × V)} (c : ClsD K ca C fl) (hf : f ∈ fl) (S : SR K ca F Hs H σ ρ τ) (r : Rp K ca Hs v d)
    (h2 : ρ[i]? = some (some (.own b (.ins C fs)))) (hl : fs.length < 900) (k1 : σ[i]? = some (some (.ref a))) (k5 : H a = some (.ins (ca C) dx vs)) (k6 : RpFs K ca Hs vs fs) {Q : L2.St → Hp → Prop} (q : SR K ca F Hs (upd H a (.ins (ca C) dx (putF f v vs))) σ (ρ.set i (some (.own b (.ins C (putD f d fs))))) τ → Q σ (upd H a (.ins (ca C) dx (putF f v vs)))) :
    gFldT K (tVar i) f v σ H Q := by
  obtain ⟨a', k1', k2, k3, k4⟩ := S.ownAt h2
  rw [k1] at k1'
  cases k1'
  refine ⟨_, k1, a, _, dx, vs, rfl, k5, c.cls, c.no f hf, by rw [fs_len k6]; omega, q ?_⟩
  refine S.write h2 k1 (Ex.refl _) (fun c u hc => ?_) (fun c u hc hu _ => ?_) th_new (fun c hc _ => hc) S.nt (tb_put S.tb k5 (fun _ z => nomatch z) fun _ _ z => nomatch z) ⟨_, upd_same, .ins (put_rp r k6)⟩
  · rw [upd_ne (fun z => by rw [z, k2] at hc; cases hc)]
    exact S.ex c u hc
  · rw [upd_ne hc]
    exact hu
theorem fi_last {fl : List Str} {i : Nat} {s : PF} (c : ClsD X.K ca C fl) (hf : f ∈ fl) (hg : g ∈ fl) (hp : PS X (.Assign [tg] e pos) (tAsg (RdPF X.K ca s) (gTup X.K 2 (gCons (gFldT X.K (tVar i) f) (gCons (gFldT X.K (tVar i) g) gNil))))) : PSs X [.Assign [tg] e pos] (RdSI X.K ca C (iLast C f g i s)) := PSsimp (pss_one hp) fun D σ H q => by
  obtain ⟨F, a, Hs, ρ, fs, hmu, S, e, n⟩ := q
  unfold iLast at e
  split at e
  rotate_left
  · cases e
  rename_i d1 d2 c' fs0 h1 h2
  split at e
  rotate_left
  · cases e
  rename_i hc
  obtain ⟨rfl, hfl, hlen⟩ := hc
  cases e
  refine RdPF.intro S h1 fun v Hs1 H1 Hn t1 n1 r1 => ?_
  cases r1 with
  | tup h4 h5 =>
    cases h5 with
    | cons ra h5 =>
      cases h5 with
      | cons rb h5 =>
        cases h5
        rename_i v1 v2
        have S1 := S.go t1
        obtain ⟨a1, k1, k2, k3, k4⟩ := S1.ownAt h2
        rw [if_pos rfl, hmu] at k3
        obtain rfl := List.mem_singleton.mp k3
        obtain ⟨dx, vs, k5, k6⟩ := obi k4
        have ex := n1.ex
        refine ⟨_, _, rfl, st_of (S1.ex _ _ (ex _ _ h4)), rfl, _, _, rfl, put_okE c hf S1 (ra.mono ex) h2 hlen k1 k5 k6 fun S2 => ?_⟩
        have h2' : (ρ.set i (some (.own true (.ins c' (putD f d1 fs0)))))[i]? = some (some (.own true (.ins c' (putD f d1 fs0)))) := List.getElem?_set_self (List.getElem?_eq_some_iff.mp h2).1
        refine ⟨_, _, rfl, ?_⟩
        obtain ⟨a2, j1, j2, j3, j4⟩ := S2.ownAt h2'
        rw [k1] at j1
        cases j1
        refine ⟨_, k1, a1, _, dx, _, rfl, upd_same, c.cls, c.no g hg, by rw [fs_len (put_rp (ra.mono ex) k6)]; have := putD_len f d1 fs0; omega, ?_⟩
        have k6' := put_rp (f := f) (ra.mono ex) k6
        have S3 : SR X.K ca F Hs1 (upd (upd H1 a1 (.ins (ca c') dx (putF f v1 vs))) a1 (.ins (ca c') dx (putF g v2 (putF f v1 vs)))) σ ((ρ.set i (some (.own true (.ins c' (putD f d1 fs0))))).set i (some (.own true (.ins c' (putD g d2 (putD f d1 fs0)))))) [] := by
          refine S2.write h2' k1 (Ex.refl _) (fun b u hb => ?_) (fun b u hb hu _ => ?_) th_new (fun b hb _ => hb) S2.nt (tb_put S2.tb upd_same (fun _ z => nomatch z) fun _ _ z => nomatch z) ⟨_, upd_same, .ins (put_rp (f := g) (rb.mono ex) k6')⟩
          · rw [upd_ne (fun z => by rw [z, j2] at hb; cases hb)]
            exact S2.ex b u hb
          · rw [upd_ne hb]
            exact hu
        refine ⟨rfl, n σ Hs1 _ Hn dx _ _ S3 t1.e upd_same (put_rp (f := g) rb (put_rp (f := f) ra (flatF_rp k6 hfl))) (n1.back S.th)⟩
end
section
variable {P : Program} {w : World} {K : PySem.W.Frag} {mg : Str → Option Value} {base : Heap} {k : Nat} {f : Addr} {x qual : Str} {params : Arguments} {body : List Stmt} {scope : Scope} {dvs : List V} {kws : List (Str × V)} {fd : FuncData} {N ps : List Str} {ca : CA} {C : Str} {g : IS}
def runI (C : Str) (n m : Nat) (g : IS) : List D → Option (List (Str × D)) := fun ds => if ds.length + 1 = m then g (init n m (.own true (.ins C []) :: ds.map .sh)) else none
theorem gI (F : FunD K x qual params body scope dvs kws f fd) (sc : FnScope N ps scope) (hl : ps.length ≤ N.length)
    (hg : ∀ (cdv : Value) (A : Around) (out : List Env) (s : Shared) (H : Hp) (E : XK), A.guards = some [] → Room k (A.deeper (envOfC qual scope s.heap.objs.size f cdv)) → PSs (cxOf CX0 P w K mg base N qual scope f cdv A out s H E).nox body (RdSI K ca C g)) :
    FnG P w K mg base (k + 1) f fd ps (spI K ca C (runI C N.length ps.length g)) := by
  refine fnG F sc (fun vs H Q E h => ?_) (fun cdv A out s H vs Q E gd hr h => ⟨_, hg cdv A out s H E gd hr, ?_⟩)
  · obtain ⟨Hs, a, dx, ws, ds, fs, _, rfl, _, _, r, e, _⟩ := h
    unfold runI at e
    split at e
    · rename_i q; rw [List.length_cons, r.len, q]
    · cases e
  · obtain ⟨Hs, a, dx, ws, ds, fs, x, rfl, hn, ha, r, e, n⟩ := h
    unfold runI at e
    split at e
    rotate_left
    · cases e
    rename_i hd
    rw [← hd] at e
    have S0 := SR.startB (N := N) x r (by rw [hd]; exact hl) hn (⟨_, ha, .ins .nil⟩ : ObR K ca Hs H a (.ins C []))
    exact ⟨_, a, Hs, _, fs, rfl, S0, e, fun σ' Hs' H' Hn dx' vs' ρ' S' _ h1 h2 h3 => n Hs' H' Hn dx' vs' S'.goBOut h1 h2 h3⟩
end
structure MkD (P : Program) (w : World) (K : PySem.W.Frag) (ca : CA) (mg : Str → Option Value) (base : Heap) (C : Str) (k : Nat) (sem : List D → Option (List (Str × D))) : Prop where
  gl : mg C = some (.ref (ca C))
  ex : ∃ f fd ps j, Mk K (ca C) f ∧ j + 1 = k ∧ FnG P w K mg base j f fd ps (spI K ca C sem) ∧ Binds K fd ps []
def fMkD (C : Str) (sem : List D → Option (List (Str × D))) (af : AF) : PF := fun ρ => match af ρ with
  | some ds => (match sem ds with
    | some fs => some (.ins C fs)
    | none => none)
  | none => none
theorem x_makeD {X : Cx} {ca : CA} {k : Nat} {C : Str} {sem : List D → Option (List (Str × D))} {e : Expr} {es : List Expr} {af : AF} {pos p : Pos} (F : MkD X.prog X.w X.K ca X.mg X.base C k sem) (gd : X.A.guards = some []) (hr : Room k X.A) (hg : Gl X C) (ha : PA X (e :: es) (RdA X.K ca af))
    (hdb : (C == ("__debug__" : Str)) = false := by decide) (he : starEach (e :: es) X.env = (false, eval e X.env) :: starEach es X.env := by rfl) (hpl : (backTo pos (starEach es X.env)).any (·.1) = false := by rfl) : PE X (.Call (.Name C p) (e :: es) [] pos) (RdPF X.K ca (fMkD C sem af)) := by
  obtain ⟨f, fd, ps, j, M, hj, G, hb⟩ := F.ex
  subst hj
  refine PEimp (k_make gd M G hr hg F.gl hb ha hdb he hpl) fun σ H Q q => ?_
  obtain ⟨F1, Hs, ρ, τ, d, S, e, n⟩ := q
  unfold fMkD at e
  split at e
  rotate_left
  · cases e
  rename_i ds h1
  split at e
  rotate_left
  · cases e
  rename_i fs h2
  cases e
  refine ⟨F1, Hs, ρ, τ, ds, S, h1, fun vs Hs1 H1 t1 r1 y dx hy hdx ne => ?_⟩
  have x0 := (S.go t1).bs
  have sy := fresh_back x0.x hy
  have hy3 : upd H1 dx (.own y) y = none := by rw [upd_ne (Ne.symm ne)]; exact hy
  have sdx := fresh_back x0.x hdx
  have ex1 : Ex Hs1 (upd (upd H1 dx (.own y)) y (.ins (ca C) dx [])) := fun b o q => by
    have b1 : b ≠ y := fun z => by rw [z, sy] at q; cases q
    have b2 : b ≠ dx := fun z => by rw [z, sdx] at q; cases q
    rw [upd_ne b1, upd_ne b2]
    exact x0.x b o q
  refine ⟨Hs1, y, dx, vs ++ [], ds, fs, ⟨ex1, x0.nt, tb_new (tb_new x0.tb hdx) hy3, x0.pp⟩, rfl, sy, upd_same, by rw [List.append_nil]; exact r1, h2, fun Hs2 H2 Hn dx' vs' g h3 h4 nn => ⟨rfl, ?_⟩⟩
  have hy2 : Hs2 y = none := g.n y sy (by rw [upd_same]; exact Option.some_ne_none _)
  have ed : Ex Hs2 (upd Hs2 y (.ins (ca C) dx' vs')) := Ex.new hy2
  have th1 : ∀ b, H b ≠ none → upd (upd H1 dx (.own y)) y (.ins (ca C) dx []) b ≠ none := fun b q => th_new b (th_new b (t1.th b q))
  have h0 : H y = none := none_of_ne fun z => t1.th y z hy
  have gg : Go Hs1 H1 (upd Hs2 y (.ins (ca C) dx' vs')) H2 := ⟨g.e.trans ed, fun b o q qn => by
      have b1 : b ≠ y := fun z => by rw [z, hy] at q; cases q
      have b2 : b ≠ dx := fun z => by rw [z, hdx] at q; cases q
      exact g.k b o b1 (by rw [upd_ne b1, upd_ne b2]; exact q) qn, ex_share hy2 h3 g.x, fun b q1 q2 => by
      have b1 : b ≠ y := fun z => q2 (by rw [z]; exact hy)
      have b2 : b ≠ dx := fun z => q2 (by rw [z]; exact hdx)
      rw [upd_ne b1]
      exact g.n b q1 (by rw [upd_ne b1, upd_ne b2]; exact q2), fun b q => g.th b (th_new b (th_new b q)), fun q => (g.nt q).upd (fun _ z => nomatch z), fun q => g.tb (tb_new (tb_new q hdx) hy3)⟩
  exact n _ _ H2 (upd Hn y (.ins (ca C) dx' vs')) (t1.trans gg) ((nn.back th1).upd h0 hy2) (.ins upd_same (h4.mono (Ex.new (nn.at hy2))))
end Dv

/-! X1 -/
/-! X1: the end of the walk under guards, with tables of code objects; the head's facts, getters among them. -/
namespace Dv
open PySem PySem.Spec PyProof.Rows L2 Evl LamX

section
variable [Nm]
/-- the script, and the tables that nested defs write -/
def startT (K : PySem.W.Frag) (a : Addr) (vs : List Value) (ns : List Int) (ts : List Addr) : Hp := fun b => (startH K a vs ns b).orElse fun _ => if b ∈ ts then some (.tbl #[]) else none
section
variable {P : Program} {w : World} {K : PySem.W.Frag} {a : Addr} {vs : List Value} {ns : List Int} {s1 : Shared} {ts : List Addr}
theorem startT_at {b : Addr} {u : HO} (h : startT K a vs ns ts b = some u) : (b = a ∧ K.lookup a = none ∧ u = .frz { cls := .type "list", data := .seq vs.toArray } (.lst (ns.map V.int))) ∨ (b ∈ ts ∧ u = .tbl #[]) := by
  unfold startT at h
  cases q : startH K a vs ns b with
  | some x =>
    rw [q] at h
    cases h
    exact .inl (startH_at q)
  | none =>
    rw [q] at h
    by_cases hb : b ∈ ts
    · have e : (if b ∈ ts then some (HO.tbl #[]) else none) = some u := h
      rw [if_pos hb] at e
      cases e
      exact .inr ⟨hb, rfl⟩
    · have e : (if b ∈ ts then some (HO.tbl #[]) else none) = some u := h
      rw [if_neg hb] at e
      cases e
theorem startT_tbl {b : Addr} (hb : b ∈ ts) (hn : b ≠ a) : startT K a vs ns ts b = some (.tbl #[]) := by
  have q : startH K a vs ns b = none := by
    cases q : startH K a vs ns b with
    | none => rfl
    | some u => exact absurd (startH_at q).1 hn
  unfold startT
  rw [q]
  exact if_pos hb
theorem startT_ex : Ex (startH K a vs ns) (startT K a vs ns ts) := fun b u h => by
  unfold startT
  rw [h]
  rfl
/-- what is known of the heap in which the law begins -/
structure Began (K : PySem.W.Frag) (a : Addr) (ns : List Int) (ts : List Addr) (Hs H : Hp) : Prop where
  ex : Ex Hs H
  only : Only Hs
  sq : SqL K Hs a (ns.map V.int)
  tab : ∀ b ∈ ts, H b = some (.tbl #[])
theorem law_callTG {mg mb : Str → Option Value} {k : Nat} {fa : Addr} {fd : FuncData} {x : Str} {sp : Sp} {cs : List (Addr × Addr)} (X : K.In s1.heap) (hns : s1.heap.Ns mainGlobals mg) (hb : s1.heap.Ns builtinsNs mb) (hbb : ∀ y : Str, y ≠ "__name__" → mb y = bootBuiltins y) (nl : s1.heap.NoLimit) (hg : s1.gens = #[])
    (tabs : ∀ p ∈ cs, PySem.W.codeHdIn K p.1 p.2 = true ∧ K.lookup p.2 = none ∧ s1.heap.get? p.2 = some { cls := .none, data := .fields #[] })
    (mods : ∃ (bm : Addr) (ob : Obj), mg "__builtins__" = some (.ref bm) ∧ bm ≠ builtinsNs ∧ s1.heap.get? bm = some ob ∧ ob.cls = .type "module" ∧ ob.dict = some builtinsNs ∧ ob.data = .plain)
    (ha : s1.heap.get? a = some { cls := .type "list", data := .seq vs.toArray }) (hi : IntsAre vs ns) (hl : ns.length ≤ sizeLine) (hr : Room k callerA) (F : ∀ base : Heap, K.In base → base.Ns mainGlobals mg → (∀ p ∈ cs, TabB base mg p.1 p.2) → FnG P w K mg base k fa fd [x] sp) (bd : ∀ (s : Shared) (u : Value), BindsTo s fd ⟨[u], []⟩ [(x, u)])
    (hsp : ∀ Hs H : Hp, Began K a ns (cs.map (·.2)) Hs H → sp [.ref a] H (fun v _ => v = .bl true) fun _ _ _ => False) :
    codeAny (model P w) callerA (.call (.ref fa) ⟨[.ref a], []⟩) (fun z s' => z = .ok (.ret (.bool true)) ∧ OldK s1.heap s'.heap ∧ s'.os = s1.os ∧ AllBare s'.gens) s1 := by
  have rv := vals_ints hi
  have table : ∀ b ∈ cs.map (·.2), s1.heap.get? b = some { cls := .none, data := .fields #[] } ∧ K.lookup b = none := fun b hb => by
    obtain ⟨p, hp, rfl⟩ := List.mem_map.mp hb
    exact ⟨(tabs p hp).2.2, (tabs p hp).2.1⟩
  have other : ∀ b ∈ cs.map (·.2), b ≠ a := fun b hb z => by
    have q := (table b hb).1
    rw [z, ha] at q
    cases q
  have bg : Began K a ns (cs.map (·.2)) (startH K a vs ns) (startT K a vs ns (cs.map (·.2))) := ⟨startT_ex, startH_only, startH_sq X ha rv hl hi.length, fun b hb => startT_tbl hb (other b hb)⟩
  have ok : HOk P w (startT K a vs ns (cs.map (·.2))) s1.heap := fun b u h => by
    rcases startT_at h with ⟨rfl, _, rfl⟩ | ⟨hb, rfl⟩
    · exact ⟨ha, by rw [List.length_map]; exact hl, vs, _, rv, ha⟩
    · exact (table b hb).1
  have at_ : ∀ b u, startT K a vs ns (cs.map (·.2)) b = some u → (b = a ∧ K.lookup a = none ∧ u = .frz { cls := .type "list", data := .seq vs.toArray } (.lst (ns.map V.int))) ∨ (b ∈ cs.map (·.2) ∧ u = .tbl #[]) := fun b u h => startT_at h
  generalize startH K a vs ns = Hs at bg
  generalize startT K a vs ns (cs.map (·.2)) = H at bg ok at_
  have vis : ∀ {b : Addr} {o : Obj}, s1.heap.get? b = some o → (∀ xs n, o.data ≠ .seq xs n) → o.data ≠ .fields #[] → (hidT s1.heap H).get? b = some o := fun {b o} e n1 n2 => hidT_get e (by
    cases q : H b with
    | none => rfl
    | some u =>
      rcases at_ b u q with ⟨z, _⟩ | ⟨z, _⟩
      · rw [z, ha] at e
        cases e
        exact (n1 _ _ rfl).elim
      · rw [(table b z).1] at e
        cases e
        exact (n2 rfl).elim)
  have nsK : ∀ {b : Addr} {m : Str → Option Value}, s1.heap.Ns b m → (hidT s1.heap H).Ns b m := fun {b m} z => by
    obtain ⟨o, es, ep, e, dt, r⟩ := z
    exact ⟨o, es, ep, vis e (fun xs n y => by rw [dt] at y; cases y) (fun y => by rw [dt] at y; cases y), dt, r⟩
  have inK : K.In (hidT s1.heap H) := fun b o e => by
    cases q : H b with
    | none => exact hidT_get (X b o e) q
    | some u =>
      rcases at_ b u q with ⟨z, n, _⟩ | ⟨z, _⟩
      · rw [z, n] at e
        cases e
      · rw [(table b z).2] at e
        cases e
  have notG : ∀ {b : Addr} {o : Obj}, s1.heap.get? b = some o → (∀ es ep, o.data ≠ .dict es ep) → mainGlobals ≠ b := fun {b o} e n z => by
    obtain ⟨o', es, ep, e', dt, _⟩ := hns
    rw [z, e] at e'
    cases e'
    exact n _ _ dt
  have TB : ∀ p ∈ cs, TabB (hidT s1.heap H) mg p.1 p.2 := fun p hp => by
    obtain ⟨hh, _, hT⟩ := tabs p hp
    refine NdefX.tabB_of_K inK hh ?_ (notG hT fun es ep z => by cases z)
    obtain ⟨bm, ob, b1, b2, b3, b4, b5, b6⟩ := mods
    refine ⟨bm, ob, b1, b2, fun z => notG b3 (fun es ep y => by rw [b6] at y; cases y) z.symm, fun z => ?_, vis b3 (fun xs n y => by rw [b6] at y; cases y) (fun y => by rw [b6] at y; cases y), b4, b5, b6⟩
    rw [z, hT] at b3
    cases b3
    cases b6
  have md : Mod K mg (hidT s1.heap H) := ⟨inK, nsK hns, ⟨mb, nsK hb, hbb⟩, let ⟨mc, q1, q2⟩ := nl; ⟨mc, nsK q1, q2⟩⟩
  have e0 : Env0 P w K mg (hidT s1.heap H) callerA [] s1 H := ⟨rfl, md, fun _ _ e => of_hidT e, Nat.le_of_eq (hidT_size _ _), trivial, fun b hb => (List.not_mem_nil hb).elim, ok, .of_eq hg⟩
  refine codeAny_mono ((F _ inK (nsK hns) TB).go callerA [] s1 H ⟨[.ref a], []⟩ [.ref a] [.ref a] _ _ rfl hr e0 (bd s1 (.ref a)) (.cons rfl .nil) (hsp Hs H bg)) fun z s' h => ?_
  cases z with
  | error e => exact h.elim
  | ok fl =>
    cases fl with
    | ret u =>
      obtain ⟨v, H', os, bare, un, ok', rz, q⟩ := h
      have q : v = .bl true := q
      subst q
      cases (show u = Value.bool true from rz)
      have stays : ∀ b o, b ∉ cs.map (·.2) → s1.heap.get? b = some o → s'.heap.get? b = some o := fun b o nb e => by
        cases q : H b with
        | none => exact un.keep b o e q (fun z => (List.not_mem_nil z).elim) (by simp)
        | some u =>
          rcases at_ b u q with ⟨_, _, rfl⟩ | ⟨z, _⟩
          · obtain ⟨e1, _⟩ := ok b _ q
            obtain ⟨e2, _⟩ := ok' b _ (un.frzs b _ _ q)
            rw [e] at e1
            cases e1
            exact e2
          · exact absurd z nb
      have grows : ∀ p ∈ cs, ∃ more : Array Value, s'.heap.get? p.2 = some { cls := .none, data := .fields (#[] ++ more) } := fun p hp => by
        obtain ⟨more, z⟩ := un.tbls p.2 #[] (bg.tab p.2 (List.mem_map_of_mem hp))
        exact ⟨more, ok' p.2 _ z⟩
      refine ⟨rfl, OldK.mk (fun b o e => ?_) (fun b o e => ?_), os, bare⟩
      · by_cases hb : b ∈ cs.map (·.2)
        · obtain ⟨p, hp, rfl⟩ := List.mem_map.mp hb
          obtain ⟨hh, _, hT⟩ := tabs p hp
          obtain ⟨more, hm⟩ := grows p hp
          rw [hT] at e
          cases e
          exact .inr (.inl ⟨((PySem.W.codeHd_of_K X hh).tab hT).isCodeTable, rfl, #[], more, rfl, hm⟩)
        · exact .inl (stays b o hb e)
      · by_cases hb : b ∈ cs.map (·.2)
        · obtain ⟨p, hp, rfl⟩ := List.mem_map.mp hb
          obtain ⟨more, hm⟩ := grows p hp
          exact ⟨_, hm⟩
        · exact ⟨o, stays b o hb e⟩
    | next => exact h.elim
    | brk => exact h.elim
    | cont => exact h.elim
theorem walk_GT {l : PySem.W.OpenLaw} {n k : Nat} {q : Program} {loose : List Str} {XP : (Str → Option Value) → Heap → Prop} {YP : World → Heap → Prop} {d : DefRec} {x : Str} (hn : l.most = some n) (hn2 : n ≤ sizeLine) (hdf : d.params.defaults = []) (hr : Room k callerA)
    (F : ∀ (w : World) (mg : Str → Option Value) (fa : Addr) (h : Heap), YP w h → h.Ns mainGlobals mg → mg d.name = some (.ref fa) → ∃ (K : PySem.W.Frag) (fd : FuncData) (sp : Sp) (cs : List (Addr × Addr)), K.In h ∧ (∀ p ∈ cs, PySem.W.codeHdIn K p.1 p.2 = true ∧ K.lookup p.2 = none ∧ h.get? p.2 = some { cls := .none, data := .fields #[] }) ∧ (∀ (s : Shared) (u : Value), BindsTo s fd ⟨[u], []⟩ [(x, u)]) ∧
      (∀ (Hs H : Hp) (a : Addr) (ns : List Int), ns.length ≤ n → Began K a ns (cs.map (·.2)) Hs H → sp [.ref a] H (fun v _ => v = .bl true) fun _ _ _ => False) ∧ ∀ base : Heap, K.In base → base.Ns mainGlobals mg → (∀ p ∈ cs, TabB base mg p.1 p.2) → FnG l.prog w K mg base k fa fd [x] sp) :
    PySem.W.WalkO q loose XP YP l.row.toRowW d [] (fun f vs => PySem.call f vs) := by
  refine Att.attach_call hn hdf fun w s0 s1 mg mb fa o pm cd doc a vs ns G Y ho hd hcd hmg hobj hints hlen hg => ?_
  obtain ⟨K, fd, sp, cs, X, tabs, bd, hsp, hF⟩ := F w mg fa _ Y G.T.g hmg
  exact law_callTG X G.T.g G.T.b G.T.builtins G.T.nolimit hg tabs G.T.bmain hobj hints (Nat.le_trans hlen hn2) hr hF bd fun Hs H B => hsp Hs H a ns hlen B
end
end
/-! ### the Hook: as HeadHook4's; getters and other functions at any address told too -/
abbrev AlZ : Type := He.AlX × List He.FnW
def obsZ (n : Nat) (fa : List He.Fa) (fn : List He.DefD) (tf : List He.Defn) (ex : PySem.W.Frag → Bool) (ga : List He5.DefA) (g : Addr → Option Obj) : AlZ :=
  (He.obsX n fa fn [] tf (fun K => ex K && ga.all fun d => d.ok K) g, ga.map fun d => He5.fnA (He.frT g (He.asD g n)) (d.at_ (He.frT g (He.asD g n))))
/-- what is told -/
structure SaysZ (fa : List He.Fa) (fn : List He.DefD) (tf : List He.Defn) (ex : PySem.W.Frag → Bool) (ga : List He5.DefA) (w : World) (h : Heap) (K : PySem.W.Frag) : Prop where
  x : He.SaysX fa fn [] tf (fun K => ex K && ga.all fun d => d.ok K) w h K
  g : (ga.map fun d => He5.fnA K (d.at_ K)) = ga.map He5.DefA.val
def hookZ (n : Nat) (fa : List He.Fa) (fn : List He.DefD) (tf : List He.Defn) (ex : PySem.W.Frag → Bool) (ga : List He5.DefA) : PySem.W.Hook where
  α := AlZ
  obs := fun s => obsZ n fa fn tf ex ga s.heap.get?
  val := fun w => (He.valX fn [] w, ga.map He5.DefA.val)
  says := fun w h => ∃ K : PySem.W.Frag, K.In h ∧ SaysZ fa fn tf ex ga w h K
  of := fun _ _ e => ⟨_, He.frT_in, He.saysX_of (congrArg (fun z : AlZ => z.1) e), congrArg (fun z : AlZ => z.2) e⟩
  keeps := fun _ _ _ ⟨K, hK, c⟩ k => ⟨K, PySem.W.Frag.In.keeps hK k, ⟨c.x.t, c.x.more, c.x.hd, c.x.out, fun p hp => k _ _ (c.x.empty p hp)⟩, c.g⟩
theorem obsZ_eq {n : Nat} {fa : List He.Fa} {fn : List He.DefD} {tf : List He.Defn} {ex : PySem.W.Frag → Bool} {ga : List He5.DefA} {g : Addr → Option Obj} {s : Shared} (h : ∀ a, g a = s.heap.get? a) : obsZ n fa fn tf ex ga g = (hookZ n fa fn tf ex ga).obs s := by
  rw [funext h]
  rfl
section
variable {fa : List He.Fa} {fn : List He.DefD} {tf : List He.Defn} {ex : PySem.W.Frag → Bool} {ga : List He5.DefA} {w : World} {h : Heap} {K : PySem.W.Frag}
theorem SaysZ.extra (c : SaysZ fa fn tf ex ga w h K) : ex K = true := (He.ba c.x.more).1
theorem SaysZ.get (c : SaysZ fa fn tf ex ga w h K) (i : Nat) {d : He5.DefA} (hd : ga[i]? = some d := by rfl) : ∃ fd, FunD K d.name d.qual d.params d.body d.scope (d.dvs K) (d.kws K) (d.at_ K) fd := by
  have e2 : (ga.map fun d => He5.fnA K (d.at_ K))[i]? = (ga.map He5.DefA.val)[i]? := by rw [c.g]
  rw [List.getElem?_map, List.getElem?_map, hd] at e2
  exact He5.DefA.funD (Option.some.inj e2) (List.all_eq_true.mp (He.ba c.x.more).2 d (List.mem_of_getElem? hd))
end
end Dv

/-! X2 -/
/-! X2: promises by names, put together; what a class is known by. -/
namespace Dv
open PySem PySem.Spec PyProof.Rows L2 Evl LamX
section
variable {P : Program} {w : World} {K : PySem.W.Frag} {ca : CA} {mg : Str → Option Value} {base : Heap} {x C m : Str} {j k : Nat} {ps ks : List Str} {is : List Nat} {sp : Sp} {sem : SemP} {semI : List D → Option (List (Str × D))}
variable [Nm]
theorem FnE.up (F : FnE P w K mg base x j ps sp) (h : j ≤ k) : FnE P w K mg base x k ps sp := by
  obtain ⟨⟨fd, G, b⟩, kp, gl⟩ := F
  exact ⟨⟨fd, G.up h, b⟩, kp, gl⟩
theorem FnK.up (F : FnK P w K mg base x j ps ks is sp) (h : j ≤ k) : FnK P w K mg base x k ps ks is sp := by
  obtain ⟨⟨fd, G, b⟩, kp, gl⟩ := F
  exact ⟨⟨fd, G.up h, b⟩, kp, gl⟩
theorem FnM.up (F : FnM P w K ca mg base C m j sem) (h : j ≤ k) : FnM P w K ca mg base C m k sem := by
  obtain ⟨cl, f, fd, M, G, b⟩ := F
  exact ⟨cl, f, fd, M, G.up h, b⟩
theorem FnMD.up (F : FnMD P w K ca mg base C m j sem) (h : j ≤ k) : FnMD P w K ca mg base C m k sem := by
  obtain ⟨cl, f, fd, M, G, b⟩ := F
  exact ⟨cl, f, fd, M, G.up h, b⟩
theorem FnPr.up (F : FnPr P w K ca mg base C m j sem) (h : j ≤ k) : FnPr P w K ca mg base C m k sem := by
  obtain ⟨cl, pg, f, fd, i, M, hi, G, b⟩ := F
  exact ⟨cl, pg, f, fd, k - 1, M, by omega, G.up (by omega), b⟩
theorem EqC.up (F : EqC P w K ca mg base C j sem) (h : j ≤ k) : EqC P w K ca mg base C k sem := by
  obtain ⟨⟨f, fd, a, b, G, bd⟩, t⟩ := F
  exact ⟨⟨f, fd, a, b, G.up h, bd⟩, t⟩
theorem MkP.up (F : MkP P w K ca mg base C j sem) (h : j ≤ k) : MkP P w K ca mg base C k sem := by
  obtain ⟨gl, f, fd, ps, i, b, M, hi, G, bd, e⟩ := F
  exact ⟨gl, f, fd, ps, k - 1, b, M, by omega, G.up (by omega), bd, e⟩
theorem MkD.up (F : MkD P w K ca mg base C j semI) (h : j ≤ k) : MkD P w K ca mg base C k semI := by
  obtain ⟨gl, f, fd, ps, i, M, hi, G, bd⟩ := F
  exact ⟨gl, f, fd, ps, k - 1, M, by omega, G.up (by omega), bd⟩
theorem MkK.up (F : MkK P w K ca mg base C j ks is sem) (h : j ≤ k) : MkK P w K ca mg base C k ks is sem := by
  obtain ⟨gl, f, fd, ps, i, b, M, hi, G, bd, e⟩ := F
  exact ⟨gl, f, fd, ps, k - 1, b, M, by omega, G.up (by omega), bd, e⟩
end
section
variable {K : PySem.W.Frag} {x qual : Str} {params : Arguments} {body : List Stmt} {scope : Scope} {kws : List (Str × V)} {f : Addr} {fd : FuncData} {ps ks : List Str} {is : List Nat}
/-- called by keywords alone -/
theorem kb_of [Nm] (F : FunD K x qual params body scope [] kws f fd) (hp : ps ≠ [])
    (h : ∀ (kV doc pm : Value) (an : Option Addr) (cdv ct : Value) (ws : List Value), (pick is ws).length = ps.length → bindArgs (PySem.W.fnOf x qual params body scope .none kV doc pm an cdv ct) ⟨[], ks.zip ws⟩ = pure (ps.zip (pick is ws))) : KBinds K fd ps ks (kwOnly is) (kwOnly is) := by
  obtain ⟨oc, od, dV, kV, doc, pm, an, cdv, ct, osl, rfl, lk, hcd, hD, hK⟩ := F.ex
  rcases hD with ⟨_, rfl⟩ | ⟨e, _⟩
  · refine ⟨fun s us ws _ hl => ?_, fun r1 r2 => ?_⟩
    · cases us with
      | nil => exact .of_eq (h kV doc pm an cdv ct ws hl)
      | cons u us =>
        have hl : ([] : List Value).length = ps.length := hl
        exact absurd (List.length_eq_zero_iff.mp hl.symm) hp
    · cases r1 with
      | nil => exact pick_rel is r2
      | cons _ _ => exact .nil
  · exact absurd rfl e
/-- an instance made by keywords alone -/
theorem mkb_of (F : FunD K x qual params body scope [] kws f fd)
    (h : ∀ (kV doc pm : Value) (an : Option Addr) (cdv ct y : Value) (ws : List Value), (y :: pick is ws).length = ps.length → bindArgs (PySem.W.fnOf x qual params body scope .none kV doc pm an cdv ct) ⟨[y], ks.zip ws⟩ = pure (ps.zip (y :: pick is ws))) :
    ∀ (s2 : Shared) (y : Value) (ws : List Value), K.In s2.heap → (y :: pick is ws).length = ps.length → BindsTo s2 fd ⟨[y], ks.zip ws⟩ (ps.zip (y :: pick is ws)) := by
  obtain ⟨oc, od, dV, kV, doc, pm, an, cdv, ct, osl, rfl, lk, hcd, hD, hK⟩ := F.ex
  rcases hD with ⟨_, rfl⟩ | ⟨e, _⟩
  · exact fun s2 y ws _ hl => .of_eq (h kV doc pm an cdv ct y ws hl)
  · exact absurd rfl e
theorem codeAt {p : He.Defn} {dvs : List V} (F : FunD K x qual params body scope dvs kws (He.fAd K p) fd) : fd.code = .ref (He.cT K p).1 := by
  obtain ⟨oc, od, dV, kV, doc, pm, an, cdv, ct, osl, rfl, lk, hcd, _, _⟩ := F.ex
  obtain ⟨c, rfl⟩ := He.codeIn_ref hcd
  have := He.codeOf_eq (p := p) lk (c := c) rfl
  show Value.ref c = .ref (He.codeOf K p)
  rw [this]
end
/-! ### a class's facts, as Bools -/
def propB (K : PySem.W.Frag) (C m : Str) : Bool := He.eqO (PySem.W.findIn K (.ref (He.ga K C)) m) (some (some (.ref (He.ma K (He.ga K C) m)))) && (He.eqO (PySem.W.specialIn K (.ref (He.ma K (He.ga K C) m)) "__get__") (some (some (.builtin "property.__get__"))) && (decide (PySem.W.takesIn K (.ref (He.ma K (He.ga K C) m)) = some true) && (match PySem.W.recIn K (He.ma K (He.ga K C) m) "property" with
  | some (.ref _ :: _) => true
  | _ => false)))
theorem propB_ok {K : PySem.W.Frag} {C m : Str} (h : propB K C m = true) : PropOf K (He.ga K C) m (He.ma K (He.ga K C) m) (He5.wf K (He.ga K C) "property" m) := by
  obtain ⟨h1, h⟩ := He.ba h
  obtain ⟨h2, h⟩ := He.ba h
  obtain ⟨h3, h4⟩ := He.ba h
  refine ⟨He.eqO_ok h1, He.eqO_ok h2, of_decide_eq_true h3, ?_⟩
  unfold He5.wf
  split at h4
  · rename_i f r e
    exact ⟨r, by rw [e]⟩
  · cases h4
def kitNames : List String := ["NoneType", "bool", "int", "str", "list", "tuple", "dict"]
def icB (K : PySem.W.Frag) (C : Str) : Bool := He.eqO (PySem.W.findIn K (.ref (He.ga K C)) "__class__") (some (some (.builtin "object.__class__"))) && (He.eqO (PySem.W.specialIn K (.builtin "object.__class__") "__get__") (some (some (.builtin "getset_descriptor.__get__"))) && (decide (PySem.W.takesIn K (.builtin "object.__class__") = some true) && (decide (PySem.W.mroIn K (He.ga K C) (.type "object") = some true) && kitNames.all fun t => decide (PySem.W.kitOne K (.type t) (.ref (He.ga K C)) = some false))))
theorem icB_ok {K : PySem.W.Frag} {mg : Str → Option Value} {C : Str} (h : icB K C = true) (gl : mg C = some (.ref (He.ga K C))) (cl : Cls K (He.ga K C)) : IsC K (fun x => He.ga K x) mg C := by
  obtain ⟨h1, h⟩ := He.ba h
  obtain ⟨h2, h⟩ := He.ba h
  obtain ⟨h3, h⟩ := He.ba h
  obtain ⟨h4, h5⟩ := He.ba h
  exact ⟨gl, cl, He.eqO_ok h1, He.eqO_ok h2, of_decide_eq_true h3, of_decide_eq_true h4, fun t ht => of_decide_eq_true (List.all_eq_true.mp h5 t ht)⟩
def eqB (K : PySem.W.Frag) (C : Str) : Bool := decide (PySem.W.subIn K (.type "tuple") (.ref (He.ga K C)) = some false)
theorem eqB_ok {K : PySem.W.Frag} {C : Str} (h : eqB K C = true) : PySem.W.subIn K (.type "tuple") (.ref (He.ga K C)) = some false := of_decide_eq_true h
end Dv

/-! RA -/
namespace Dv
noncomputable section
open NdefX PySem PySem.Spec PyProof.Rows L2 Evl LamX
variable [Nm]
/-! from G4 -/
def n_numbered : List Str := ["marks", "numbers", "mark"]
/-! from G5 -/
def n_lead : List Str := ["state", "letter", "steps"]
def g_lead : SS := gRet (sP (fOp gIx (fOp gIx (fVar 2) (fVar 0)) (fVar 1)))
def m_lead : SemP := runP 3 3 g_lead
def n_explored : List Str := ["begin", "letters", "lead", "what", "limit", "places", "keys", "steps", "row", "letter", "after"]
def g_explored (fa : Addr) (lsem : SemP) (cds : List D) : SS := (gSeq (gPar [5, 6, 7] [.N (nDic1 (fShr 0) (fC (.int 0))), .N (nLstI (saCons (sFrz 0) saNil)), .N (nLstI saNil)]) (gSeq (gWh (tB' (fOp gLt (fCb gLen (aCons (fVar 7) aNil)) (fCb gLen (aCons (fVar 6) aNil)))) (gSeq (gSetN 8 (nLstI saNil)) (gSeq (gFor (iRange (fShr 1)) (.nm 9) (gSeq (gSet 10 (sP (fCallV 2 fa (semC lsem cds 2) (aCons (fOp gIx (fVar 6) (fCb gLen (aCons (fVar 7) aNil))) (aCons (fShr 9) aNil))))) (gSeq (gIf (sT (tB' (fOp gNiD (fShr 10) (fVar 5)))) (gSeq (gPutD 5 (fShr 10) (fCb gLen (aCons (fVar 6) aNil))) (gApp 6 (sFrz 10))) gNil') (gApp 8 (sP (fOp gGetD (fVar 5) (fShr 10))))))) (gSeq (gApp 7 (sFrz 8)) (gIf (sT (tAn (tB' (fOp gIsNot (fVar 4) (fC .non))) (tB' (fOp gGt (fCb gLen (aCons (fVar 6) aNil)) (fVar 4))))) gNever gNil'))))) (gRet (sTup (saCons (sFrz 6) (saCons (sFrz 7) saNil))))))
def m_explored (fa : Addr) (cds : List D) : SemP := runP 11 5 (g_explored fa m_lead cds)
/-! from G6 -/
def n_least_form : List Str := ["letters", "steps", "ends", "lead", "stops", "states", "rows", "blocks", "many", "firsts", "least_steps", "state", "at", "row", "after", "block", "first"]
def g_least_form (fa : Addr) : SS := (gSeq (gSetN 4 (nDc (iSeq (fVar 2)) (.nm 11) (fShr 11) (fC (.bl true)) [11])) (gSeq (gTgt (.tp [5, 6]) (sP (fCallC [1] (fun cs ds => m_explored fa cs (ds ++ [.non, .non])) (aCons (fC (.int 0)) (aCons (fShr 0) (aCons (fShr 3) aNil)))))) (gSeq (gPar [7, 8] [.I (sP (fCall semNumd (aCons (fLc (iSeq (fVar 5)) (.nm 11) tYs (fOp gInD (fShr 11) (fVar 4)) [11]) aNil))), .I (sP (fC (.int 0)))]) (gSeq (gWh (tB' (fOp gNeA (fVar 8) (fOp gAdd (fCb gMaxL (aCons (fVar 7) aNil)) (fC (.int 1))))) (gSeq (gSet 8 (sP (fOp gAdd (fCb gMaxL (aCons (fVar 7) aNil)) (fC (.int 1))))) (gSeq (gIf (sT (tB' (fOp gGt (fVar 8) (fC (.int 60))))) gNever gNil') (gSet 7 (sP (fCall semNumd (aCons (fLc (iEn (fVar 6)) (.tp [12, 13]) tYs (fTup (aCons (fOp gIx (fVar 7) (fVar 12)) (aStar (fLc (iSeq (fVar 13)) (.nm 14) tYs (fOp gIx (fVar 7) (fVar 14)) [14]) aNil))) [12, 13]) aNil))))))) (gSeq (gSet 9 (sP (fLc (iRange (fShr 8)) (.nm 15) tYs (fMt gIdxL (fVar 7) (aCons (fVar 15) aNil)) [15]))) (gSeq (gSet 10 (sP (fLc (iSeq (fVar 9)) (.nm 16) tYs (fLc (iSeq (fOp gIx (fVar 6) (fVar 16))) (.nm 14) tYs (fOp gIx (fVar 7) (fVar 14)) [14]) [16]))) (gRet (sP (fTup (aCons (fShr 10) (aCons (fLc (iEn (fVar 9)) (.tp [15, 16]) (tB' (fOp gInD (fOp gIx (fVar 5) (fVar 16)) (fVar 4))) (fShr 15) [15, 16]) aNil)))))))))))
/-! from G6b -/
def g_lfD (fa : Addr) : SS := (gSeqD (gSetN 4 (nDc (iSeq (fVar 2)) (.nm 11) (fShr 11) (fC (.bl true)) [11])) (gSeqD (gTgt (.tp [5, 6]) (sP (fCallC [1] (fun cs ds => m_explored fa cs (ds ++ [.non, .non])) (aCons (fC (.int 0)) (aCons (fShr 0) (aCons (fShr 3) aNil)))))) (gSeqD (gPar [7, 8] [.I (sP (fCall semNumd (aCons (fLc (iSeq (fVar 5)) (.nm 11) tYs (fOp gInD (fShr 11) (fVar 4)) [11]) aNil))), .I (sP (fC (.int 0)))]) (gSeqD (gWh (tB' (fOp gNeA (fVar 8) (fOp gAdd (fCb gMaxL (aCons (fVar 7) aNil)) (fC (.int 1))))) (gSeq (gSet 8 (sP (fOp gAdd (fCb gMaxL (aCons (fVar 7) aNil)) (fC (.int 1))))) (gSeq (gIf (sT (tB' (fOp gGt (fVar 8) (fC (.int 60))))) gNever gNil') (gSet 7 (sP (fCall semNumd (aCons (fLc (iEn (fVar 6)) (.tp [12, 13]) tYs (fTup (aCons (fOp gIx (fVar 7) (fVar 12)) (aStar (fLc (iSeq (fVar 13)) (.nm 14) tYs (fOp gIx (fVar 7) (fVar 14)) [14]) aNil))) [12, 13]) aNil))))))) (gSeqD (gSet 9 (sP (fLc (iRange (fShr 8)) (.nm 15) tYs (fMt gIdxL (fVar 7) (aCons (fVar 15) aNil)) [15]))) (gSetRet 10 (fLc (iSeq (fVar 9)) (.nm 16) tYs (fLc (iSeq (fOp gIx (fVar 6) (fVar 16))) (.nm 14) tYs (fFl (fOp gIx (fVar 7) (fVar 14))) [14]) [16]) (fLc (iEn (fVar 9)) (.tp [15, 16]) (tB' (fOp gInD (fOp gIx (fVar 5) (fVar 16)) (fVar 4))) (fFl (fShr 15)) [15, 16])))))))
/-! from G7 -/
/-- a def whose reading doesn't lean on where the local function stands -/
def indSem (g : Addr → SS) (n m i : Nat) : SemP := fun ds => open Classical in if h : ds.length = m ∧ ∃ d, ∀ fa, ∃ ρ', g fa ((init n m (ds.map .sh)).set i (some (.sh (.raw (.ref fa))))) = some (.rt (.sh d) ρ') then some (.sh (choose h.2)) else none
omit [Nm] in
theorem indSem_hm {g : Addr → SS} {n m i : Nat} : ∀ ds rv, indSem g n m i ds = some rv → ds.length = m ∧ ∃ d, rv = .sh d ∧ ∀ fa, ∃ ρ', g fa ((init n m (ds.map .sh)).set i (some (.sh (.raw (.ref fa))))) = some (.rt (.sh d) ρ') := fun ds rv h => by
  unfold indSem at h
  split at h
  · rename_i c
    cases h
    exact ⟨c.1, _, rfl, Classical.choose_spec c.2⟩
  · cases h
omit [Nm] in
theorem indSem_eq {g : Addr → SS} {n m i : Nat} {ds : List D} {d : D} (hl : ds.length = m) (h : ∀ fa, ∃ ρ', g fa ((init n m (ds.map .sh)).set i (some (.sh (.raw (.ref fa))))) = some (.rt (.sh d) ρ')) : indSem g n m i ds = some (.sh d) := by
  unfold indSem
  have c : ds.length = m ∧ ∃ d, ∀ fa, ∃ ρ', g fa ((init n m (ds.map .sh)).set i (some (.sh (.raw (.ref fa))))) = some (.rt (.sh d) ρ') := ⟨hl, d, h⟩
  rw [dif_pos c]
  obtain ⟨ρ1, e1⟩ := Classical.choose_spec c.2 0
  obtain ⟨ρ2, e2⟩ := h 0
  rw [e1] at e2
  cases e2
  rfl
def m_least_form : SemP := indSem g_lfD 17 3 3
omit [Nm] in
/-- new data is data -/
theorem spD_of {I : Nm} {P : Program} {w : World} {K : PySem.W.Frag} {ca : CA} {mg : Str → Option Value} {base : Heap} {k : Nat} {f : Addr} {fd : FuncData} {ps : List Str} {sem : SemP} (hs : ∀ ds rv, sem ds = some rv → ∃ d, rv = .sh d) (G : FnG P w K mg base k f fd ps (@spD I K ca sem)) : FnG P w K mg base k f fd ps (@spP I K ca sem) :=
  G.wk fun vs H Q E h => by
    obtain ⟨Hs, ds, rv, x, r, e, n⟩ := h
    obtain ⟨d, rfl⟩ := hs ds rv e
    exact ⟨Hs, ds, d, x, r, e, fun v Hs' H' Hn t nn rr => n v Hs' H' t (rr.mono (NewH.ex nn))⟩
omit [Nm] in
theorem least_form_sh : ∀ ds rv, m_least_form ds = some rv → ∃ d, rv = .sh d := fun ds rv h => by
  obtain ⟨_, d, e, _⟩ := indSem_hm ds rv h
  exact ⟨d, e⟩
/-! from G8 -/
def n_cop : List Str := ["_law_machine_here", "_law_letters", "_law_told", "_law_least_here", "_law_steps", "_law_ends", "_law_other", "_law_row"]
def f1_cop : PF := fLc (iSeq (fOp gIx (fVar 0) (fC (.int 0)))) (.nm 7) tYs (fListF (fVar 7)) [7]
def f2_cop : PF := fListF (fOp gIx (fVar 0) (fC (.int 1)))
def fm_cop (semI : List D → Option (List (Str × D))) : PF := fMkD "Machine" semI (aCons (fShr 1) (aCons (fShr 4) (aCons (fShr 5) aNil)))
def fs_cop (sem : SemP) (m : Str) : PF := fMethD sem "Machine" m (fShr 6)
def fz_cop (m_law_is m_eq : SemP) : PF := fAn (fCall m_law_is (aCons (fShr 6) (aCons (fShr 1) (aCons (fShr 3) aNil)))) (fOp (gEqO "Machine" m_eq) (fShr 6) (fShr 2))
def tCop (K : PySem.W.Frag) (ca : CA) (semI : List D → Option (List (Str × D))) (semS semE m_law_is m_eq : SemP) : TS :=
  tSeq (tPar 4 5 (tCons (RdPF K ca f1_cop) (tCons (RdPF K ca f2_cop) tNil)))
  (tSeq (tAsg (RdPF K ca (fm_cop semI)) (gName 6))
  (tSeq (tAsg (tC .non) (L2.gSub (tOp (rIx K) (tVar 4) (tC (.int 0))) (tC (.int 0)) rSetL))
  (tSeq (tDrop (tBM K "list" rAppend (tVar 5) (tCons (tC (.int 99)) tNil)))
  (tSeq (tDrop (tBM K "list" rAppend (RdPF K ca (fs_cop semS "steps")) (tCons (tLst tNil) tNil)))
  (tSeq (tFor (iList K (RdPF K ca (fs_cop semS "steps"))) (gName 7) (tDrop (tBM K "list" rAppend (tVar 7) (tCons (tC (.int 7)) tNil))))
  (tSeq (tDrop (tBM K "list" rAppend (RdPF K ca (fs_cop semE "ends")) (tCons (tC (.int 7)) tNil)))
  (tRet (RdP K ca (fz_cop m_law_is m_eq)))))))))
/-! from G9 -/
/-- behind writes of what is new: Hm stands, what stood in H0 stands -/
structure Cv (Hm H0 H : Hp) : Prop where
  x : Ex Hm H
  k : ExtN H0 H
  th : ∀ b, H0 b ≠ none → H b ≠ none
  tb : Tb H
section
variable {Hm H0 H Hs' H' : Hp} {a p : Addr} {xs ys : List V} {u : HO}
theorem Cv.go (c : Cv Hm H0 H) (t : Go Hm H Hs' H') : Cv Hm H0 H' := ⟨t.e.trans t.x, c.k.trans t.k, fun b h => t.th b (c.th b h), t.tb c.tb⟩
theorem Cv.put (c : Cv Hm H0 H) (h : H a = some (.lst xs)) (h0 : H0 a = none) (hm : Hm a = none) : Cv Hm H0 (upd H a (.lst ys)) :=
  ⟨fun b o q => by rw [upd_ne (fun z => by rw [z, hm] at q; cases q)]; exact c.x b o q, fun b o q n => by rw [upd_ne (fun z => by rw [z, h0] at q; cases q)]; exact c.k b o q n, fun b q => th_new b (c.th b q), tb_put c.tb h nt_lst fun _ _ z => nomatch z⟩
theorem Cv.new (c : Cv Hm H0 H) (h : H p = none) : Cv Hm H0 (upd H p u) :=
  ⟨c.x.trans (Ex.new h), fun b o q n => (Ex.new h) _ _ (c.k b o q n), fun b q => th_new b (c.th b q), tb_new c.tb h⟩
theorem Cv.none (c : Cv Hm H0 H) (h : H p = none) : H0 p = none ∧ Hm p = none := ⟨none_of_ne fun z => c.th p z h, fresh_back c.x h⟩
end
theorem atI0 {α : Type} (x : α) (l : List α) : atI (x :: l) 0 = some x := by unfold atI ixN; simp
theorem ixN0 (n : Nat) : ixN (n + 1) 0 = some 0 := by unfold ixN; simp
/-- the rows of a new list of lists -/
def rowsF (ms : List D) : Bool := ms.all fun d => match d with
  | .lst is => flatD is && decide (is.length ≤ 1000)
  | _ => false
theorem rowsF_rp {K : PySem.W.Frag} {ca : CA} {H : Hp} : ∀ {ws : List V} {ms : List D}, RpAll K ca H ws ms → rowsF ms = true → ∀ (i : Nat) (w : V), ws[i]? = some w → ∃ b xs is, w = .ref b ∧ H b = some (.lst xs) ∧ RpAll K ca H xs is ∧ flatD is = true ∧ xs.length ≤ 1000
  | _, _, .nil, _, i, w, h => by simp at h
  | _, _, .cons (d := d) r rr, hr, i, w, h => by
    unfold rowsF at hr
    rw [List.all_cons, Bool.and_eq_true] at hr
    cases i with
    | zero =>
      simp at h
      subst h
      cases d with
      | lst is =>
        obtain ⟨h1, h2⟩ := hr
        rw [Bool.and_eq_true] at h1
        cases r with
        | lst h3 h4 => exact ⟨_, _, is, rfl, h3, h4, h1.1, by rw [h4.len]; exact of_decide_eq_true h1.2⟩
      | _ => exact absurd hr.1 Bool.false_ne_true
    | succ i => exact rowsF_rp rr hr.2 i w (by simpa using h)
/-- no row of new flat rows is the list of rows -/
theorem flat_noref {K : PySem.W.Frag} {ca : CA} {H : Hp} {b : Addr} : ∀ {xs : List V} {is : List D}, RpAll K ca H xs is → flatD is = true → V.ref b ∉ xs
  | _, _, .nil, _, h => by cases h
  | _, _, .cons r rr, hf, h => by
    unfold flatD at hf
    rw [List.all_cons, Bool.and_eq_true] at hf
    rcases List.mem_cons.mp h with z | z
    · obtain ⟨v0, hv⟩ := Option.isSome_iff_exists.mp hf.1
      have := imm_v r hv
      rw [← z] at this
      subst this
      cases r <;> simp [imm] at hv
    · exact flat_noref rr hf.2 z
def rhoCop (ds : List D) (v4 v5 : V) (fs : List (Str × D)) : En := (((init 8 4 (ds.map .sh)).set 4 (some (.sh (.raw v4)))).set 5 (some (.sh (.raw v5)))).set 6 (some (.sh (.ins "Machine" fs)))
theorem cop_ok {K : PySem.W.Frag} {ca : CA} {semI : List D → Option (List (Str × D))} {semS semE m_law_is m_eq : SemP} {Hs H : Hp} {vs : List V} {ds es ms ee : List D} {r0 : List D} {rt : List D} {fs : List (Str × D)} {b : Bool} {Q : VK} {nx bk ct : L2.St → Hp → Prop}
    (x : Bs Hs H) (r : RpAll K ca Hs vs ds) (hl : ds.length = 4) (h1 : f1_cop (init 8 4 (ds.map .sh)) = some (.lst (.lst r0 :: rt))) (hr0 : r0 ≠ []) (h2 : f2_cop (init 8 4 (ds.map .sh)) = some (.lst es)) (hes : es.length ≤ 1000)
    (h3 : fm_cop semI (((init 8 4 (ds.map .sh)).set 4 (some (.sh (.lst (.lst r0 :: rt))))).set 5 (some (.sh (.lst es)))) = some (.ins "Machine" fs))
    (h4 : semS [.ins "Machine" fs] = some (.sh (.lst ms))) (hms : rowsF ms = true) (hml : ms.length ≤ 1000) (h5 : semE [.ins "Machine" fs] = some (.sh (.lst ee))) (hee : ee.length ≤ 1000) (h6 : fs.lookup ("steps" : Str) = none ∧ fs.lookup ("ends" : Str) = none)
    (h7 : ∀ v4 v5, fz_cop m_law_is m_eq (rhoCop ds v4 v5 fs) = some (.bl b))
    (n : ∀ v Hs' H', Go Hs H Hs' H' → Rp K ca Hs' v (.bl b) → Q v H') :
    tCop K ca semI semS semE m_law_is m_eq { nx := nx, bk := bk, ct := ct, rt := Q } (L2.start n_cop vs) H := by
  have hN : n_cop.length = 8 := rfl
  have S0 : SR K ca ⟨Hs, H, []⟩ Hs H (L2.start n_cop vs) (init 8 4 (ds.map .sh)) [] := by
    have := SR.startP (N := n_cop) x r (by rw [hl]; decide)
    rw [hN, hl] at this
    exact this
  have hσ : (L2.start n_cop vs).length = 8 := by rw [start_len (by rw [r.len, hl]; decide)]; rfl
  -- the copies
  refine RdPF.intro S0 h1 fun v4 Hs1 H1 Hn1 t1 n1 r1 => ?_
  refine RdPF.intro (S0.go t1) h2 fun v5 Hs2 H2 Hn2 t2 n2 r2 => ?_
  refine ⟨v4, v5, rfl, ?_⟩
  have t12 := t1.trans t2
  have S2 := ((S0.go t12).setS (i := 4) (by rw [hσ]; decide) (r1.mono (n1.ex.trans t2.e))).setS (i := 5) (by rw [List.length_set, hσ]; decide) (r2.mono n2.ex)
  -- the machine
  refine RdPF.intro S2 h3 fun v6 Hs3 H3 Hn3 t3 n3 r3 => ?_
  have t03 := t12.trans t3
  let Hm : Hp := uni Hs Hn3
  have xm : Ex Hm Hs3 := fun c o q => by
    show Hs3 c = some o
    have q' : (uni Hs Hn3) c = some o := q
    unfold uni at q'
    split at q'
    · rename_i u hu; cases q'; exact t03.e _ _ hu
    · exact (n3 c o q').2
  have bm : Bs Hm H3 := ⟨xm.trans t03.x, fun c o q => t03.nt x.nt c o (xm c o q), t03.tb x.tb, Nm.pm uni_l x.pp⟩
  have c3 : Cv Hm H H3 := ⟨bm.x, t03.k, t03.th, bm.tb⟩
  have rm : RpAll K ca Hm vs ds := r.mono uni_l
  have r6 : Rp K ca Hm v6 (.ins "Machine" fs) := r3.mono fun c o q => by
    show (uni Hs Hn3) c = some o
    unfold uni
    split
    · rename_i u hu
      have e1 := t03.e _ _ hu
      rw [(n3 c o q).2] at e1
      exact e1.symm
    · exact q
  -- a state over Hm
  have mk : ∀ H', Cv Hm H H' → SR K ca ⟨Hm, H', []⟩ Hm H' ((((L2.start n_cop vs).set 4 (some v4)).set 5 (some v5)).set 6 (some v6)) (rhoCop ds v4 v5 fs) [] := fun H' c => by
    have S' : SR K ca ⟨Hm, H', []⟩ Hm H' (L2.start n_cop vs) (init 8 4 (ds.map .sh)) [] := by
      have := SR.startP (N := n_cop) (⟨c.x, bm.nt, c.tb, bm.pp⟩ : Bs Hm H') rm (by rw [hl]; decide)
      rw [hN, hl] at this
      exact this
    exact ((S'.setS (i := 4) (by rw [hσ]; decide) (.raw v4)).setS (i := 5) (by rw [List.length_set, hσ]; decide) (.raw v5)).setS (i := 6) (by rw [List.length_set, List.length_set, hσ]; decide) r6
  have g6 : ∀ v4 v5, fShr 6 (rhoCop ds v4 v5 fs) = some (.ins "Machine" fs) := fun v4 v5 => by
    unfold fShr rhoCop
    rw [List.getElem?_set_self]
    rw [List.length_set, List.length_set]
    unfold init
    rw [List.length_append, List.length_map, List.length_map, List.length_replicate, hl]
    decide
  have g4 : ((((L2.start n_cop vs).set 4 (some v4)).set 5 (some v5)).set 6 (some v6))[4]? = some (some v4) := by simp [List.getElem?_set, hσ]
  have g5 : ((((L2.start n_cop vs).set 4 (some v4)).set 5 (some v5)).set 6 (some v6))[5]? = some (some v5) := by simp [List.getElem?_set, hσ]
  have ρ7 : (rhoCop ds v4 v5 fs)[7]? = some none := by
    unfold rhoCop init
    simp [List.getElem?_set, List.getElem?_append, hl]
  have mk2 : ∀ (σ' : L2.St) H', Cv Hm H H' → σ'.length = 8 → (∀ j, j ≠ 7 → σ'[j]? = ((((L2.start n_cop vs).set 4 (some v4)).set 5 (some v5)).set 6 (some v6))[j]?) → SR K ca ⟨Hm, H', []⟩ Hm H' σ' (rhoCop ds v4 v5 fs) [] := fun σ' H' c hlen h =>
    (mk H' c).weak (by rw [hlen]; unfold rhoCop init; simp [hl]) fun j z q => ⟨q, h j fun e => by rw [e, ρ7] at q; cases q⟩
  -- row 0, the ends
  cases r1 with
  | lst k1 k2 =>
    rename_i as ws
    cases k2 with
    | cons q0 qr =>
      cases q0 with
      | lst k3 k4 =>
        rename_i vr a0 x0
        have i1 : Hn1 as = some (.lst (.ref a0 :: vr)) := k1
        have i2 : Hn1 a0 = some (.lst x0) := k3
        have e1s : H3 as = some (.lst (.ref a0 :: vr)) := t3.x _ _ (t3.e _ _ (t2.e _ _ (n1 _ _ i1).2))
        have e10 : H3 a0 = some (.lst x0) := t3.x _ _ (t3.e _ _ (t2.e _ _ (n1 _ _ i2).2))
        have z0 : H a0 = none := (n1 _ _ i2).1
        have notm : ∀ c, H c = none → H2 c ≠ none → Hm c = none := fun c q1 q2 => by
          show (uni Hs Hn3) c = none
          unfold uni
          have : Hs c = none := fresh_back x.x q1
          rw [this]
          show Hn3 c = none
          cases q : Hn3 c with
          | none => rfl
          | some u => exact absurd (n3 c u q).1 q2
        have m0 : Hm a0 = none := notm a0 z0 (by rw [(t2.k _ _ (t1.x _ _ (n1 _ _ i2).2) nt_lst)]; exact Option.some_ne_none _)
        have hx0 : ∃ y ys, x0 = y :: ys := by
          cases x0 with
          | nil => cases k4; exact absurd rfl hr0
          | cons y ys => exact ⟨y, ys, rfl⟩
        obtain ⟨y, ys, rfl⟩ := hx0
        cases r2 with
        | lst k5 k6 =>
          rename_i ae xe
          have i3 : Hn2 ae = some (.lst xe) := k5
          have e3e : H3 ae = some (.lst xe) := t3.x _ _ (t3.e _ _ (n2 _ _ i3).2)
          have z1 : H ae = none := none_of_ne fun z => t1.th ae z (n2 _ _ i3).1
          have m1 : Hm ae = none := notm ae z1 (by rw [(t2.x _ _ (n2 _ _ i3).2)]; exact Option.some_ne_none _)
          -- steps[0][0] = None
          refine ⟨.ref as, g4, .inl ⟨as, _, 0, .ref a0, rfl, rfl, sq_of e1s, atI0 _ _, ?_⟩⟩
          refine ⟨a0, y :: ys, 0, 0, rfl, rfl, e10, ixN0 _, ?_⟩
          have c4 := c3.put (ys := (y :: ys).set 0 .non) e10 z0 m0
          -- ends.append(99)
          have e4 : ∃ xe', (upd H3 a0 (.lst ((y :: ys).set 0 .non))) ae = some (.lst xe') ∧ xe'.length < sizeLine := by
            by_cases z : ae = a0
            · subst z
              rw [e10] at e3e
              cases e3e
              exact ⟨_, upd_same, by rw [List.length_set, k6.len]; exact sz_lt (by omega)⟩
            · exact ⟨xe, by rw [upd_ne z]; exact e3e, by rw [k6.len]; exact sz_lt (by omega)⟩
          obtain ⟨xe', e4, hxe⟩ := e4
          refine ⟨.ref ae, g5, .inl ⟨rfl, xe', sq_of e4⟩, ?_⟩
          refine ⟨ae, xe', .int 99, rfl, rfl, e4, hxe, ?_⟩
          have c5 := c4.put (ys := xe' ++ [.int 99]) e4 z1 m1
          -- other.steps().append([])
          have hfs : ∀ v4 v5, fs_cop semS "steps" (rhoCop ds v4 v5 fs) = some (.lst ms) := fun v4 v5 => by
            unfold fs_cop fMethD
            rw [g6]
            simp only [h6.1, and_self, if_true, h4]
          have hfe : ∀ v4 v5, fs_cop semE "ends" (rhoCop ds v4 v5 fs) = some (.lst ee) := fun v4 v5 => by
            unfold fs_cop fMethD
            rw [g6]
            simp only [h6.2, and_self, if_true, h5]
          refine RdPF.intro (mk _ c5) (hfs _ _) fun v Hs6 H6 Hn6 t6 n6 r6' => ?_
          have c6 := c5.go t6
          cases r6' with
          | lst j1 j2 =>
            rename_i q6 w6
            have u6 : H6 q6 = some (.lst w6) := t6.x _ _ (n6 _ _ j1).2
            obtain ⟨o6, o6m⟩ := c5.none (n6 _ _ j1).1
            refine ⟨.inl ⟨rfl, w6, sq_of u6⟩, Nat.zero_le _, fun p hp => ?_⟩
            have c6' := c6.new (u := .lst []) hp
            have u6' : (upd H6 p (.lst [])) q6 = some (.lst w6) := by rw [upd_ne (fun z => by rw [z, hp] at u6; cases u6)]; exact u6
            refine ⟨q6, w6, .ref p, rfl, rfl, u6', by rw [j2.len]; exact sz_lt (by omega), ?_⟩
            have c7 := c6'.put (ys := w6 ++ [.ref p]) u6' o6 o6m
            -- for row in other.steps(): row.append(7)
            refine RdPF.intro (mk _ c7) (hfs _ _) fun v Hs8 H8 Hn8 t8 n8 r8 => ?_
            have c8 := c7.go t8
            cases r8 with
            | lst l1 l2 =>
              rename_i q8 w8
              have u8 : H8 q8 = some (.lst w8) := t8.x _ _ (n8 _ _ l1).2
              obtain ⟨o8, o8m⟩ := c7.none (n8 _ _ l1).1
              refine ⟨q8, rfl, ⟨w8, sq_of u8⟩, ?_⟩
              refine for_it (walk_list (a := q8) (xs := w8)) (fun i σ' H' => (σ'.length = 8 ∧ ∀ j, j ≠ 7 → σ'[j]? = ((((L2.start n_cop vs).set 4 (some (V.ref as))).set 5 (some (V.ref ae))).set 6 (some v6))[j]?) ∧ Cv Hm H H' ∧ H' q8 = some (.lst w8) ∧
                  (∀ u ∈ w8, ∃ b xs, u = .ref b ∧ b ≠ q8 ∧ H' b = some (.lst xs) ∧ xs.length ≤ 1000 + i ∧ H b = none ∧ Hm b = none)) ⟨⟨by rw [List.length_set, List.length_set, List.length_set, hσ], fun j _ => rfl⟩, c8, u8, fun u hu => ?_⟩ (fun i σ' H' _ hp => sq_of hp.2.2.1) (fun i u σ' H' H'' hi hp hy => ?_) fun σ' H' hp => ?_
              · obtain ⟨i, hi⟩ := List.mem_iff_getElem?.mp hu
                obtain ⟨b', xs, is, rfl, g1, g2, g3, g4'⟩ := rowsF_rp l2 hms i u hi
                obtain ⟨o1, o2⟩ := c7.none (n8 _ _ g1).1
                refine ⟨b', xs, rfl, fun z => ?_, t8.x _ _ (n8 _ _ g1).2, by omega, o1, o2⟩
                subst z
                rw [l1] at g1
                cases g1
                exact flat_noref g2 g3 hu
              · obtain ⟨⟨p1, p2⟩, pc, pq, pr⟩ := hp
                obtain ⟨rfl, hu⟩ := hy
                obtain ⟨b', xs, rfl, g0, g1, g2, g3, g4'⟩ := pr u (List.mem_of_getElem? hu)
                have hlt : w8.length ≤ 1000 := by rw [l2.len]; exact hml
                refine ⟨.ref b', List.getElem?_set_self (by rw [p1]; decide), .inl ⟨rfl, xs, sq_of g1⟩, ?_⟩
                refine ⟨b', xs, .int 7, rfl, rfl, g1, sz_lt (by omega), ⟨⟨by rw [List.length_set]; exact p1, fun j hj => by rw [List.getElem?_set_ne (Ne.symm hj)]; exact p2 j hj⟩, pc.put g1 g3 g4', by rw [upd_ne (Ne.symm g0)]; exact pq, fun u' hu' => ?_⟩⟩
                obtain ⟨b2, xs2, rfl, f0, f1, f2, f3, f4⟩ := pr u' hu'
                by_cases z : b2 = b'
                · subst z
                  rw [g1] at f1
                  cases f1
                  exact ⟨b2, xs ++ [.int 7], rfl, f0, upd_same, by rw [List.length_append, List.length_singleton]; omega, f3, f4⟩
                · exact ⟨b2, xs2, rfl, f0, by rw [upd_ne z]; exact f1, by omega, f3, f4⟩
              · obtain ⟨⟨p1, p2⟩, pc, _, _⟩ := hp
                -- other.ends().append(7)
                refine RdPF.intro (mk2 σ' H' pc p1 p2) (hfe _ _) fun v Hs9 H9 Hn9 t9 n9 r9 => ?_
                have c9 := pc.go t9
                cases r9 with
                | lst m1' m2' =>
                  rename_i q9 w9
                  have u9 : H9 q9 = some (.lst w9) := t9.x _ _ (n9 _ _ m1').2
                  obtain ⟨o9, o9m⟩ := pc.none (n9 _ _ m1').1
                  refine ⟨.inl ⟨rfl, w9, sq_of u9⟩, ?_⟩
                  refine ⟨q9, w9, .int 7, rfl, rfl, u9, by rw [m2'.len]; exact sz_lt (by omega), ?_⟩
                  have c10 := c9.put (ys := w9 ++ [.int 7]) u9 o9 o9m
                  refine RdP.intro (mk2 σ' _ c10 p1 p2) (h7 _ _) fun v Hs11 H11 t11 r11 => ?_
                  have c11 := c10.go t11
                  cases r11
                  exact n _ Hs H11 ⟨Ex.refl _, c11.k, (show Ex Hs Hm from uni_l).trans c11.x, fun b h _ => h, c11.th, id, fun _ => c11.tb⟩ (.bl b)

/-! from G10 -/
def nD_Machine_steps : List Str := ["self", "row"]
def gD_Machine_steps : SS := gRet (sP (fLc (iSeq (fFld "Machine" "_steps" (fVar 0))) (.nm 1) tYs (fListF (fVar 1)) [1]))
def nD_Machine_ends : List Str := ["self"]
def gD_Machine_ends : SS := gRet (sP (fListF (fFld "Machine" "_ends" (fVar 0))))
/-! from G1 -/
def n_is_integer : List Str := ["value"]
def g_is_integer : SS := (gRet (sP (fAn (fIsi "int" (fVar 0)) (fNt (fIsi "bool" (fVar 0))))))
def m_is_integer : SemP := runP 1 1 g_is_integer
def n_is_count : List Str := ["value"]
def g_is_count : SS := (gRet (sP (fAn (fCall m_is_integer (aCons (fShr 0) aNil)) (fOp gGe (fVar 0) (fC (.int 0))))))
def m_is_count : SemP := runP 1 1 g_is_count
def n_is_below : List Str := ["value", "limit"]
def g_is_below : SS := (gRet (sP (fAn (fCall m_is_count (aCons (fShr 0) aNil)) (fOp gLt (fVar 0) (fVar 1)))))
def m_is_below : SemP := runP 2 2 g_is_below
def n_is_listing : List Str := ["value"]
def g_is_listing : SS := (gRet (sP (fIsi2 "list" "tuple" (fVar 0))))
def m_is_listing : SemP := runP 1 1 g_is_listing
def n_are_unlike_below : List Str := ["value", "limit", "part"]
def g_are_unlike_below : SS := (gSeq (gIf (sT (tOr' (tNt (tTr (fCall m_is_listing (aCons (fShr 0) aNil)))) (tNt (tTr (fCb gAll (aCons (fLc (iSeq (fVar 0)) (.nm 2) tYs (fCall m_is_below (aCons (fShr 2) (aCons (fShr 1) aNil))) [2]) aNil)))))) (gRet (sP (fC (.bl false)))) gNil') (gRet (sP (fOp gEqA (fLenSet (fVar 0)) (fCb gLen (aCons (fVar 0) aNil))))))
def m_are_unlike_below : SemP := runP 3 2 g_are_unlike_below
def n_is_letters : List Str := ["value"]
def g_is_letters : SS := (gRet (sP (fAn (fCall m_is_integer (aCons (fShr 0) aNil)) (fCh gLe gLe (fC (.int 1)) (fVar 0) (fCb gLen (aCons (fC (.str "abc")) aNil))))))
def m_is_letters : SemP := runP 1 1 g_is_letters
def n_check_letters : List Str := ["letters"]
def g_check_letters : SS := (gIf (sT (tNt (tTr (fCall m_is_letters (aCons (fShr 0) aNil))))) gNever gNil')
def m_check_letters : SemP := runP 1 1 g_check_letters
def n_check_length : List Str := ["length"]
def g_check_length : SS := (gIf (sT (tNt (tTr (fCall m_is_below (aCons (fShr 0) (aCons (fOp gAdd (fC (.int 6)) (fC (.int 1))) aNil)))))) gNever gNil')
def m_check_length : SemP := runP 1 1 g_check_length
def n_is_word_of : List Str := ["letters", "value", "sign"]
def g_is_word_of : SS := (gSeq (gIf (sT (tOr' (tNt (tTr (fIsi "str" (fVar 1)))) (tB' (fOp gGt (fCb gLen (aCons (fVar 1) aNil)) (fC (.int 60)))))) (gRet (sP (fC (.bl false)))) gNil') (gRet (sP (fCb gAll (aCons (fLc (iSeq (fVar 1)) (.nm 2) tYs (fOp gIn (fVar 2) (fSlS (fC (.str "abc")) oNo (oAt (fShr 0)))) [2]) aNil)))))
def m_is_word_of : SemP := runP 3 2 g_is_word_of
def n_check_word : List Str := ["letters", "word"]
def g_check_word : SS := (gIf (sT (tNt (tTr (fCall m_is_word_of (aCons (fShr 0) (aCons (fShr 1) aNil)))))) gNever gNil')
def m_check_word : SemP := runP 2 2 g_check_word
def n_is_row : List Str := ["letters", "states", "value", "state"]
def g_is_row : SS := (gRet (sP (fAn (fCall m_is_listing (aCons (fShr 2) aNil)) (fAn (fOp gEqA (fCb gLen (aCons (fVar 2) aNil)) (fVar 0)) (fCb gAll (aCons (fLc (iSeq (fVar 2)) (.nm 3) tYs (fCall m_is_below (aCons (fShr 3) (aCons (fShr 1) aNil))) [3]) aNil))))))
def m_is_row : SemP := runP 4 3 g_is_row
def n_are_steps : List Str := ["letters", "value", "row"]
def g_are_steps : SS := (gSeq (gIf (sT (tOr' (tNt (tTr (fCall m_is_listing (aCons (fShr 1) aNil)))) (tNt (tB' (fCh gLe gLe (fC (.int 1)) (fCb gLen (aCons (fVar 1) aNil)) (fC (.int 12))))))) (gRet (sP (fC (.bl false)))) gNil') (gRet (sP (fCb gAll (aCons (fLc (iSeq (fVar 1)) (.nm 2) tYs (fCall m_is_row (aCons (fShr 0) (aCons (fCb gLen (aCons (fVar 1) aNil)) (aCons (fShr 2) aNil)))) [2]) aNil)))))
def m_are_steps : SemP := runP 3 2 g_are_steps
/-! from G3 -/
def n_first_words : List Str := ["letters", "length", "words", "longest", "_", "word", "sign"]
def g_first_words : SS := (gSeq (gDrop (sP (fCall m_check_letters (aCons (fShr 0) aNil)))) (gSeq (gDrop (sP (fCall m_check_length (aCons (fShr 1) aNil)))) (gSeq (gSet2 2 3 (sP (fLst (aCons (fC (.str "")) aNil)))) (gSeq (gFor (iRange (fShr 1)) (.nm 4) (gSeq (gSetN 3 (nLc2 (iSeq (fVar 3)) (.nm 5) (iSeq (fSlS (fC (.str "abc")) oNo (oAt (fShr 0)))) (.nm 6) (fOp gAdd (fVar 5) (fVar 6)) [5, 6] [6])) (gSet 2 (sP (fOp gAdd (fVar 2) (fVar 3)))))) (gRet (sFrz 2))))))
def m_first_words : SemP := runP 7 2 g_first_words
def n_first_words_to : List Str := ["steps", "words", "state", "row", "sign", "after"]
def g_first_words_to : SS := (gSeq (gSetN 1 (nDic1 (fC (.int 0)) (fC (.str "")))) (gSeq (gFor (iEn (fShr 0)) (.tp [2, 3]) (gFor (iZs (fC (.str "abc")) (fShr 3)) (.tp [4, 5]) (gSetd 1 (fShr 5) (fOp gAdd (fOp gGetD (fVar 1) (fShr 2)) (fVar 4))))) (gRet (sP (fLc (iRange (fCb gLen (aCons (fVar 0) aNil))) (.nm 2) tYs (fOp gGetD (fVar 1) (fShr 2)) [2])))))
def m_first_words_to : SemP := runP 6 1 g_first_words_to
def n_Machine___init__ : List Str := ["self", "letters", "steps", "ends"]
def g_Machine___init__ : SS := (gSeq (gDrop (sP (fCall m_check_letters (aCons (fShr 1) aNil)))) (gSeq (gIf (sT (tNt (tTr (fCall m_are_steps (aCons (fShr 1) (aCons (fShr 2) aNil)))))) gNever gNil') (gSeq (gIf (sT (tNt (tTr (fCall m_are_unlike_below (aCons (fShr 3) (aCons (fCb gLen (aCons (fVar 2) aNil)) aNil)))))) gNever gNil') (gSeq (gFld "Machine" "_letters" 0 (sFrz 1)) (gFld2 "Machine" "_steps" "_ends" 0 (sP (fCall m_least_form (aCons (fShr 1) (aCons (fShr 2) (aCons (fShr 3) aNil))))))))))
def m_Machine___init__ : SemB := runB 4 4 g_Machine___init__
/-! from G11 -/
def gI_Machine : IS := (iSeqI (gDrop (sP (fCall m_check_letters (aCons (fShr 1) aNil)))) (iSeqI (gIf (sT (tNt (tTr (fCall m_are_steps (aCons (fShr 1) (aCons (fShr 2) aNil)))))) gNever gNil') (iSeqI (gIf (sT (tNt (tTr (fCall m_are_unlike_below (aCons (fShr 3) (aCons (fCb gLen (aCons (fVar 2) aNil)) aNil)))))) gNever gNil') (iSeqI (gFld "Machine" "_letters" 0 (sFrz 1)) (iLast "Machine" "_steps" "_ends" 0 (fCallD m_least_form (aCons (fShr 1) (aCons (fShr 2) (aCons (fShr 3) aNil)))))))))
def mI_Machine : List D → Option (List (Str × D)) := runI "Machine" 4 4 gI_Machine
def mD_steps : SemP := runD 2 1 gD_Machine_steps
def mD_ends : SemP := runD 1 1 gD_Machine_ends
/-- what the copies' law needs, to be told b -/
structure CopC (semI : List D → Option (List (Str × D))) (semS semE m_law_is m_eq : SemP) (ds : List D) (b : Bool) : Prop where
  hl : ds.length = 4
  ex : ∃ (r0 rt es ms ee : List D) (fs : List (Str × D)), f1_cop (init 8 4 (ds.map .sh)) = some (.lst (.lst r0 :: rt)) ∧ r0 ≠ [] ∧ f2_cop (init 8 4 (ds.map .sh)) = some (.lst es) ∧ es.length ≤ 1000 ∧
    fm_cop semI (((init 8 4 (ds.map .sh)).set 4 (some (.sh (.lst (.lst r0 :: rt))))).set 5 (some (.sh (.lst es)))) = some (.ins "Machine" fs) ∧ semS [.ins "Machine" fs] = some (.sh (.lst ms)) ∧ rowsF ms = true ∧ ms.length ≤ 1000 ∧ semE [.ins "Machine" fs] = some (.sh (.lst ee)) ∧ ee.length ≤ 1000 ∧ fs.lookup ("steps" : Str) = none ∧ fs.lookup ("ends" : Str) = none ∧
    ∀ v4 v5, fz_cop m_law_is m_eq (rhoCop ds v4 v5 fs) = some (.bl b)
def semCop (semI : List D → Option (List (Str × D))) (semS semE m_law_is m_eq : SemP) : SemP := fun ds => open Classical in if h : ∃ b, CopC semI semS semE m_law_is m_eq ds b then some (.sh (.bl (choose h))) else none
theorem semCop_eq {semI : List D → Option (List (Str × D))} {semS semE m_law_is m_eq : SemP} {ds : List D} {b : Bool} (h : CopC semI semS semE m_law_is m_eq ds b) : semCop semI semS semE m_law_is m_eq ds = some (.sh (.bl b)) := by
  unfold semCop
  have hx : ∃ b, CopC semI semS semE m_law_is m_eq ds b := ⟨b, h⟩
  rw [dif_pos hx]
  have c := Classical.choose_spec hx
  obtain ⟨r0, rt, es, ms, ee, fs, a1, a2, a3, a4, a5, a6, a7, a8, a9, a10, a11, a12, a13⟩ := c.ex
  obtain ⟨r0', rt', es', ms', ee', fs', b1, b2, b3, b4, b5, b6, b7, b8, b9, b10, b11, b12, b13⟩ := h.ex
  rw [a1] at b1
  cases b1
  rw [a3] at b3
  cases b3
  rw [a5] at b5
  cases b5
  have := a13 .non .non
  rw [b13 .non .non] at this
  cases this
  rfl
/-! from G2 -/
def m_Machine : SemP := mkSem "Machine" m_Machine___init__

def n_check_machine : List Str := ["machine"]
def g_check_machine : SS := (gIf (sT (tNt (tTr (fIsC "Machine" (fVar 0))))) gNever gNil')
def m_check_machine : SemP := runP 1 1 g_check_machine
def n_Machine_letters : List Str := ["self"]
def g_Machine_letters : SS := (gRet (sP (fFld "Machine" "_letters" (fVar 0))))
def m_Machine_letters : SemP := runP 1 1 g_Machine_letters
def n_Machine_states : List Str := ["self"]
def g_Machine_states : SS := (gRet (sP (fCb gLen (aCons (fFld "Machine" "_steps" (fVar 0)) aNil))))
def m_Machine_states : SemP := runP 1 1 g_Machine_states
def n_Machine_steps : List Str := ["self", "row"]
def g_Machine_steps : SS := (gRet (sP (fLc (iSeq (fFld "Machine" "_steps" (fVar 0))) (.nm 1) tYs (fCb gList (aCons (fVar 1) aNil)) [1])))
def m_Machine_steps : SemP := runP 2 1 g_Machine_steps
def n_Machine_ends : List Str := ["self"]
def g_Machine_ends : SS := (gRet (sP (fCb gList (aCons (fFld "Machine" "_ends" (fVar 0)) aNil))))
def m_Machine_ends : SemP := runP 1 1 g_Machine_ends
def n_Machine___eq__ : List Str := ["self", "other"]
def g_Machine___eq__ : SS := (gRet (sP (fAn (fIsC "Machine" (fVar 1)) (fAn (fOp gEqA (fFld "Machine" "_letters" (fVar 0)) (fFld "Machine" "_letters" (fVar 1))) (fAn (fOp gEqA (fFld "Machine" "_steps" (fVar 0)) (fFld "Machine" "_steps" (fVar 1))) (fOp gEqA (fFld "Machine" "_ends" (fVar 0)) (fFld "Machine" "_ends" (fVar 1))))))))
def m_Machine___eq__ : SemP := runP 2 2 g_Machine___eq__
def n_led_to : List Str := ["machine", "word", "steps", "state", "sign"]
def g_led_to : SS := (gSeq (gPar [2, 3] [.I (sP (fMeth m_Machine_steps "Machine" "steps" (fShr 0))), .I (sP (fC (.int 0)))]) (gSeq (gFor (iSeq (fShr 1)) (.nm 4) (gSet 3 (sP (fOp gIx (fOp gIx (fVar 2) (fVar 3)) (fMt gIdxS (fC (.str "abc")) (aCons (fVar 4) aNil)))))) (gRet (sFrz 3))))
def m_led_to : SemP := runP 5 2 g_led_to
def n_lets : List Str := ["machine", "word"]
def g_lets : SS := (gSeq (gDrop (sP (fCall m_check_machine (aCons (fShr 0) aNil)))) (gSeq (gDrop (sP (fCall m_check_word (aCons (fMeth m_Machine_letters "Machine" "letters" (fShr 0)) (aCons (fShr 1) aNil))))) (gRet (sP (fOp gIn (fCall m_led_to (aCons (fShr 0) (aCons (fShr 1) aNil))) (fMeth m_Machine_ends "Machine" "ends" (fShr 0)))))))
def m_lets : SemP := runP 2 2 g_lets
def n_is_empty : List Str := ["machine"]
def g_is_empty : SS := (gSeq (gDrop (sP (fCall m_check_machine (aCons (fShr 0) aNil)))) (gRet (sP (fNtT (fMeth m_Machine_ends "Machine" "ends" (fShr 0))))))
def m_is_empty : SemP := runP 1 1 g_is_empty
def n_shortest : List Str := ["machine", "ends"]
def g_shortest : SS := (gSeq (gDrop (sP (fCall m_check_machine (aCons (fShr 0) aNil)))) (gSeq (gSet 1 (sP (fMeth m_Machine_ends "Machine" "ends" (fShr 0)))) (gRet (sP (fIf (tTr (fVar 1)) (fOp gIx (fCall m_first_words_to (aCons (fMeth m_Machine_steps "Machine" "steps" (fShr 0)) aNil)) (fOp gIx (fVar 1) (fC (.int 0)))) (fC .non))))))
def m_shortest : SemP := runP 2 1 g_shortest
def n_words_of : List Str := ["machine", "length", "ends", "word"]
def g_words_of : SS := (gSeq (gDrop (sP (fCall m_check_machine (aCons (fShr 0) aNil)))) (gSeq (gDrop (sP (fCall m_check_length (aCons (fShr 1) aNil)))) (gSeq (gSet 2 (sP (fMeth m_Machine_ends "Machine" "ends" (fShr 0)))) (gRet (sP (fLc (iSeq (fCall m_first_words (aCons (fMeth m_Machine_letters "Machine" "letters" (fShr 0)) (aCons (fShr 1) aNil)))) (.nm 3) (tB' (fOp gIn (fCall m_led_to (aCons (fShr 0) (aCons (fShr 3) aNil))) (fVar 2))) (fShr 3) [3]))))))
def m_words_of : SemP := runP 4 2 g_words_of
def n_law_pot : List Str := ["_law_script", "_law_k", "_law_cell"]
def g_law_pot : SS := (gSeq (gSet 2 (sP (fIf (tB' (fOp gLt (fVar 1) (fCb gLen (aCons (fVar 0) aNil)))) (fCb gAbs (aCons (fOp gIx (fVar 0) (fVar 1)) aNil)) (fOp gAdd (fOp gMulA (fC (.int 2351)) (fVar 1)) (fC (.int 1471)))))) (gRetN (nLstI (saCons (sP (fCb gMax2 (aCons (fC (.int 0)) (aCons (fOp Dv.gSub (fVar 2) (fOp gPow (fC (.int 10)) (fC (.int 18)))) aNil)))) (saCons (sP (fOp gAdd (fOp gMod (fCb gInt (aCons (fOp gAdd (fOp gAdd (fOp gMulA (fOp gMod (fCb gInt (aCons (fVar 2) aNil)) (fC (.int 2147483549))) (fC (.int 44189))) (fOp gMulA (fC (.int 1021)) (fVar 1))) (fC (.int 23173))) aNil)) (fC (.int 2147483579))) (fC (.int 1)))) saNil)))))
def m_law_pot : SemP := runP 3 2 g_law_pot
def n_law_draw : List Str := ["_law_pot_here", "_law_many", "_law_digit"]
def g_law_draw : SS := (gSeq (gIf (sT (tB' (fOp gGt (fOp gIx (fVar 0) (fC (.int 0))) (fC (.int 0))))) (gSeq (gItem2 0 0 2 (sP (fCb gDivmod (aCons (fOp gIx (fVar 0) (fC (.int 0))) (aCons (fVar 1) aNil))))) (gRet (sFrz 2))) gNil') (gSeq (gItem 0 1 (sP (fOp gMod (fCb gInt (aCons (fOp gAdd (fOp gMulA (fOp gIx (fVar 0) (fC (.int 1))) (fC (.int 44189))) (fC (.int 1021))) aNil)) (fC (.int 2147483629))))) (gRet (sP (fOp gMod (fCb gInt (aCons (fOp gDiv (fOp gMod (fCb gInt (aCons (fOp gMulA (fOp gIx (fVar 0) (fC (.int 1))) (fOp gIx (fVar 0) (fC (.int 1)))) aNil)) (fC (.int 2147483587))) (fC (.int 13))) aNil)) (fVar 1))))))
def m_law_draw : SemB := runB 3 2 g_law_draw
def n_law_machine : List Str := ["_law_pot_here", "_law_letters", "_law_most", "_law_many", "_law_steps", "_law_ends", "_law_state", "_law_row", "_law_letter"]
def g_law_machine : SS := (gSeq (gPar [3, 4, 5] [.I (sOp gAdd (sP (fC (.int 1))) (sCallB 0 m_law_draw (saCons (sFrz 2) saNil))), .N (nLstI saNil), .N (nLstI saNil)]) (gSeq (gFor (iRange (fShr 3)) (.nm 6) (gSeq (gSetN 7 (nLstI saNil)) (gSeq (gFor (iRange (fShr 1)) (.nm 8) (gApp 7 (sCallB 0 m_law_draw (saCons (sFrz 3) saNil)))) (gSeq (gApp 4 (sFrz 7)) (gIf (sB (sOp gEqA (sCallB 0 m_law_draw (saCons (sP (fC (.int 2))) saNil)) (sP (fC (.int 0))))) (gApp 5 (sFrz 6)) gNil'))))) (gRet (sTup (saCons (sFrz 4) (saCons (sFrz 5) saNil))))))
def m_law_machine : SemB := runB 9 3 g_law_machine
def n_law_led : List Str := ["_law_steps", "_law_word", "_law_state", "_law_sign"]
def g_law_led : SS := (gSeq (gSet 2 (sP (fC (.int 0)))) (gSeq (gFor (iSeq (fShr 1)) (.nm 3) (gSet 2 (sP (fOp gIx (fOp gIx (fVar 0) (fVar 2)) (fMt gIdxS (fC (.str "abc")) (aCons (fVar 3) aNil)))))) (gRet (sFrz 2))))
def m_law_led : SemP := runP 4 2 g_law_led
def n_law_words : List Str := ["_law_letters", "_law_length", "_law_found", "_law_late", "_law_turn", "_law_longer", "_law_word", "_law_sign"]
def g_law_words : SS := (gSeq (gPar [2, 3] [.I (sP (fLst (aCons (fC (.str "")) aNil))), .I (sP (fLst (aCons (fC (.str "")) aNil)))]) (gSeq (gFor (iRange (fShr 1)) (.nm 4) (gSeq (gSetN 5 (nLstI saNil)) (gSeq (gFor (iSeq (fShr 3)) (.nm 6) (gExt 5 (sP (fLc (iSeq (fSlS (fC (.str "abc")) oNo (oAt (fShr 0)))) (.nm 7) tYs (fOp gAdd (fVar 6) (fVar 7)) [7])))) (gPar [2, 3] [.I (sP (fOp gAdd (fVar 2) (fVar 5))), .I (sFrz 5)])))) (gRet (sFrz 2))))
def m_law_words : SemP := runP 8 2 g_law_words
def n_law_reached : List Str := ["_law_steps", "_law_found", "_law_at", "_law_state"]
def g_law_reached : SS := (gSeq (gPar [1, 2] [.N (nLstI (saCons (sP (fC (.int 0))) saNil)), .I (sP (fC (.int 0)))]) (gSeq (gWh (tB' (fOp gLt (fVar 2) (fCb gLen (aCons (fVar 1) aNil)))) (gSeq (gFor (iSeq (fOp gIx (fVar 0) (fOp gIx (fVar 1) (fVar 2)))) (.nm 3) (gIf (sT (tB' (fOp gNi (fVar 3) (fVar 1)))) (gApp 1 (sFrz 3)) gNil')) (gSet 2 (sP (fOp gAdd (fVar 2) (fC (.int 1))))))) (gRet (sFrz 1))))
def m_law_reached : SemP := runP 4 1 g_law_reached
def n_law_least : List Str := ["_law_machine_here", "_law_steps", "_law_ends", "_law_reached_here", "_law_marks", "_law_turn", "_law_rows", "_law_told", "_law_found", "_law_state", "_law_places", "_law_led_here", "_law_there", "_law_one", "_law_at"]
def g_law_least : SS := (gSeq (gTgt (.tp [1, 2]) (sFrz 0)) (gSeq (gSet 3 (sP (fCall m_law_reached (aCons (fShr 1) aNil)))) (gSeq (gSet 4 (sP (fLc (iRange (fCb gLen (aCons (fVar 1) aNil))) (.nm 9) tYs (fCb gInt (aCons (fOp gIn (fVar 9) (fVar 2)) aNil)) [9]))) (gSeq (gFor (iRange (fCb gLen (aCons (fVar 3) aNil))) (.nm 5) (gSeq (gSet 6 (sP (fLc (iRange (fCb gLen (aCons (fVar 1) aNil))) (.nm 9) tYs (fOp gAdd (fLst (aCons (fOp gIx (fVar 4) (fVar 9)) aNil)) (fLc (iSeq (fOp gIx (fVar 1) (fVar 9))) (.nm 12) tYs (fOp gIx (fVar 4) (fVar 12)) [12])) [9]))) (gSeq (gSet 7 (sP (fCb gSortL (aCons (fLc (iSeq (fVar 3)) (.nm 9) tYs (fOp gIx (fVar 6) (fVar 9)) [9]) aNil)))) (gSet 4 (sP (fLc (iRange (fCb gLen (aCons (fVar 1) aNil))) (.nm 9) tYs (fIf (tB' (fOp gIn (fVar 9) (fVar 3))) (fMt gIdxL (fVar 7) (aCons (fOp gIx (fVar 6) (fVar 9)) aNil)) (fNeg (fC (.int 1)))) [9])))))) (gSeq (gSetN 8 (nLstI saNil)) (gSeq (gFor (iSeq (fShr 3)) (.nm 9) (gIf (sT (tB' (fOp gNi (fOp gIx (fVar 4) (fVar 9)) (fLc (iSeq (fVar 8)) (.nm 13) tYs (fOp gIx (fVar 4) (fVar 13)) [13])))) (gApp 8 (sFrz 9)) gNil')) (gSeq (gSet 10 (sP (fLc (iSeq (fVar 8)) (.nm 9) tYs (fOp gIx (fVar 4) (fVar 9)) [9]))) (gSeq (gSet 11 (sP (fLc (iSeq (fVar 8)) (.nm 9) tYs (fLc (iSeq (fOp gIx (fVar 1) (fVar 9))) (.nm 12) tYs (fMt gIdxL (fVar 10) (aCons (fOp gIx (fVar 4) (fVar 12)) aNil)) [12]) [9]))) (gRet (sP (fTup (aCons (fShr 11) (aCons (fLc (iEn (fVar 8)) (.tp [14, 9]) (tB' (fOp gIn (fVar 9) (fVar 2))) (fShr 14) [14, 9]) aNil)))))))))))))
def m_law_least : SemP := runP 15 1 g_law_least
def n_law_is : List Str := ["_law_machine_here", "_law_letters", "_law_least_here", "_law_told"]
def g_law_is : SS := (gSeq (gSet 3 (sP (fLst (aCons (fMeth m_Machine_letters "Machine" "letters" (fShr 0)) (aCons (fMeth m_Machine_states "Machine" "states" (fShr 0)) (aCons (fMeth m_Machine_steps "Machine" "steps" (fShr 0)) (aCons (fMeth m_Machine_ends "Machine" "ends" (fShr 0)) aNil))))))) (gRet (sP (fOp gEqA (fCb gRepr (aCons (fVar 3) aNil)) (fCb gRepr (aCons (fLst (aCons (fShr 1) (aCons (fCb gLen (aCons (fOp gIx (fVar 2) (fC (.int 0))) aNil)) (aCons (fOp gIx (fVar 2) (fC (.int 0))) (aCons (fOp gIx (fVar 2) (fC (.int 1))) aNil))))) aNil))))))
def m_law_is : SemP := runP 4 3 g_law_is
def n_law_named : List Str := ["_law_pot_here", "_law_machine_here", "_law_steps", "_law_ends", "_law_many", "_law_left", "_law_order", "_law_places", "_law_rows", "_law_late", "_law_turn", "_law_state", "_law_row", "_law_there"]
def g_law_named : SS := (gSeq (gTgt (.tp [2, 3]) (sFrz 1)) (gSeq (gSet 4 (sP (fCb gLen (aCons (fVar 2) aNil)))) (gSeq (gPar [5, 6] [.N (nRng 1 (fShr 4)), .N (nLstI (saCons (sP (fC (.int 0))) saNil))]) (gSeq (gWh (tB' (fOp gNeA (fVar 5) (fLst aNil))) (gApp 6 (sPop 5 (sCallB 0 m_law_draw (saCons (sP (fCb gLen (aCons (fVar 5) aNil))) saNil))))) (gSeq (gSet 7 (sP (fLc (iRange (fShr 4)) (.nm 11) tYs (fMt gIdxL (fVar 6) (aCons (fVar 11) aNil)) [11]))) (gSeq (gPar [8, 9] [.N (nLstI saNil), .N (nLstI saNil)]) (gSeq (gFor (iRange (fIf (tB' (fOp gLt (fVar 4) (fC (.int 6)))) (fC (.int 2)) (fC (.int 1)))) (.nm 10) (gForF 6 (.nm 11) (gSeq (gSetN 12 (nLstI saNil)) (gSeq (gFor (iSeq (fOp gIx (fVar 2) (fVar 11))) (.nm 13) (gApp 12 (sOp gAdd (sP (fOp gIx (fVar 7) (fVar 13))) (sIf (sAn (sT (tB' (fOp gLt (fVar 4) (fC (.int 6))))) (sB (sOp gEqA (sCallB 0 m_law_draw (saCons (sP (fC (.int 2))) saNil)) (sP (fC (.int 1)))))) (sFrz 4) (sP (fC (.int 0))))))) (gSeq (gApp 8 (sFrz 12)) (gIf (sT (tB' (fOp gIn (fVar 11) (fVar 3)))) (gApp 9 (sP (fOp Dv.gSub (fCb gLen (aCons (fVar 8) aNil)) (fC (.int 1))))) gNil')))))) (gSeq (gApp 8 (sOp gMulA (sNew (nLstI (saCons (sCallB 0 m_law_draw (saCons (sP (fCb gLen (aCons (fVar 8) aNil))) saNil)) saNil))) (sP (fCb gLen (aCons (fOp gIx (fVar 2) (fC (.int 0))) aNil))))) (gRet (sTup (saCons (sFrz 8) (saCons (sP (fOp gAdd (fVar 9) (fLst (aCons (fOp Dv.gSub (fCb gLen (aCons (fVar 8) aNil)) (fC (.int 1))) aNil)))) saNil))))))))))))
def m_law_named : SemB := runB 14 2 g_law_named
def n_law_words_right : List Str := ["_law_machine_here", "_law_letters", "_law_told", "_law_steps", "_law_ends", "_law_words_here", "_law_due", "_law_reached_here", "_law_first", "_law_word", "_law_state"]
def g_law_words_right : SS := (gSeq (gTgt (.tp [3, 4]) (sFrz 0)) (gSeq (gSet 5 (sP (fCall m_law_words (aCons (fShr 1) (aCons (fC (.int 4)) aNil))))) (gSeq (gSet 6 (sP (fLc (iSeq (fVar 5)) (.nm 9) (tB' (fOp gIn (fCall m_law_led (aCons (fShr 3) (aCons (fShr 9) aNil))) (fVar 4))) (fShr 9) [9]))) (gSeq (gIf (sT (tOr' (tB' (fOp gNeA (fLc (iSeq (fVar 5)) (.nm 9) (tTr (fCall m_lets (aCons (fShr 2) (aCons (fShr 9) aNil)))) (fShr 9) [9]) (fVar 6))) (tB' (fOp gNeA (fCall m_words_of (aCons (fShr 2) (aCons (fC (.int 4)) aNil))) (fVar 6))))) (gRet (sP (fC (.bl false)))) gNil') (gSeq (gIf (sT (tB' (fOp gNeA (fCall m_words_of (aPick [1, 0] (aCons (fC (.int 2)) (aCons (fShr 2) aNil)))) (fLc (iSeq (fVar 6)) (.nm 9) (tB' (fOp gLt (fCb gLen (aCons (fVar 9) aNil)) (fC (.int 3)))) (fShr 9) [9])))) (gRet (sP (fC (.bl false)))) gNil') (gSeq (gIf (sT (tOr' (tB' (fOp gNeA (fCall m_first_words (aCons (fShr 1) (aCons (fC (.int 4)) aNil))) (fVar 5))) (tB' (fOp gNeA (fCall m_first_words (aPick [1, 0] (aCons (fC (.int 1)) (aCons (fShr 1) aNil)))) (fSl (fVar 5) oNo (oAt (fOp gAdd (fVar 1) (fC (.int 1))))))))) (gRet (sP (fC (.bl false)))) gNil') (gSeq (gSet 7 (sP (fCall m_law_reached (aCons (fShr 3) aNil)))) (gSeq (gIf (sT (tB' (fOp gNeA (fCall m_is_empty (aCons (fShr 2) aNil)) (fOp gEqA (fLc (iSeq (fVar 7)) (.nm 10) (tB' (fOp gIn (fVar 10) (fVar 4))) (fShr 10) [10]) (fLst aNil))))) (gRet (sP (fC (.bl false)))) gNil') (gSeq (gSet 8 (sP (fCall m_shortest (aPick [0] (aCons (fShr 2) aNil))))) (gSeq (gIf (sT (tB' (fOp gNeA (fVar 6) (fLst aNil)))) (gRet (sP (fOp gEqA (fVar 8) (fOp gIx (fVar 6) (fC (.int 0)))))) gNil') (gSeq (gIf (sT (tTr (fCall m_is_empty (aPick [0] (aCons (fShr 2) aNil))))) (gRet (sP (fOp gIs (fVar 8) (fC .non)))) gNil') (gRet (sP (fAn (fOp gGt (fCb gLen (aCons (fVar 8) aNil)) (fC (.int 4))) (fOp gIn (fCall m_law_led (aCons (fShr 3) (aCons (fShr 8) aNil))) (fVar 4))))))))))))))))
def m_law_words_right : SemP := runP 11 3 g_law_words_right
def m_law_copied_right : SemP := semCop mI_Machine mD_steps mD_ends m_law_is m_Machine___eq__

def n_law : List Str := ["_law_script", "_law_pot_here", "_law_letters", "_law_machine_here", "_law_steps", "_law_ends", "_law_least_here", "_law_shown", "_law_told", "_law_named_here", "_law_late", "_law_state", "_law_turned", "_law_at", "_law_there", "_law_bent", "_law_wide", "_law_row", "_law_one"]
def g_law : SS := (gSeq (gSetN 1 (nCall m_law_pot (saCons (sFrz 0) (saCons (sP (fC (.int 0))) saNil)))) (gSeq (gSet 2 (sOp gAdd (sP (fC (.int 1))) (sCallB 1 m_law_draw (saCons (sP (fC (.int 3))) saNil)))) (gSeq (gSet 3 (sCallB 1 m_law_machine (saCons (sFrz 2) (saCons (sP (fC (.int 6))) saNil)))) (gSeq (gTgt (.tp [4, 5]) (sFrz 3)) (gSeq (gPar [6, 7] [.I (sP (fCall m_law_least (aCons (fShr 3) aNil))), .I (sP (fCb gRepr (aCons (fVar 3) aNil)))]) (gSeq (gSet 8 (sP (fCall m_Machine (aCons (fShr 2) (aCons (fShr 4) (aCons (fRev (fVar 5)) aNil)))))) (gSeq (gIf (sT (tOr' (tNt (tTr (fCall m_law_is (aCons (fShr 8) (aCons (fShr 2) (aCons (fShr 6) aNil)))))) (tB' (fOp gNeA (fCb gRepr (aCons (fVar 3) aNil)) (fVar 7))))) (gRet (sP (fC (.bl false)))) gNil') (gSeq (gIf (sT (tOr' (tNt (tTr (fCall m_law_words_right (aCons (fShr 3) (aCons (fShr 2) (aCons (fShr 8) aNil)))))) (tNt (tTr (fCall m_law_copied_right (aCons (fShr 3) (aCons (fShr 2) (aCons (fShr 8) (aCons (fShr 6) aNil))))))))) (gRet (sP (fC (.bl false)))) gNil') (gSeq (gSet 9 (sCallB 1 m_law_named (saCons (sFrz 3) saNil))) (gSeq (gSet 10 (sP (fCall m_Machine (aPick [2, 1, 0] (aCons (fCb gTuple (aCons (fOp gIx (fVar 9) (fC (.int 1))) aNil)) (aCons (fCb gTuple (aCons (fLc (iSeq (fOp gIx (fVar 9) (fC (.int 0)))) (.nm 17) tYs (fCb gTuple (aCons (fVar 17) aNil)) [17]) aNil)) (aCons (fShr 2) aNil))))))) (gSeq (gIf (sT (tOr' (tNt (tTr (fCall m_law_is (aCons (fShr 10) (aCons (fShr 2) (aCons (fShr 6) aNil)))))) (tOr' (tB' (fOp gIsNot (fOp (gEqO "Machine" m_Machine___eq__) (fShr 10) (fShr 8)) (fC (.bl true)))) (tB' (fOp gIsNot (fOp (gEqO "Machine" m_Machine___eq__) (fShr 8) (fShr 9)) (fC (.bl false))))))) (gRet (sP (fC (.bl false)))) gNil') (gSeq (gSet 11 (sCallB 1 m_law_draw (saCons (sP (fCb gLen (aCons (fVar 4) aNil))) saNil))) (gSeq (gSet 12 (sP (fIf (tB' (fOp gIn (fVar 11) (fVar 5))) (fLc (iSeq (fVar 5)) (.nm 18) (tB' (fOp gNeA (fVar 18) (fVar 11))) (fShr 18) [18]) (fOp gAdd (fVar 5) (fLst (aCons (fShr 11) aNil)))))) (gSeq (gIf (sT (tB' (fOp gNeA (fOp (gEqO "Machine" m_Machine___eq__) (fCall m_Machine (aCons (fShr 2) (aCons (fShr 4) (aCons (fShr 12) aNil)))) (fShr 8)) (fOp gEqA (fCall m_law_least (aCons (fTup (aCons (fShr 4) (aCons (fShr 12) aNil))) aNil)) (fVar 6))))) (gRet (sP (fC (.bl false)))) gNil') (gSeq (gPar [13, 14] [.I (sCallB 1 m_law_draw (saCons (sP (fCb gLen (aCons (fVar 4) aNil))) saNil)), .I (sCallB 1 m_law_draw (saCons (sP (fCb gLen (aCons (fVar 4) aNil))) saNil))]) (gSeq (gSet 15 (sP (fOp gAdd (fOp gAdd (fSl (fVar 4) oNo (oAt (fShr 13))) (fLst (aCons (fOp gAdd (fLst (aCons (fShr 14) aNil)) (fSl (fOp gIx (fVar 4) (fVar 13)) (oAt (fC (.int 1))) oNo)) aNil))) (fSl (fVar 4) (oAt (fOp gAdd (fVar 13) (fC (.int 1)))) oNo)))) (gSeq (gIf (sT (tB' (fOp gNeA (fOp (gEqO "Machine" m_Machine___eq__) (fCall m_Machine (aCons (fShr 2) (aCons (fShr 15) (aCons (fShr 5) aNil)))) (fShr 8)) (fOp gEqA (fCall m_law_least (aCons (fTup (aCons (fShr 15) (aCons (fShr 5) aNil))) aNil)) (fVar 6))))) (gRet (sP (fC (.bl false)))) gNil') (gSeq (gSet 16 (sP (fLc (iSeq (fVar 4)) (.nm 17) tYs (fOp gAdd (fVar 17) (fLst (aCons (fC (.int 0)) aNil))) [17]))) (gRet (sP (fOr (fOp gEqA (fVar 2) (fC (.int 3))) (fOp gIs (fOp (gEqO "Machine" m_Machine___eq__) (fCall m_Machine (aCons (fOp gAdd (fVar 2) (fC (.int 1))) (aCons (fShr 16) (aCons (fShr 5) aNil)))) (fShr 8)) (fC (.bl false))))))))))))))))))))))))
def m_law : SemP := runP 19 1 g_law
end
end Dv

/-! Ma -/
/-! Ma: least machines, plain mathematics: canonical numbers, uniqueness, refinement. -/
namespace Ma
def run (d : Nat → Nat → Nat) : Nat → List Nat → Nat
  | s, [] => s
  | s, a :: w => run d (d s a) w
def Ok (L : Nat) (w : List Nat) : Prop := ∀ a ∈ w, a < L
/-- two states of two machines let the same -/
def Eq2 (L : Nat) (d : Nat → Nat → Nat) (acc : Nat → Bool) (e : Nat → Nat → Nat) (bcc : Nat → Bool) (i j : Nat) : Prop := ∀ w, Ok L w → acc (run d i w) = bcc (run e j w)
theorem Ok.nil {L : Nat} : Ok L [] := fun a h => by cases h
theorem Ok.cons {L a : Nat} {w : List Nat} (h : a < L) (k : Ok L w) : Ok L (a :: w) := fun b hb => by
  rcases List.mem_cons.mp hb with rfl | hb
  · exact h
  · exact k b hb
theorem Ok.tail {L a : Nat} {w : List Nat} (k : Ok L (a :: w)) : Ok L w := fun b hb => k b (List.mem_cons_of_mem _ hb)
theorem Ok.head {L a : Nat} {w : List Nat} (k : Ok L (a :: w)) : a < L := k a List.mem_cons_self
section
variable {L : Nat} {d e f : Nat → Nat → Nat} {acc bcc ccc : Nat → Bool} {i j l a : Nat}
theorem Eq2.symm (h : Eq2 L d acc e bcc i j) : Eq2 L e bcc d acc j i := fun w k => (h w k).symm
theorem Eq2.trans (h : Eq2 L d acc e bcc i j) (g : Eq2 L e bcc f ccc j l) : Eq2 L d acc f ccc i l := fun w k => (h w k).trans (g w k)
theorem Eq2.step (h : Eq2 L d acc e bcc i j) (ha : a < L) : Eq2 L d acc e bcc (d i a) (e j a) := fun w k => h (a :: w) (.cons ha k)
theorem Eq2.now (h : Eq2 L d acc e bcc i j) : acc i = bcc j := h [] .nil
end
/-- numbered by first appearance along the rows -/
structure Can (L n : Nat) (d : Nat → Nat → Nat) : Prop where
  pos : 0 < n
  cl : ∀ i a, i < n → a < L → d i a < n
  bf : ∀ j, 0 < j → j < n → ∃ i a, i < j ∧ a < L ∧ d i a = j ∧ ∀ i' a', a' < L → (i' < i ∨ (i' = i ∧ a' < a)) → d i' a' < j
def Red (L n : Nat) (d : Nat → Nat → Nat) (acc : Nat → Bool) : Prop := ∀ i j, i < n → j < n → Eq2 L d acc d acc i j → i = j
theorem uniq1 {L n m : Nat} {d e : Nat → Nat → Nat} {acc bcc : Nat → Bool} (C : Can L n d) (C' : Can L m e) (R : Red L n d acc) (R' : Red L m e bcc) (h : Eq2 L d acc e bcc 0 0) : ∀ v, v < n → v < m ∧ Eq2 L d acc e bcc v v := by
  intro v
  induction v using Nat.strongRecOn with
  | _ v ih =>
    intro hv
    by_cases h0 : v = 0
    · subst h0; exact ⟨C'.pos, h⟩
    obtain ⟨i, a, hi, ha, hd, hb⟩ := C.bf v (Nat.pos_of_ne_zero h0) hv
    obtain ⟨hi2, ei⟩ := ih i hi (Nat.lt_trans hi hv)
    have e1 : Eq2 L d acc e bcc v (e i a) := by have := ei.step ha; rw [hd] at this; exact this
    have hv2 : e i a < m := C'.cl i a hi2 ha
    rcases Nat.lt_trichotomy (e i a) v with q | q | q
    · obtain ⟨_, e2⟩ := ih _ q (Nat.lt_trans q hv)
      have := R v (e i a) hv (Nat.lt_trans q hv) (e1.trans e2.symm)
      omega
    · rw [q] at hv2 e1; exact ⟨hv2, e1⟩
    · have hvm : v < m := Nat.lt_trans q hv2
      obtain ⟨i2, a2, hi2', ha2, hd2, hb2⟩ := C'.bf v (Nat.pos_of_ne_zero h0) hvm
      obtain ⟨_, ei2⟩ := ih i2 hi2' (Nat.lt_trans hi2' hv)
      have e2 : Eq2 L d acc e bcc (d i2 a2) v := by have := ei2.step ha2; rw [hd2] at this; exact this
      rcases Nat.lt_trichotomy (d i2 a2) v with r | r | r
      · obtain ⟨hm, e3⟩ := ih _ r (Nat.lt_trans r hv)
        have := R' (d i2 a2) v hm hvm (e3.symm.trans e2)
        omega
      · rw [r] at e2
        have := R' v (e i a) hvm hv2 (e2.symm.trans e1)
        omega
      · by_cases lx : i2 < i ∨ (i2 = i ∧ a2 < a)
        · have := hb i2 a2 ha2 lx; omega
        · by_cases ly : i < i2 ∨ (i = i2 ∧ a < a2)
          · have := hb2 i a ha ly; omega
          · have h1 : i2 = i := by omega
            have h2 : a2 = a := by omega
            rw [h1, h2] at hd2
            omega
theorem uniq {L n m : Nat} {d e : Nat → Nat → Nat} {acc bcc : Nat → Bool} (C : Can L n d) (C' : Can L m e) (R : Red L n d acc) (R' : Red L m e bcc) (h : Eq2 L d acc e bcc 0 0) :
    n = m ∧ (∀ i a, i < n → a < L → d i a = e i a) ∧ ∀ i, i < n → acc i = bcc i := by
  have h1 := uniq1 C C' R R' h
  have h2 := uniq1 C' C R' R h.symm
  have hn : n = m := by
    rcases Nat.lt_trichotomy n m with q | q | q
    · exact absurd (h2 n q).1 (Nat.lt_irrefl _)
    · exact q
    · exact absurd (h1 m q).1 (Nat.lt_irrefl _)
  refine ⟨hn, fun i a hi ha => ?_, fun i hi => (h1 i hi).2.now⟩
  have c1 := C.cl i a hi ha
  have c2 := C'.cl i a (h1 i hi).1 ha
  exact R' _ _ (h1 _ c1).1 c2 ((h1 _ c1).2.symm.trans ((h1 i hi).2.step ha))
/-! ### numbers of blocks -/
/-- blocks numbered by first appearance along the places below m -/
def FA (m : Nat) (B : Nat → Nat) : Prop := ∀ j, j < m → ∀ b, b < B j → ∃ i, i < j ∧ B i = b
/-- n blocks -/
structure Blk (m n : Nat) (B : Nat → Nat) : Prop where
  lt : ∀ i, i < m → B i < n
  on : ∀ b, b < n → ∃ i, i < m ∧ B i = b
section
variable {m n : Nat} {B : Nat → Nat}
theorem least {P : Nat → Prop} {m : Nat} (h : ∃ i, i < m ∧ P i) : ∃ i, i < m ∧ P i ∧ ∀ j, j < i → ¬ P j := by
  obtain ⟨i, hi, hp⟩ := h
  induction i using Nat.strongRecOn with
  | _ i ih =>
    by_cases q : ∃ j, j < i ∧ P j
    · obtain ⟨j, hj, pj⟩ := q
      exact ih j hj (Nat.lt_trans hj hi) pj
    · exact ⟨i, hi, hp, fun j hj pj => q ⟨j, hj, pj⟩⟩
/-- a first place of each block -/
def IsFirst (m n : Nat) (B F : Nat → Nat) : Prop := ∀ b, b < n → F b < m ∧ B (F b) = b ∧ ∀ j, j < F b → B j ≠ b
theorem FA.zero (fa : FA m B) (hm : 0 < m) : B 0 = 0 := by
  rcases Nat.eq_zero_or_pos (B 0) with q | q
  · exact q
  · obtain ⟨i, hi, _⟩ := fa 0 hm 0 q; omega
theorem FA.before (fa : FA m B) {F : Nat → Nat} (hF : IsFirst m n B F) {b i : Nat} (hb : b < n) (hi : i < F b) : B i < b := by
  obtain ⟨h1, h2, h3⟩ := hF b hb
  rcases Nat.lt_trichotomy (B i) b with q | q | q
  · exact q
  · exact absurd q (h3 i hi)
  · obtain ⟨j, hj, e⟩ := fa i (Nat.lt_trans hi h1) b q
    exact absurd e (h3 j (Nat.lt_trans hj hi))
end
section
variable {L m n : Nat} {d : Nat → Nat → Nat} {acc : Nat → Bool} {B F : Nat → Nat}
/-- blocks are what lets the same -/
def Ner (L m : Nat) (d : Nat → Nat → Nat) (acc : Nat → Bool) (B : Nat → Nat) : Prop := ∀ i j, i < m → j < m → (B i = B j ↔ Eq2 L d acc d acc i j)
theorem quo_can (C : Can L m d) (fa : FA m B) (bk : Blk m n B) (ne : Ner L m d acc B) (hF : IsFirst m n B F) : Can L n (fun b a => B (d (F b) a)) := by
  refine ⟨?_, fun b a hb ha => bk.lt _ (C.cl _ a (hF b hb).1 ha), fun b h0 hb => ?_⟩
  · have := bk.lt 0 C.pos; omega
  · obtain ⟨p1, p2, p3⟩ := hF b hb
    have hp0 : 0 < F b := by
      rcases Nat.eq_zero_or_pos (F b) with q | q
      · rw [q, fa.zero C.pos] at p2; omega
      · exact q
    obtain ⟨i, a, hi, ha, hd, hbef⟩ := C.bf (F b) hp0 p1
    have him : i < m := Nat.lt_trans hi p1
    have hBi : B i < b := fa.before hF hb hi
    have hBn : B i < n := Nat.lt_trans hBi hb
    obtain ⟨f1, f2, f3⟩ := hF (B i) hBn
    have hle : F (B i) ≤ i := by
      rcases Nat.lt_or_ge i (F (B i)) with q | q
      · exact absurd rfl (f3 i q)
      · exact q
    have hsame : B (d (F (B i)) a) = b := by
      have e1 : Eq2 L d acc d acc (F (B i)) i := (ne _ _ f1 him).mp f2
      have e2 := (ne _ _ (C.cl _ a f1 ha) (C.cl _ a him ha)).mpr (e1.step ha)
      rw [e2, hd, p2]
    have hFi : F (B i) = i := by
      rcases Nat.lt_or_ge (F (B i)) i with q | q
      · exact absurd hsame (p3 _ (hbef _ a ha (.inl q)))
      · omega
    refine ⟨B i, a, hBi, ha, hsame, fun b' a' ha' hlex => ?_⟩
    have key : ∀ i', (i' < i ∨ (i' = i ∧ a' < a)) → B (d i' a') < b := fun i' hl => fa.before hF hb (hbef i' a' ha' hl)
    rcases hlex with q | ⟨q, q2⟩
    · obtain ⟨j, hj, ej⟩ := fa i him b' q
      have hb'n : b' < n := Nat.lt_trans q hBn
      obtain ⟨g1, g2, g3⟩ := hF b' hb'n
      have : F b' ≤ j := by
        rcases Nat.lt_or_ge j (F b') with z | z
        · exact absurd ej (g3 j z)
        · exact z
      exact key _ (.inl (by omega))
    · subst q
      exact key _ (.inr ⟨hFi, q2⟩)
theorem quo_run (C : Can L m d) (bk : Blk m n B) (ne : Ner L m d acc B) (hF : IsFirst m n B F) : ∀ (w : List Nat) (i : Nat), i < m → Ok L w → run (fun b a => B (d (F b) a)) (B i) w = B (run d i w) ∧ run d i w < m
  | [], i, hi, _ => ⟨rfl, hi⟩
  | a :: w, i, hi, hw => by
    have ha := hw.head
    obtain ⟨f1, f2, _⟩ := hF (B i) (bk.lt i hi)
    have e1 : Eq2 L d acc d acc (F (B i)) i := (ne _ _ f1 hi).mp f2
    have e2 : B (d (F (B i)) a) = B (d i a) := (ne _ _ (C.cl _ a f1 ha) (C.cl _ a hi ha)).mpr (e1.step ha)
    unfold run
    show run _ (B (d (F (B i)) a)) w = _ ∧ _
    rw [e2]
    exact quo_run C bk ne hF w (d i a) (C.cl i a hi ha) hw.tail
theorem quo_eq (C : Can L m d) (bk : Blk m n B) (ne : Ner L m d acc B) (hF : IsFirst m n B F) {i : Nat} (hi : i < m) : Eq2 L d acc (fun b a => B (d (F b) a)) (fun b => acc (F b)) i (B i) := fun w hw => by
  obtain ⟨h1, h2⟩ := quo_run C bk ne hF w i hi hw
  rw [h1]
  obtain ⟨f1, f2, _⟩ := hF (B (run d i w)) (bk.lt _ h2)
  exact (((ne _ _ f1 h2).mp f2).now).symm
theorem quo_red (C : Can L m d) (bk : Blk m n B) (ne : Ner L m d acc B) (hF : IsFirst m n B F) : Red L n (fun b a => B (d (F b) a)) (fun b => acc (F b)) := fun b c hb hc h => by
  obtain ⟨f1, f2, _⟩ := hF b hb
  obtain ⟨g1, g2, _⟩ := hF c hc
  have e1 := quo_eq C bk ne hF f1
  have e2 := quo_eq C bk ne hF g1
  rw [f2] at e1
  rw [g2] at e2
  have := (ne _ _ f1 g1).mpr (e1.trans (h.trans e2.symm))
  rw [f2, g2] at this
  exact this
end
/-! ### refinement -/
def E (L : Nat) (d : Nat → Nat → Nat) (acc : Nat → Bool) : Nat → Nat → Nat → Prop
  | 0, i, j => acc i = acc j
  | k + 1, i, j => E L d acc k i j ∧ ∀ a, a < L → E L d acc k (d i a) (d j a)
section
variable {L m : Nat} {d : Nat → Nat → Nat} {acc : Nat → Bool}
theorem E_of : ∀ (k i j : Nat), Eq2 L d acc d acc i j → E L d acc k i j
  | 0, _, _, h => h.now
  | k + 1, i, j, h => ⟨E_of k i j h, fun a ha => E_of k _ _ (h.step ha)⟩
def Stable (L m : Nat) (d : Nat → Nat → Nat) (acc : Nat → Bool) (k : Nat) : Prop := ∀ i j, i < m → j < m → E L d acc k i j → E L d acc (k + 1) i j
theorem E_zero : ∀ (k i j : Nat), E L d acc k i j → acc i = acc j
  | 0, _, _, h => h
  | k + 1, i, j, h => E_zero k i j h.1
theorem Stable.eq2 (cl : ∀ i a, i < m → a < L → d i a < m) {k : Nat} (s : Stable L m d acc k) : ∀ (w : List Nat) (i j : Nat), i < m → j < m → E L d acc k i j → Ok L w → acc (run d i w) = acc (run d j w)
  | [], i, j, _, _, h, _ => E_zero k i j h
  | a :: w, i, j, hi, hj, h, hw => Stable.eq2 cl s w (d i a) (d j a) (cl i a hi hw.head) (cl j a hj hw.head) ((s i j hi hj h).2 a hw.head) hw.tail
theorem Stable.ner (cl : ∀ i a, i < m → a < L → d i a < m) {k : Nat} (s : Stable L m d acc k) {i j : Nat} (hi : i < m) (hj : j < m) : E L d acc k i j ↔ Eq2 L d acc d acc i j :=
  ⟨fun h w hw => s.eq2 cl w i j hi hj h hw, E_of k i j⟩
theorem Stable.succ (cl : ∀ i a, i < m → a < L → d i a < m) {k : Nat} (s : Stable L m d acc k) : Stable L m d acc (k + 1) := fun i j hi hj h => E_of _ i j ((s.ner cl hi hj).mp h.1)
theorem Stable.le (cl : ∀ i a, i < m → a < L → d i a < m) {k l : Nat} (s : Stable L m d acc k) (h : k ≤ l) : Stable L m d acc l := by
  induction h with
  | refl => exact s
  | step _ ih => exact ih.succ cl
end
end Ma

/-! Mb -/
/-! Mb: counts of blocks; numbers by first appearance in a list; the least form as lists. -/
namespace Ma
theorem surj_le : ∀ (n n' : Nat) (g : Nat → Nat), (∀ b, b < n → ∃ c, c < n' ∧ g c = b) → n ≤ n'
  | 0, _, _, _ => Nat.zero_le _
  | n + 1, n', g, h => by
    obtain ⟨c, hc, e⟩ := h n (Nat.lt_succ_self n)
    have := surj_le n (n' - 1) (fun x => if x < c then g x else g (x + 1)) fun b hb => by
      obtain ⟨y, hy, ey⟩ := h b (Nat.lt_succ_of_lt hb)
      by_cases q : y < c
      · exact ⟨y, by omega, by simp only [q, if_true]; exact ey⟩
      · have : y ≠ c := fun z => by rw [z, e] at ey; omega
        refine ⟨y - 1, by omega, ?_⟩
        have h1 : ¬ y - 1 < c := by omega
        simp only [h1, if_false]
        rw [show y - 1 + 1 = y by omega]
        exact ey
    omega
theorem surj_inj {n : Nat} {g : Nat → Nat} (h : ∀ b, b < n → ∃ c, c < n ∧ g c = b) {x y : Nat} (hx : x < n) (hy : y < n) (e : g x = g y) : x = y := by
  have key : ∀ x y, x < y → y < n → g x = g y → False := fun x y hxy hy e => by
    have := surj_le n (n - 1) (fun z => if z < y then g z else g (z + 1)) fun b hb => by
      obtain ⟨z, hz, ez⟩ := h b hb
      by_cases q : z < y
      · exact ⟨z, by omega, by simp only [q, if_true]; exact ez⟩
      · by_cases q2 : z = y
        · refine ⟨x, by omega, ?_⟩
          simp only [hxy, if_true]
          rw [e, ← q2, ez]
        · refine ⟨z - 1, by omega, ?_⟩
          have h1 : ¬ z - 1 < y := by omega
          simp only [h1, if_false]
          rw [show z - 1 + 1 = z by omega]
          exact ez
    omega
  rcases Nat.lt_trichotomy x y with q | q | q
  · exact (key x y q hy e).elim
  · exact q
  · exact (key y x q hx e.symm).elim
/-- B tells E k apart -/
def Lab (L m : Nat) (d : Nat → Nat → Nat) (acc : Nat → Bool) (k : Nat) (B : Nat → Nat) : Prop := ∀ i j, i < m → j < m → (B i = B j ↔ E L d acc k i j)
section
variable {L m n n' k : Nat} {d : Nat → Nat → Nat} {acc : Nat → Bool} {B B' : Nat → Nat}
theorem cnt_le (b : Blk m n B) (b' : Blk m n' B') (l : Lab L m d acc k B) (l' : Lab L m d acc (k + 1) B') : n ≤ n' ∧ (n = n' → Stable L m d acc k) := by
  have pick : ∀ c, ∃ i, c < n' → i < m ∧ B' i = c := fun c => by
    by_cases q : c < n'
    · obtain ⟨i, h⟩ := b'.on c q; exact ⟨i, fun _ => h⟩
    · exact ⟨0, fun z => absurd z q⟩
  obtain ⟨G, hG⟩ := Classical.axiomOfChoice pick
  have sur : ∀ x, x < n → ∃ c, c < n' ∧ B (G c) = x := fun x hx => by
    obtain ⟨i, hi, e⟩ := b.on x hx
    refine ⟨B' i, b'.lt i hi, ?_⟩
    obtain ⟨g1, g2⟩ := hG (B' i) (b'.lt i hi)
    rw [← e]
    exact (l _ _ g1 hi).mpr ((l' _ _ g1 hi).mp g2).1
  refine ⟨surj_le n n' _ sur, fun e i j hi hj h => ?_⟩
  subst e
  refine (l' i j hi hj).mp ?_
  obtain ⟨i1, i2⟩ := hG (B' i) (b'.lt i hi)
  obtain ⟨j1, j2⟩ := hG (B' j) (b'.lt j hj)
  have a1 : B (G (B' i)) = B i := (l _ _ i1 hi).mpr ((l' _ _ i1 hi).mp i2).1
  have a2 : B (G (B' j)) = B j := (l _ _ j1 hj).mpr ((l' _ _ j1 hj).mp j2).1
  exact surj_inj sur (b'.lt i hi) (b'.lt j hj) (by rw [a1, a2]; exact (l i j hi hj).mpr h)
theorem blk_le (b : Blk m n B) : n ≤ m := surj_le n m B fun x hx => b.on x hx
theorem fa_same (h : FA m B) (h' : FA m B') (s : ∀ i j, i < m → j < m → (B i = B j ↔ B' i = B' j)) : ∀ i, i < m → B i = B' i := by
  intro i
  induction i using Nat.strongRecOn with
  | _ i ih =>
    intro hi
    rcases Nat.lt_trichotomy (B i) (B' i) with q | q | q
    · obtain ⟨j, hj, e⟩ := h' i hi _ q
      have hjm := Nat.lt_trans hj hi
      have e2 : B j = B i := (ih j hj hjm).trans e
      have e3 := (s j i hjm hi).mp e2
      omega
    · exact q
    · obtain ⟨j, hj, e⟩ := h i hi _ q
      have hjm := Nat.lt_trans hj hi
      have e2 : B' j = B' i := (ih j hj hjm).symm.trans e
      have e3 := (s j i hjm hi).mpr e2
      omega
end
/-- the blocks of a sequence of labels: there is a stable one below the number of places -/
theorem stable_by {L m : Nat} {d : Nat → Nat → Nat} {acc : Nat → Bool} (cl : ∀ i a, i < m → a < L → d i a < m) (hm : 0 < m) (B : Nat → Nat → Nat) (n : Nat → Nat) (b : ∀ k, Blk m (n k) (B k)) (l : ∀ k, Lab L m d acc k (B k)) : Stable L m d acc (m - 1) := by
  have key : ∀ k, Stable L m d acc k ∨ k + 2 ≤ n (k + 1) := by
    intro k
    induction k with
    | zero =>
      obtain ⟨h1, h2⟩ := cnt_le (b 0) (b 1) (l 0) (l 1)
      by_cases q : n 0 = n 1
      · exact .inl (h2 q)
      · have : 0 < n 0 := by have := (b 0).lt 0 hm; omega
        exact .inr (by show 0 + 2 ≤ n 1; omega)
    | succ k ih =>
      rcases ih with q | q
      · exact .inl (q.succ cl)
      · obtain ⟨h1, h2⟩ := cnt_le (b (k + 1)) (b (k + 2)) (l (k + 1)) (l (k + 2))
        by_cases z : n (k + 1) = n (k + 2)
        · exact .inl (h2 z)
        · have h1 : n (k + 1) ≤ n (k + 2) := h1
          exact .inr (by show k + 1 + 2 ≤ n (k + 2); omega)
  rcases key (m - 1) with q | q
  · exact q
  · have := blk_le (b (m - 1 + 1)); omega
/-! ### lists -/
section
variable {κ : Type} [DecidableEq κ]
def num : List κ → List κ → List Nat
  | _, [] => []
  | seen, x :: xs => if x ∈ seen then seen.idxOf x :: num seen xs else seen.length :: num (seen ++ [x]) xs
def ded : List κ → List κ → List κ
  | seen, [] => seen
  | seen, x :: xs => if x ∈ seen then ded seen xs else ded (seen ++ [x]) xs
theorem num_len : ∀ (seen xs : List κ), (num seen xs).length = xs.length
  | _, [] => rfl
  | seen, x :: xs => by
    rw [num]
    split
    · rw [List.length_cons, List.length_cons, num_len seen xs]
    · rw [List.length_cons, List.length_cons, num_len _ xs]
theorem ded_pre : ∀ (seen xs : List κ), ∃ t, ded seen xs = seen ++ t
  | seen, [] => ⟨[], by rw [ded, List.append_nil]⟩
  | seen, x :: xs => by
    rw [ded]
    split
    · exact ded_pre seen xs
    · obtain ⟨t, e⟩ := ded_pre (seen ++ [x]) xs
      exact ⟨[x] ++ t, by rw [e, List.append_assoc]⟩
theorem idx_app {l t : List κ} {x : κ} (h : x ∈ l) : (l ++ t).idxOf x = l.idxOf x := by rw [List.idxOf_append, if_pos h]
theorem num_eq : ∀ (seen xs : List κ), num seen xs = xs.map (ded seen xs).idxOf
  | _, [] => rfl
  | seen, x :: xs => by
    rw [num, ded, List.map_cons]
    by_cases h : x ∈ seen
    · rw [if_pos h, if_pos h, num_eq seen xs]
      obtain ⟨t, e⟩ := ded_pre seen xs
      rw [e, idx_app h]
    · rw [if_neg h, if_neg h, num_eq _ xs]
      obtain ⟨t, e⟩ := ded_pre (seen ++ [x]) xs
      congr 1
      rw [e, idx_app (by simp), List.idxOf_append, if_neg h]
      simp
theorem ded_mem : ∀ (seen xs : List κ) (y : κ), y ∈ ded seen xs ↔ y ∈ seen ∨ y ∈ xs
  | seen, [], y => by rw [ded]; simp
  | seen, x :: xs, y => by
    rw [ded]
    by_cases h : x ∈ seen
    · rw [if_pos h, ded_mem seen xs y, List.mem_cons]
      constructor
      · rintro (q | q)
        · exact .inl q
        · exact .inr (.inr q)
      · rintro (q | rfl | q)
        · exact .inl q
        · exact .inl h
        · exact .inr q
    · rw [if_neg h, ded_mem _ xs y, List.mem_cons, List.mem_append, List.mem_singleton]
      constructor
      · rintro ((q | q) | q)
        · exact .inl q
        · exact .inr (.inl q)
        · exact .inr (.inr q)
      · rintro (q | q | q)
        · exact .inl (.inl q)
        · exact .inl (.inr q)
        · exact .inr q
theorem ded_nodup : ∀ (seen xs : List κ), seen.Nodup → (ded seen xs).Nodup
  | seen, [], h => by rw [ded]; exact h
  | seen, x :: xs, h => by
    rw [ded]
    by_cases q : x ∈ seen
    · rw [if_pos q]; exact ded_nodup seen xs h
    · rw [if_neg q]
      refine ded_nodup _ xs ?_
      rw [List.nodup_append]
      refine ⟨h, by simp, fun a ha b hb => ?_⟩
      rw [List.mem_singleton] at hb
      intro z
      rw [z, hb] at ha
      exact q ha
/-- the number at a place -/
def at0 (l : List Nat) (i : Nat) : Nat := l.getD i 0
theorem num_at {xs : List κ} {i : Nat} (hi : i < xs.length) : at0 (num [] xs) i = (ded [] xs).idxOf xs[i] := by
  unfold at0
  rw [num_eq, List.getD_eq_getElem?_getD, List.getElem?_map, List.getElem?_eq_getElem hi]
  rfl
theorem num_same {xs : List κ} {i j : Nat} (hi : i < xs.length) (hj : j < xs.length) : at0 (num [] xs) i = at0 (num [] xs) j ↔ xs[i] = xs[j] := by
  rw [num_at hi, num_at hj]
  constructor
  · intro h
    have m1 : xs[i] ∈ ded [] xs := (ded_mem [] xs _).mpr (.inr (List.getElem_mem hi))
    have m2 : xs[j] ∈ ded [] xs := (ded_mem [] xs _).mpr (.inr (List.getElem_mem hj))
    have l1 := List.idxOf_lt_length_of_mem m1
    have l2 := List.idxOf_lt_length_of_mem m2
    have e1 : (ded [] xs)[(ded [] xs).idxOf xs[i]] = xs[i] := List.getElem_idxOf l1
    have e2 : (ded [] xs)[(ded [] xs).idxOf xs[j]] = xs[j] := List.getElem_idxOf l2
    rw [← e1, ← e2]
    simp only [h]
  · intro h; rw [h]
theorem num_blk (xs : List κ) : Blk xs.length (ded [] xs).length (at0 (num [] xs)) := by
  refine ⟨fun i hi => ?_, fun b hb => ?_⟩
  · rw [num_at hi]
    exact List.idxOf_lt_length_of_mem ((ded_mem [] xs _).mpr (.inr (List.getElem_mem hi)))
  · have m : (ded [] xs)[b] ∈ xs := by
      rcases (ded_mem [] xs _).mp (List.getElem_mem hb) with q | q
      · cases q
      · exact q
    obtain ⟨i, hi, e⟩ := List.mem_iff_getElem.mp m
    refine ⟨i, hi, ?_⟩
    rw [num_at hi, e]
    exact (ded_nodup [] xs List.nodup_nil).idxOf_getElem b hb
theorem num_fa_gen : ∀ (seen xs : List κ) (j : Nat), j < xs.length → ∀ b, b < at0 (num seen xs) j → b < seen.length ∨ ∃ i, i < j ∧ at0 (num seen xs) i = b
  | seen, x :: xs, 0, _, b, hb => by
    left
    rw [num] at hb
    by_cases q : x ∈ seen
    · rw [if_pos q] at hb
      have : seen.idxOf x < seen.length := List.idxOf_lt_length_of_mem q
      have hb : b < seen.idxOf x := hb
      omega
    · rw [if_neg q] at hb
      exact hb
  | seen, x :: xs, j + 1, hj, b, hb => by
    rw [num] at hb ⊢
    by_cases q : x ∈ seen
    · rw [if_pos q] at hb ⊢
      rcases num_fa_gen seen xs j (by simpa using hj) b hb with z | ⟨i, hi, e⟩
      · exact .inl z
      · exact .inr ⟨i + 1, by omega, e⟩
    · rw [if_neg q] at hb ⊢
      rcases num_fa_gen (seen ++ [x]) xs j (by simpa using hj) b hb with z | ⟨i, hi, e⟩
      · rw [List.length_append, List.length_singleton] at z
        by_cases y : b = seen.length
        · exact .inr ⟨0, by omega, y.symm⟩
        · exact .inl (by omega)
      · exact .inr ⟨i + 1, by omega, e⟩
theorem num_fa (xs : List κ) : FA xs.length (at0 (num [] xs)) := fun j hj b hb => by
  rcases num_fa_gen [] xs j hj b hb with z | z
  · simp at z
  · exact z
end
end Ma

/-! Mc -/
/-! Mc: the states reached, in their sequence. -/
namespace Ma
abbrev Steps := List (List Nat)
def nx (S : Steps) (s a : Nat) : Nat := (S.getD s []).getD a 0
/-- n states, L letters -/
structure Good (L n : Nat) (S : Steps) : Prop where
  len : S.length = n
  pos : 0 < n
  row : ∀ r ∈ S, r.length = L ∧ ∀ x ∈ r, x < n
section
variable {L n : Nat} {S : Steps}
theorem Good.at (g : Good L n S) {s : Nat} (h : s < n) : (S.getD s []).length = L ∧ ∀ x ∈ S.getD s [], x < n := by
  have h' : s < S.length := by rw [g.len]; exact h
  rw [List.getD_eq_getElem?_getD, List.getElem?_eq_getElem h']
  exact g.row _ (List.getElem_mem h')
theorem Good.nx (g : Good L n S) {s a : Nat} (h : s < n) (ha : a < L) : nx S s a < n := by
  obtain ⟨h1, h2⟩ := g.at h
  have ha' : a < (S.getD s []).length := by rw [h1]; exact ha
  unfold Ma.nx
  rw [List.getD_eq_getElem?_getD, List.getElem?_eq_getElem ha']
  exact h2 _ (List.getElem_mem ha')
end
def put (ks : List Nat) (x : Nat) : List Nat := if x ∈ ks then ks else ks ++ [x]
def bfsRow (ks row : List Nat) : List Nat := row.foldl put ks
def bfs (S : Steps) : Nat → Nat → List Nat → List Nat
  | 0, _, ks => ks
  | f + 1, i, ks => if i < ks.length then bfs S f (i + 1) (bfsRow ks (S.getD (ks.getD i 0) [])) else ks
/-- what holds when the places ahead of (p, q) have been looked at -/
structure BInv (L n : Nat) (S : Steps) (p q : Nat) (ks : List Nat) : Prop where
  nd : ks.Nodup
  hd : ks.getD 0 0 = 0
  pos : 0 < ks.length
  lt : ∀ x ∈ ks, x < n
  cl : ∀ i a, a < L → (i < p ∨ (i = p ∧ a < q)) → i < ks.length ∧ nx S (ks.getD i 0) a ∈ ks
  bf : ∀ j, 0 < j → j < ks.length → ∃ i a, i < j ∧ a < L ∧ (i < p ∨ (i = p ∧ a < q)) ∧ nx S (ks.getD i 0) a = ks.getD j 0 ∧ ∀ i' a', a' < L → (i' < i ∨ (i' = i ∧ a' < a)) → ks.idxOf (nx S (ks.getD i' 0) a') < j
section
variable {L n p q : Nat} {S : Steps} {ks : List Nat}
theorem getD_app {ks t : List Nat} {i : Nat} (h : i < ks.length) : (ks ++ t).getD i 0 = ks.getD i 0 := by
  rw [List.getD_eq_getElem?_getD, List.getD_eq_getElem?_getD, List.getElem?_append_left h]
theorem BInv.start (hn : 0 < n) : BInv L n S 0 0 [0] where
  nd := by simp
  hd := rfl
  pos := by simp
  lt := fun x hx => by rw [List.mem_singleton] at hx; omega
  cl := fun i a _ h => by omega
  bf := fun j h1 h2 => by simp at h2; omega
theorem BInv.next (g : Good L n S) (I : BInv L n S p q ks) (hp : p < ks.length) (hq : q < L) : BInv L n S p (q + 1) (put ks (nx S (ks.getD p 0) q)) := by
  have hpn : ks.getD p 0 < n := by
    rw [List.getD_eq_getElem?_getD, List.getElem?_eq_getElem hp]; exact I.lt _ (List.getElem_mem hp)
  have hx := g.nx hpn hq
  unfold put
  by_cases m : nx S (ks.getD p 0) q ∈ ks
  · rw [if_pos m]
    refine ⟨I.nd, I.hd, I.pos, I.lt, fun i a ha h => ?_, fun j h1 h2 => ?_⟩
    · by_cases z : i = p ∧ a = q
      · rw [z.1, z.2]; exact ⟨hp, m⟩
      · exact I.cl i a ha (by omega)
    · obtain ⟨i, a, b1, b2, b3, b4⟩ := I.bf j h1 h2
      exact ⟨i, a, b1, b2, by omega, b4⟩
  · rw [if_neg m]
    have len : (ks ++ [nx S (ks.getD p 0) q]).length = ks.length + 1 := by simp
    refine ⟨?_, ?_, by omega, fun x hx' => ?_, fun i a ha h => ?_, fun j h1 h2 => ?_⟩
    · rw [List.nodup_append]
      refine ⟨I.nd, by simp, fun a ha b hb => ?_⟩
      rw [List.mem_singleton] at hb
      intro z
      rw [z, hb] at ha
      exact m ha
    · rw [getD_app I.pos]; exact I.hd
    · rcases List.mem_append.mp hx' with z | z
      · exact I.lt x z
      · rw [List.mem_singleton] at z; rw [z]; exact hx
    · by_cases z : i = p ∧ a = q
      · rw [z.1, z.2, getD_app hp]; exact ⟨by omega, by simp⟩
      · obtain ⟨c1, c2⟩ := I.cl i a ha (by omega)
        rw [getD_app c1]
        exact ⟨by omega, List.mem_append_left _ c2⟩
    · by_cases z : j < ks.length
      · obtain ⟨i, a, b1, b2, b3, b4, b5⟩ := I.bf j h1 z
        refine ⟨i, a, b1, b2, by omega, by rw [getD_app (by omega), getD_app z]; exact b4, fun i' a' ha' hl => ?_⟩
        obtain ⟨c1, c2⟩ := I.cl i' a' ha' (by omega)
        rw [getD_app c1, List.idxOf_append, if_pos c2]
        exact b5 i' a' ha' hl
      · have ej : j = ks.length := by omega
        subst ej
        refine ⟨p, q, hp, hq, by omega, ?_, fun i' a' ha' hl => ?_⟩
        · rw [getD_app hp]
          rw [List.getD_eq_getElem?_getD (l := ks ++ _), List.getElem?_append_right (Nat.le_refl _)]
          simp
        · obtain ⟨c1, c2⟩ := I.cl i' a' ha' (by omega)
          rw [getD_app c1, List.idxOf_append, if_pos c2]
          exact List.idxOf_lt_length_of_mem c2
theorem BInv.up (I : BInv L n S p L ks) : BInv L n S (p + 1) 0 ks where
  nd := I.nd
  hd := I.hd
  pos := I.pos
  lt := I.lt
  cl := fun i a ha h => I.cl i a ha (by omega)
  bf := fun j h1 h2 => by
    obtain ⟨i, a, b1, b2, b3, b4⟩ := I.bf j h1 h2
    exact ⟨i, a, b1, b2, by omega, b4⟩
theorem put_len (ks : List Nat) (x : Nat) : ks.length ≤ (put ks x).length := by unfold put; split <;> simp
theorem put_at {ks : List Nat} {x i : Nat} (h : i < ks.length) : (put ks x).getD i 0 = ks.getD i 0 := by
  unfold put
  split
  · rfl
  · exact getD_app h
theorem row_go (g : Good L n S) (hp : p < ks.length) : ∀ (t : List Nat) (q : Nat) (ls : List Nat), BInv L n S p q ls → p < ls.length → ls.getD p 0 = ks.getD p 0 → (S.getD (ks.getD p 0) []).drop q = t → q ≤ L → (hl : (S.getD (ks.getD p 0) []).length = L) → BInv L n S p L (t.foldl put ls) ∧ ls.length ≤ (t.foldl put ls).length
  | [], q, ls, I, h1, h2, h3, hq, hl => by
    have : q = L := by
      have := congrArg List.length h3
      rw [List.length_drop, hl] at this
      simp at this
      omega
    subst this
    exact ⟨I, Nat.le_refl _⟩
  | x :: t, q, ls, I, h1, h2, h3, hq, hl => by
    have hqL : q < L := by
      rcases Nat.lt_or_ge q L with z | z
      · exact z
      · rw [List.drop_eq_nil_of_le (by omega)] at h3; cases h3
    have ex : x = nx S (ls.getD p 0) q := by
      unfold nx
      rw [h2, List.getD_eq_getElem?_getD (i := q)]
      have hqq : q < (S.getD (ks.getD p 0) []).length := by omega
      rw [List.drop_eq_getElem_cons hqq] at h3
      rw [List.getElem?_eq_getElem hqq]
      exact (List.cons.inj h3).1.symm
    have et : (S.getD (ks.getD p 0) []).drop (q + 1) = t := by
      have hqq : q < (S.getD (ks.getD p 0) []).length := by omega
      rw [List.drop_eq_getElem_cons hqq] at h3
      exact (List.cons.inj h3).2
    have I2 := I.next g h1 hqL
    rw [← ex] at I2
    have := row_go g hp t (q + 1) (put ls x) I2 (Nat.lt_of_lt_of_le h1 (put_len _ _)) (by rw [put_at h1]; exact h2) et hqL hl
    exact ⟨this.1, Nat.le_trans (put_len _ _) this.2⟩
theorem BInv.rowOk (g : Good L n S) (I : BInv L n S p 0 ks) (hp : p < ks.length) : BInv L n S (p + 1) 0 (bfsRow ks (S.getD (ks.getD p 0) [])) ∧ ks.length ≤ (bfsRow ks (S.getD (ks.getD p 0) [])).length := by
  have hpn : ks.getD p 0 < n := by
    rw [List.getD_eq_getElem?_getD, List.getElem?_eq_getElem hp]; exact I.lt _ (List.getElem_mem hp)
  obtain ⟨h1, h2⟩ := row_go g hp _ 0 ks I hp rfl rfl (Nat.zero_le _) (g.at hpn).1
  exact ⟨h1.up, h2⟩
theorem nodup_le : ∀ (ks : List Nat) (n : Nat), ks.Nodup → (∀ x ∈ ks, x < n) → ks.length ≤ n := fun ks n nd lt =>
  surj_le ks.length n (fun x => ks.idxOf x) fun b hb => ⟨ks[b], lt _ (List.getElem_mem hb), nd.idxOf_getElem b hb⟩
theorem bfs_ok (g : Good L n S) : ∀ (f p : Nat) (ks : List Nat), BInv L n S p 0 ks → p ≤ ks.length → n - p < f → BInv L n S (bfs S f p ks).length 0 (bfs S f p ks) ∧ (bfs S f p ks).length ≤ n
  | 0, _, _, _, _, h => by omega
  | f + 1, p, ks, I, hp, hf => by
    have hle := nodup_le ks n I.nd I.lt
    rw [bfs]
    by_cases q : p < ks.length
    · rw [if_pos q]
      obtain ⟨I2, l2⟩ := I.rowOk g q
      exact bfs_ok g f (p + 1) _ I2 (by omega) (by omega)
    · rw [if_neg q]
      have : p = ks.length := by omega
      rw [this] at I
      exact ⟨I, hle⟩
/-- the states reached -/
def keys (n : Nat) (S : Steps) : List Nat := bfs S (n + 1) 0 [0]
/-- the steps between places -/
def stp (K : List Nat) (S : Steps) (i a : Nat) : Nat := K.idxOf (nx S (K.getD i 0) a)
structure Reach (L n : Nat) (S : Steps) (K : List Nat) : Prop where
  nd : K.Nodup
  hd : K.getD 0 0 = 0
  pos : 0 < K.length
  le : K.length ≤ n
  lt : ∀ x ∈ K, x < n
  cl : ∀ i a, i < K.length → a < L → nx S (K.getD i 0) a ∈ K
  can : Can L K.length (stp K S)
theorem keys_ok (g : Good L n S) : Reach L n S (keys n S) := by
  obtain ⟨I, le⟩ := bfs_ok g (n + 1) 0 [0] (BInv.start g.pos) (by simp) (by omega)
  refine ⟨I.nd, I.hd, I.pos, le, I.lt, fun i a hi ha => (I.cl i a ha (.inl hi)).2, ⟨I.pos, fun i a hi ha => List.idxOf_lt_length_of_mem (I.cl i a ha (.inl hi)).2, fun j h1 h2 => ?_⟩⟩
  obtain ⟨i, a, b1, b2, b3, b4, b5⟩ := I.bf j h1 h2
  refine ⟨i, a, b1, b2, ?_, b5⟩
  unfold stp
  show (keys n S).idxOf _ = j
  have b4' : nx S ((keys n S).getD i 0) a = (keys n S).getD j 0 := b4
  rw [b4']
  have hj : j < (keys n S).length := h2
  rw [List.getD_eq_getElem?_getD, List.getElem?_eq_getElem hj]
  exact I.nd.idxOf_getElem j h2
end
end Ma

/-! Md -/
/-! Md: the least form, by the program's blocks and by the law's marks. -/
namespace Ma
section
variable (L n : Nat) (S : Steps) (ends : List Nat)
def accS (s : Nat) : Bool := decide (s ∈ ends)
def accP (K : List Nat) (i : Nat) : Bool := accS ends (K.getD i 0)
/-- a place's row -/
def rowP (B : Nat → Nat) (K : List Nat) (i : Nat) : List Nat := B i :: (List.range L).map fun a => B (stp K S i a)
def PB (K : List Nat) : Nat → List Nat
  | 0 => num [] ((List.range K.length).map (accP ends K))
  | k + 1 => num [] ((List.range K.length).map (rowP L S (at0 (PB K k)) K))
def PN (K : List Nat) : Nat → Nat
  | 0 => (ded [] ((List.range K.length).map (accP ends K))).length
  | k + 1 => (ded [] ((List.range K.length).map (rowP L S (at0 (PB L S ends K k)) K))).length
end
section
variable {L n : Nat} {S : Steps} {ends : List Nat} {K : List Nat}
theorem map_inj_range {κ : Type} {f g : Nat → κ} : ∀ L : Nat, (List.range L).map f = (List.range L).map g ↔ ∀ a, a < L → f a = g a := fun L => by
  rw [List.map_inj_left]
  constructor
  · intro h a ha; exact h a (List.mem_range.mpr ha)
  · intro h a ha; exact h a (List.mem_range.mp ha)
theorem PB_len (k : Nat) : (PB L S ends K k).length = K.length := by cases k <;> (rw [PB, num_len]; simp)
theorem PB_fa (k : Nat) : FA K.length (at0 (PB L S ends K k)) := by
  cases k with
  | zero =>
    have := num_fa ((List.range K.length).map (accP ends K))
    rw [List.length_map, List.length_range] at this
    exact this
  | succ k =>
    have := num_fa ((List.range K.length).map (rowP L S (at0 (PB L S ends K k)) K))
    rw [List.length_map, List.length_range] at this
    exact this
theorem PB_blk (k : Nat) : Blk K.length (PN L S ends K k) (at0 (PB L S ends K k)) := by
  cases k with
  | zero =>
    have := num_blk ((List.range K.length).map (accP ends K))
    rw [List.length_map, List.length_range] at this
    exact this
  | succ k =>
    have := num_blk ((List.range K.length).map (rowP L S (at0 (PB L S ends K k)) K))
    rw [List.length_map, List.length_range] at this
    exact this
theorem PB_lab (R : Reach L n S K) (k : Nat) : Lab L K.length (stp K S) (accP ends K) k (at0 (PB L S ends K k)) := by
  induction k with
  | zero =>
    intro i j hi hj
    have := num_same (xs := (List.range K.length).map (accP ends K)) (i := i) (j := j) (by simpa using hi) (by simpa using hj)
    rw [PB, this]
    simp [E]
  | succ k ih =>
    intro i j hi hj
    have := num_same (xs := (List.range K.length).map (rowP L S (at0 (PB L S ends K k)) K)) (i := i) (j := j) (by simpa using hi) (by simpa using hj)
    rw [PB, this]
    simp only [List.getElem_map, List.getElem_range, rowP, List.cons.injEq, E]
    rw [map_inj_range]
    constructor
    · rintro ⟨h1, h2⟩
      exact ⟨(ih i j hi hj).mp h1, fun a ha => (ih _ _ (R.can.cl i a hi ha) (R.can.cl j a hj ha)).mp (h2 a ha)⟩
    · rintro ⟨h1, h2⟩
      exact ⟨(ih i j hi hj).mpr h1, fun a ha => (ih _ _ (R.can.cl i a hi ha) (R.can.cl j a hj ha)).mpr (h2 a ha)⟩
theorem all_stable (R : Reach L n S K) : Stable L K.length (stp K S) (accP ends K) (K.length - 1) :=
  stable_by R.can.cl R.pos (fun k => at0 (PB L S ends K k)) (PN L S ends K) PB_blk (PB_lab R)
theorem lab_ner (R : Reach L n S K) {k : Nat} {B : Nat → Nat} (s : Stable L K.length (stp K S) (accP ends K) k) (l : Lab L K.length (stp K S) (accP ends K) k B) : Ner L K.length (stp K S) (accP ends K) B := fun i j hi hj => (l i j hi hj).trans (s.ner R.can.cl hi hj)
/-- the blocks that the program stops at -/
theorem PB_stop (R : Reach L n S K) {k : Nat} (e : PN L S ends K k = PN L S ends K (k + 1)) : Ner L K.length (stp K S) (accP ends K) (at0 (PB L S ends K (k + 1))) :=
  lab_ner R (((cnt_le (PB_blk k) (PB_blk (k + 1)) (PB_lab R k) (PB_lab R (k + 1))).2 e).succ R.can.cl) (PB_lab R (k + 1))
theorem PN_mono (R : Reach L n S K) (k : Nat) : PN L S ends K k ≤ PN L S ends K (k + 1) := (cnt_le (PB_blk k) (PB_blk (k + 1)) (PB_lab R k) (PB_lab R (k + 1))).1
theorem PN_le (R : Reach L n S K) (k : Nat) : PN L S ends K k ≤ n := Nat.le_trans (blk_le (PB_blk k)) R.le
theorem PN_pos (R : Reach L n S K) (k : Nat) : 0 < PN L S ends K k := by have := (PB_blk (L := L) (S := S) (ends := ends) (K := K) k).lt 0 R.pos; omega
/-! ### by marks -/
/-- one turn of marks; T tells the rows' sequence -/
structure MTurn (S : Steps) (K : List Nat) (M M' : Nat → Int) : Prop where
  same : ∀ s t, s ∈ K → t ∈ K → (M' s = M' t ↔ (M s :: (S.getD s []).map M) = (M t :: (S.getD t []).map M))
theorem MT_lab (R : Reach L n S K) (g : Good L n S) {k : Nat} {M M' : Nat → Int} (t : MTurn S K M M') (h : ∀ i j, i < K.length → j < K.length → (M (K.getD i 0) = M (K.getD j 0) ↔ E L (stp K S) (accP ends K) k i j)) :
    ∀ i j, i < K.length → j < K.length → (M' (K.getD i 0) = M' (K.getD j 0) ↔ E L (stp K S) (accP ends K) (k + 1) i j) := fun i j hi hj => by
  have km : ∀ i, i < K.length → K.getD i 0 ∈ K := fun i hi => by rw [List.getD_eq_getElem?_getD, List.getElem?_eq_getElem hi]; exact List.getElem_mem hi
  have idx : ∀ x, x ∈ K → K.getD (K.idxOf x) 0 = x := fun x hx => by
    have := List.idxOf_lt_length_of_mem hx
    rw [List.getD_eq_getElem?_getD, List.getElem?_eq_getElem this]
    exact List.getElem_idxOf this
  have rowE : ∀ i, i < K.length → (S.getD (K.getD i 0) []).map M = (List.range L).map fun a => M (K.getD (stp K S i a) 0) := fun i hi => by
    have gl := g.at (R.lt _ (km i hi))
    refine List.ext_getElem (by rw [List.length_map, List.length_map, List.length_range]; exact gl.1) fun a h1 h2 => ?_
    have ha : a < L := by simpa using h2
    have ha' : a < (S.getD (K.getD i 0) []).length := by rw [gl.1]; exact ha
    simp only [List.getElem_map, List.getElem_range]
    unfold stp
    rw [idx _ (R.cl i a hi ha)]
    unfold nx
    rw [List.getD_eq_getElem?_getD (i := a), List.getElem?_eq_getElem ha']
    rfl
  rw [t.same _ _ (km i hi) (km j hj), rowE i hi, rowE j hj, List.cons.injEq, map_inj_range]
  constructor
  · rintro ⟨h1, h2⟩
    exact ⟨(h i j hi hj).mp h1, fun a ha => (h _ _ (R.can.cl i a hi ha) (R.can.cl j a hj ha)).mp (h2 a ha)⟩
  · rintro ⟨h1, h2⟩
    exact ⟨(h i j hi hj).mpr h1, fun a ha => (h _ _ (R.can.cl i a hi ha) (R.can.cl j a hj ha)).mpr (h2 a ha)⟩
/-- marks behind as many turns as places: numbered by first appearance they are the blocks -/
theorem marks_blocks (R : Reach L n S K) {M : Nat → Int} (h : ∀ i j, i < K.length → j < K.length → (M (K.getD i 0) = M (K.getD j 0) ↔ E L (stp K S) (accP ends K) K.length i j)) {k : Nat} (e : PN L S ends K k = PN L S ends K (k + 1)) :
    num [] (K.map M) = PB L S ends K (k + 1) := by
  have len : (num [] (K.map M)).length = (PB L S ends K (k + 1)).length := by rw [num_len, PB_len, List.length_map]
  have st : Stable L K.length (stp K S) (accP ends K) K.length := (all_stable R).le R.can.cl (Nat.sub_le _ _)
  have fa1 := num_fa (K.map M)
  rw [List.length_map] at fa1
  have same := fa_same fa1 (PB_fa (k + 1)) fun i j hi hj => by
    have hi' : i < (K.map M).length := by simpa using hi
    have hj' : j < (K.map M).length := by simpa using hj
    rw [num_same hi' hj', List.getElem_map, List.getElem_map]
    have k1 : K.getD i 0 = K[i] := by rw [List.getD_eq_getElem?_getD, List.getElem?_eq_getElem hi]; rfl
    have k2 : K.getD j 0 = K[j] := by rw [List.getD_eq_getElem?_getD, List.getElem?_eq_getElem hj]; rfl
    rw [← k1, ← k2]
    exact (h i j hi hj).trans ((st.ner R.can.cl hi hj).trans (PB_stop R e i j hi hj).symm)
  refine List.ext_getElem len fun i h1 h2 => ?_
  have hi : i < K.length := by rw [num_len, List.length_map] at h1; exact h1
  have := same i hi
  unfold at0 at this
  rw [List.getD_eq_getElem?_getD, List.getD_eq_getElem?_getD, List.getElem?_eq_getElem h1, List.getElem?_eq_getElem h2] at this
  exact this
/-! ### the least form -/
def LFs (L N : Nat) (S : Steps) (K B : List Nat) : Steps := (List.range N).map fun b => (List.range L).map fun a => at0 B (stp K S (B.idxOf b) a)
def LFe (N : Nat) (ends K B : List Nat) : List Nat := (List.range N).filter fun b => accP ends K (B.idxOf b)
theorem idx_le : ∀ (B : List Nat) (j : Nat) (h : j < B.length), B.idxOf B[j] ≤ j
  | x :: B, 0, _ => by simp [List.idxOf_cons]
  | x :: B, j + 1, h => by
    rw [List.getElem_cons_succ, List.idxOf_cons]
    by_cases q : x = B[j]'(by simpa using h)
    · simp [q]
    · have q2 : (x == B[j]'(by simpa using h)) = false := by simpa using q
      rw [q2]
      have := idx_le B j (by simpa using h)
      simp only [cond_false]
      omega
theorem first_of {B : List Nat} {N : Nat} (bk : Blk B.length N (at0 B)) : IsFirst B.length N (at0 B) (fun b => B.idxOf b) := fun b hb => by
  obtain ⟨i, hi, e⟩ := bk.on b hb
  have m : b ∈ B := by
    unfold at0 at e
    rw [List.getD_eq_getElem?_getD, List.getElem?_eq_getElem hi] at e
    rw [← e]
    exact List.getElem_mem hi
  have hl := List.idxOf_lt_length_of_mem m
  refine ⟨hl, ?_, fun j hj q => ?_⟩
  · unfold at0
    rw [List.getD_eq_getElem?_getD, List.getElem?_eq_getElem hl]
    exact List.getElem_idxOf hl
  · have hjl : j < B.length := Nat.lt_trans hj hl
    unfold at0 at q
    rw [List.getD_eq_getElem?_getD, List.getElem?_eq_getElem hjl] at q
    have q' : B[j] = b := q
    have := idx_le B j hjl
    rw [q'] at this
    have hj' : j < B.idxOf b := hj
    omega
end
end Ma

/-! Me -/
/-! Me: the least form's properties; first words. -/
namespace Ma
section
variable {L n : Nat} {S : Steps} {ends : List Nat} {K : List Nat}
theorem key_mem {i : Nat} (hi : i < K.length) : K.getD i 0 ∈ K := by rw [List.getD_eq_getElem?_getD, List.getElem?_eq_getElem hi]; exact List.getElem_mem hi
theorem key_idx {x : Nat} (hx : x ∈ K) : K.getD (K.idxOf x) 0 = x := by
  have := List.idxOf_lt_length_of_mem hx
  rw [List.getD_eq_getElem?_getD, List.getElem?_eq_getElem this]
  exact List.getElem_idxOf this
/-- places stand for states -/
theorem run_key (R : Reach L n S K) : ∀ (w : List Nat) (i : Nat), i < K.length → Ok L w → run (nx S) (K.getD i 0) w = K.getD (run (stp K S) i w) 0 ∧ run (stp K S) i w < K.length
  | [], i, hi, _ => ⟨rfl, hi⟩
  | a :: w, i, hi, hw => by
    have h := run_key R w (stp K S i a) (R.can.cl i a hi hw.head) hw.tail
    rw [run, run, ← h.1]
    refine ⟨?_, h.2⟩
    congr 1
    unfold stp
    rw [key_idx (R.cl i a hi hw.head)]
theorem eq_key (R : Reach L n S K) : Eq2 L (nx S) (accS ends) (stp K S) (accP ends K) 0 0 := fun w hw => by
  have h := run_key R w 0 R.pos hw
  rw [R.hd] at h
  rw [h.1]
  rfl
def qq (S : Steps) (K B : List Nat) (b a : Nat) : Nat := at0 B (stp K S (B.idxOf b) a)
def qa (ends K B : List Nat) (b : Nat) : Bool := accP ends K (B.idxOf b)
structure IsLF (L n N : Nat) (S : Steps) (ends K B : List Nat) : Prop where
  can : Can L N (qq S K B)
  red : Red L N (qq S K B) (qa ends K B)
  eq : Eq2 L (nx S) (accS ends) (qq S K B) (qa ends K B) 0 0
  len : B.length = K.length
  blk : Blk K.length N (at0 B)
theorem isLF (R : Reach L n S K) {k : Nat} (e : PN L S ends K k = PN L S ends K (k + 1)) : IsLF L n (PN L S ends K (k + 1)) S ends K (PB L S ends K (k + 1)) := by
  have ne := PB_stop R e
  have bk := PB_blk (L := L) (S := S) (ends := ends) (K := K) (k + 1)
  have hl := PB_len (L := L) (S := S) (ends := ends) (K := K) (k + 1)
  have hF : IsFirst K.length (PN L S ends K (k + 1)) (at0 (PB L S ends K (k + 1))) (fun b => (PB L S ends K (k + 1)).idxOf b) := by
    have := first_of (B := PB L S ends K (k + 1)) (N := PN L S ends K (k + 1)) (by rw [hl]; exact bk)
    rw [hl] at this
    exact this
  refine ⟨quo_can R.can (PB_fa (k + 1)) bk ne hF, quo_red R.can bk ne hF, ?_, hl, bk⟩
  have h0 := quo_eq R.can bk ne hF R.pos
  rw [(PB_fa (L := L) (S := S) (ends := ends) (K := K) (k + 1)).zero R.pos] at h0
  exact (eq_key R).trans h0
end
/-- machines that let the same have one least form -/
theorem LF_same {L n n' N N' : Nat} {S S' : Steps} {ends ends' K K' B B' : List Nat} (h : IsLF L n N S ends K B) (h' : IsLF L n' N' S' ends' K' B') (e : Eq2 L (nx S) (accS ends) (nx S') (accS ends') 0 0) : N = N' ∧ LFs L N S K B = LFs L N' S' K' B' ∧ LFe N ends K B = LFe N' ends' K' B' := by
  obtain ⟨u1, u2, u3⟩ := uniq h.can h'.can h.red h'.red (h.eq.symm.trans (e.trans h'.eq))
  subst u1
  refine ⟨rfl, ?_, ?_⟩
  · unfold LFs
    rw [map_inj_range]
    intro b hb
    rw [map_inj_range]
    intro a ha
    exact u2 b a hb ha
  · unfold LFe
    refine List.filter_congr fun b hb => ?_
    exact u3 b (List.mem_range.mp hb)
section
variable {L n N : Nat} {S : Steps} {ends K B : List Nat}
theorem LF_nx {b a : Nat} (hb : b < N) (ha : a < L) : nx (LFs L N S K B) b a = qq S K B b a := by
  unfold nx LFs
  simp only [List.getD_eq_getElem?_getD, List.getElem?_map, List.getElem?_range hb, List.getElem?_range ha, Option.map_some, Option.getD_some]
  rfl
theorem LF_good (h : IsLF L n N S ends K B) : Good L N (LFs L N S K B) := by
  refine ⟨by simp [LFs], h.can.pos, fun r hr => ?_⟩
  unfold LFs at hr
  obtain ⟨b, hb, rfl⟩ := List.mem_map.mp hr
  refine ⟨by simp, fun x hx => ?_⟩
  obtain ⟨a, ha, rfl⟩ := List.mem_map.mp hx
  exact h.can.cl b a (List.mem_range.mp hb) (List.mem_range.mp ha)
theorem LF_run (h : IsLF L n N S ends K B) : ∀ (w : List Nat) (b : Nat), b < N → Ok L w → run (nx (LFs L N S K B)) b w = run (qq S K B) b w ∧ run (qq S K B) b w < N
  | [], b, hb, _ => ⟨rfl, hb⟩
  | a :: w, b, hb, hw => by
    rw [run, run, LF_nx hb hw.head]
    exact LF_run h w _ (h.can.cl b a hb hw.head) hw.tail
/-- the least form lets the same words -/
theorem LF_lets (h : IsLF L n N S ends K B) {w : List Nat} (hw : Ok L w) : accS (LFe N ends K B) (run (nx (LFs L N S K B)) 0 w) = accS ends (run (nx S) 0 w) := by
  obtain ⟨e, hlt⟩ := LF_run h w 0 h.can.pos hw
  rw [e, h.eq w hw]
  unfold accS LFe qa
  generalize run (qq S K B) 0 w = s at hlt
  simp only [List.mem_filter, List.mem_range, hlt, true_and]
  cases accP ends K (B.idxOf s) <;> rfl
theorem LF_can (h : IsLF L n N S ends K B) : Can L N (nx (LFs L N S K B)) := by
  refine ⟨h.can.pos, fun i a hi ha => by rw [LF_nx hi ha]; exact h.can.cl i a hi ha, fun j h1 h2 => ?_⟩
  obtain ⟨i, a, b1, b2, b3, b4⟩ := h.can.bf j h1 h2
  have hi : i < N := Nat.lt_trans b1 h2
  refine ⟨i, a, b1, b2, by rw [LF_nx hi b2]; exact b3, fun i' a' ha' hl => ?_⟩
  have hi' : i' < N := by omega
  rw [LF_nx hi' ha']
  exact b4 i' a' ha' hl
end
/-! ### words in their sequence -/
/-- a word's place in the sequence -/
def val (L : Nat) (w : List Nat) : Nat := w.foldl (fun v a => L * v + (a + 1)) 0
theorem val_snoc (L : Nat) (w : List Nat) (a : Nat) : val L (w ++ [a]) = L * val L w + (a + 1) := by unfold val; rw [List.foldl_append]; rfl
theorem run_snoc (d : Nat → Nat → Nat) (w : List Nat) (a s : Nat) : run d s (w ++ [a]) = d (run d s w) a := by
  induction w generalizing s with
  | nil => rfl
  | cons b w ih => exact ih _
theorem Ok.snoc {L : Nat} {w : List Nat} {a : Nat} (h : Ok L (w ++ [a])) : Ok L w ∧ a < L := ⟨fun b hb => h b (List.mem_append_left _ hb), h a (by simp)⟩
theorem Ok.app {L : Nat} {w : List Nat} {a : Nat} (h : Ok L w) (ha : a < L) : Ok L (w ++ [a]) := fun b hb => by
  rcases List.mem_append.mp hb with z | z
  · exact h b z
  · rw [List.mem_singleton] at z; rw [z]; exact ha
theorem snoc_ind {P : List Nat → Prop} (h0 : P []) (h1 : ∀ w a, P w → P (w ++ [a])) : ∀ w, P w := fun w => by
  have : ∀ n w, w.length = n → P w := by
    intro n
    induction n with
    | zero => intro w h; rw [List.length_eq_zero_iff.mp h]; exact h0
    | succ n ih =>
      intro w h
      have hne : w ≠ [] := fun z => by rw [z] at h; cases h
      rw [← List.dropLast_concat_getLast hne]
      exact h1 _ _ (ih _ (by rw [List.length_dropLast, h]; rfl))
  exact this _ w rfl
theorem step_lt {L u v a b : Nat} (h : u < v) (ha : a < L) : L * u + (a + 1) < L * v + (b + 1) := by
  have : L * (u + 1) ≤ L * v := Nat.mul_le_mul_left L h
  rw [Nat.mul_add, Nat.mul_one] at this
  omega
theorem val_inj {L : Nat} : ∀ u, Ok L u → ∀ v, Ok L v → val L u = val L v → u = v := by
  refine snoc_ind ?_ ?_
  · intro _
    refine snoc_ind ?_ ?_
    · intro _ _; rfl
    · intro v b _ _ h
      rw [val_snoc] at h
      have : val L [] = 0 := rfl
      omega
  · intro u a ih hu
    refine snoc_ind ?_ ?_
    · intro _ h
      rw [val_snoc] at h
      have : val L [] = 0 := rfl
      omega
    · intro v b _ hv h
      rw [val_snoc, val_snoc] at h
      obtain ⟨u1, u2⟩ := hu.snoc
      obtain ⟨v1, v2⟩ := hv.snoc
      rcases Nat.lt_trichotomy (val L u) (val L v) with q | q | q
      · have := step_lt (b := b) q u2; omega
      · rw [q] at h
        have : a = b := by omega
        rw [ih u1 v v1 q, this]
      · have := step_lt (b := a) q v2; omega
/-- the first words of a machine numbered so -/
structure FW (L n : Nat) (d : Nat → Nat → Nat) (ws : List (List Nat)) : Prop where
  len : ws.length = n
  zero : ws.getD 0 [] = []
  par : ∀ j, 0 < j → j < n → ∃ i a, i < j ∧ a < L ∧ d i a = j ∧ (∀ i' a', a' < L → (i' < i ∨ (i' = i ∧ a' < a)) → d i' a' < j) ∧ ws.getD j [] = ws.getD i [] ++ [a]
section
variable {L n : Nat} {d : Nat → Nat → Nat} {ws : List (List Nat)}
theorem FW.run (F : FW L n d ws) : ∀ j, j < n → Ok L (ws.getD j []) ∧ Ma.run d 0 (ws.getD j []) = j := by
  intro j
  induction j using Nat.strongRecOn with
  | _ j ih =>
    intro hj
    by_cases h0 : j = 0
    · subst h0; rw [F.zero]; exact ⟨.nil, rfl⟩
    · obtain ⟨i, a, h1, h2, h3, _, h5⟩ := F.par j (Nat.pos_of_ne_zero h0) hj
      obtain ⟨i1, i2⟩ := ih i h1 (Nat.lt_trans h1 hj)
      rw [h5]
      exact ⟨i1.app h2, by rw [run_snoc, i2, h3]⟩
theorem FW.mono (F : FW L n d ws) : ∀ j, j < n → ∀ i, i < j → val L (ws.getD i []) < val L (ws.getD j []) := by
  intro j
  induction j using Nat.strongRecOn with
  | _ j ih =>
    intro hj i hij
    obtain ⟨p, a, h1, h2, h3, h4, h5⟩ := F.par j (by omega) hj
    rw [h5, val_snoc]
    by_cases h0 : i = 0
    · subst h0; rw [F.zero]; show 0 < _; omega
    · obtain ⟨p', a', g1, g2, g3, g4, g5⟩ := F.par i (Nat.pos_of_ne_zero h0) (Nat.lt_trans hij hj)
      rw [g5, val_snoc]
      by_cases lx : p' < p
      · exact step_lt (ih p h1 (Nat.lt_trans h1 hj) p' lx) g2
      · by_cases e : p' = p
        · subst e
          have : a' < a := by
            rcases Nat.lt_trichotomy a' a with z | z | z
            · exact z
            · subst z; omega
            · have := g4 p' a h2 (.inr ⟨rfl, z⟩); omega
          omega
        · have := g4 p a h2 (.inl (by omega)); omega
theorem FW.least (F : FW L n d ws) (cl : ∀ i a, i < n → a < L → d i a < n) (hn : 0 < n) : ∀ u, Ok L u → Ma.run d 0 u < n ∧ val L (ws.getD (Ma.run d 0 u) []) ≤ val L u := by
  refine snoc_ind ?_ ?_
  · intro _
    refine ⟨hn, ?_⟩
    show val L (ws.getD 0 []) ≤ _
    rw [F.zero]
    exact Nat.le_refl _
  · intro u a ih hu
    obtain ⟨u1, u2⟩ := hu.snoc
    obtain ⟨s1, s2⟩ := ih u1
    rw [run_snoc, val_snoc]
    have hs := cl _ a s1 u2
    refine ⟨hs, ?_⟩
    by_cases h0 : d (Ma.run d 0 u) a = 0
    · rw [h0, F.zero]; exact Nat.zero_le _
    · obtain ⟨p, b, h1, h2, h3, h4, h5⟩ := F.par _ (Nat.pos_of_ne_zero h0) hs
      rw [h5, val_snoc]
      rcases Nat.lt_trichotomy p (Ma.run d 0 u) with q | q | q
      · have := F.mono _ s1 p q
        have := step_lt (b := a) (Nat.lt_of_lt_of_le this s2) h2
        omega
      · rw [q] at h3 h4 ⊢
        have : b ≤ a := by
          rcases Nat.lt_or_ge a b with z | z
          · have := h4 (Ma.run d 0 u) a u2 (.inr ⟨rfl, z⟩); omega
          · exact z
        have := Nat.mul_le_mul_left L s2
        omega
      · have := h4 (Ma.run d 0 u) a u2 (.inl q); omega
end
end Ma

/-! V0 -/
namespace Dv
noncomputable section
open PySem PySem.Spec PyProof.Rows L2 Evl LamX
/-! how numbers, rows, words stand as data -/
def nD (n : Nat) : D := .int (n : Int)
def nsD (l : List Nat) : D := .lst (l.map nD)
def stD (S : List (List Nat)) : D := .lst (S.map nsD)
def wS (w : List Nat) : Str := ⟨(w.map (97 + ·)).toArray⟩
def wD (w : List Nat) : D := .str (wS w)
def wsD (ws : List (List Nat)) : D := .lst (ws.map wD)
def pyN (n : Nat) : PyData := .int (n : Int)
def pyNs (l : List Nat) : PyData := .list (l.map pyN)
def pySt (S : List (List Nat)) : PyData := .list (S.map pyNs)
def pyW (w : List Nat) : PyData := .str (wS w)
theorem natsD_eq (l : List Nat) : natsD l = nsD l := rfl
theorem toPys_map {α : Type} {f : α → D} {g : α → PyData} : ∀ (l : List α), (∀ x ∈ l, toPy (f x) = some (g x)) → toPys (l.map f) = some (l.map g)
  | [], _ => by simp [toPys]
  | x :: l, h => by
    simp only [List.map_cons, toPys, h x (List.mem_cons_self), toPys_map l fun y hy => h y (List.mem_cons_of_mem _ hy), Option.map_some]
theorem canAll_map {α : Type} {g : α → PyData} : ∀ (l : List α), (∀ x ∈ l, (g x).canLay0 = true) → PyData.canLayAll0 (l.map g) = true
  | [], _ => by simp [PyData.canLayAll0]
  | x :: l, h => by
    simp only [List.map_cons, PyData.canLayAll0, h x (List.mem_cons_self), canAll_map l fun y hy => h y (List.mem_cons_of_mem _ hy), Bool.and_self]
theorem depAll_map {α : Type} {g : α → PyData} {k : Nat} : ∀ (l : List α), (∀ x ∈ l, (g x).depth ≤ k) → PyData.depthAll (l.map g) ≤ k
  | [], _ => by simp [PyData.depthAll]
  | x :: l, h => by
    have h1 := h x (List.mem_cons_self)
    have h2 := depAll_map l fun y hy => h y (List.mem_cons_of_mem _ hy)
    simp only [List.map_cons, PyData.depthAll]
    omega
/-- what may be compared, of little depth -/
structure Py (d : D) (p : PyData) (k : Nat) : Prop where
  to : toPy d = some p
  can : p.canLay0 = true
  dep : p.depth ≤ k
theorem Py.s {d : D} {p : PyData} {k : Nat} (h : Py d p k) (hk : k ≤ 64) : pyS d = some p := by
  unfold pyS
  rw [h.to]
  have : SeqAt.shaped p = true := by
    unfold SeqAt.shaped
    rw [h.can, decide_eq_true (Nat.le_trans h.dep hk)]
    rfl
  simp only [this, if_true]
theorem Py.n (n : Nat) : Py (nD n) (pyN n) 0 := ⟨by simp [nD, pyN, toPy], by simp [pyN, PyData.canLay0], by simp [pyN, PyData.depth]⟩
theorem Py.int (i : Int) : Py (.int i) (.int i) 0 := ⟨by simp [toPy], by simp [PyData.canLay0], by simp [PyData.depth]⟩
theorem Py.str (x : Str) (h : PyData.strOk x = true) : Py (.str x) (.str x) 0 := ⟨by simp [toPy], by simp [PyData.canLay0, h], by simp [PyData.depth]⟩
theorem wS_ok {w : List Nat} (h : Ma.Ok 3 w) : PyData.strOk (wS w) = true := by
  unfold PyData.strOk wS
  simp
  intro a ha
  have := h a ha
  omega
theorem Py.bl (b : Bool) : Py (.bl b) (.bool b) 0 := ⟨by simp [toPy], by simp [PyData.canLay0], by simp [PyData.depth]⟩
theorem Py.non : Py .non .none 0 := ⟨by simp [toPy], by simp [PyData.canLay0], by simp [PyData.depth]⟩
theorem Py.map {α : Type} {f : α → D} {g : α → PyData} {k : Nat} (l : List α) (h : ∀ x ∈ l, Py (f x) (g x) k) : Py (.lst (l.map f)) (.list (l.map g)) (k + 1) :=
  ⟨by simp [toPy, toPys_map l fun x hx => (h x hx).to], by simp [PyData.canLay0, canAll_map l fun x hx => (h x hx).can], by
    have := depAll_map l fun x hx => (h x hx).dep
    simp only [PyData.depth]
    omega⟩
theorem Py.tmap {α : Type} {f : α → D} {g : α → PyData} {k : Nat} (l : List α) (h : ∀ x ∈ l, Py (f x) (g x) k) : Py (.tup (l.map f)) (.tuple (l.map g)) (k + 1) :=
  ⟨by simp [toPy, toPys_map l fun x hx => (h x hx).to], by simp [PyData.canLay0, canAll_map l fun x hx => (h x hx).can], by
    have := depAll_map l fun x hx => (h x hx).dep
    simp only [PyData.depth]
    omega⟩
theorem Py.ns (l : List Nat) : Py (nsD l) (pyNs l) 1 := Py.map l fun x _ => Py.n x
theorem Py.st (S : List (List Nat)) : Py (stD S) (pySt S) 2 := Py.map S fun x _ => Py.ns x
theorem Py.w {w : List Nat} (h : Ma.Ok 3 w) : Py (wD w) (pyW w) 0 := Py.str _ (wS_ok h)
theorem Py.ws {l : List (List Nat)} (h : ∀ w ∈ l, Ma.Ok 3 w) : Py (wsD l) (.list (l.map pyW)) 1 := Py.map l fun x hx => Py.w (h x hx)
/-! what is equal -/
theorem eqvAll_map {α : Type} [DecidableEq α] {g : α → PyData} : ∀ (l m : List α), (∀ x ∈ l, ∀ y ∈ m, PyData.eqv (g x) (g y) = decide (x = y)) → PyData.eqvAll (l.map g) (m.map g) = decide (l = m)
  | [], [], _ => by simp [PyData.eqvAll]
  | [], y :: m, _ => by simp [PyData.eqvAll]
  | x :: l, [], _ => by simp [PyData.eqvAll]
  | x :: l, y :: m, h => by
    simp only [List.map_cons, PyData.eqvAll]
    rw [h x (List.mem_cons_self) y (List.mem_cons_self), eqvAll_map l m fun a ha b hb => h a (List.mem_cons_of_mem _ ha) b (List.mem_cons_of_mem _ hb)]
    by_cases q : x = y <;> by_cases r : l = m <;> simp [q, r]
theorem eqv_n (m n : Nat) : PyData.eqv (pyN m) (pyN n) = decide (m = n) := by
  simp only [pyN, PyData.eqv]
  by_cases h : m = n
  · simp [h]
  · have : ¬ (m : Int) = n := by omega
    simp [h, this]
theorem eqv_ns (l m : List Nat) : PyData.eqv (pyNs l) (pyNs m) = decide (l = m) := by
  simp only [pyNs, PyData.eqv]
  exact eqvAll_map l m fun x _ y _ => eqv_n x y
theorem eqv_st (S T : List (List Nat)) : PyData.eqv (pySt S) (pySt T) = decide (S = T) := by
  simp only [pySt, PyData.eqv]
  exact eqvAll_map S T fun x _ y _ => eqv_ns x y
theorem wS_inj {v w : List Nat} (h : wS v = wS w) : v = w := by
  have h1 : (v.map (97 + ·)) = (w.map (97 + ·)) := by
    have := congrArg (fun x : Str => x.cps.toList) h
    simpa [wS] using this
  exact (List.map_inj_right fun x y e => by omega).mp h1
theorem eqv_w (v w : List Nat) : PyData.eqv (pyW v) (pyW w) = decide (v = w) := by
  simp only [pyW, PyData.eqv]
  by_cases h : v = w
  · simp [h]
  · have : ¬ wS v = wS w := fun e => h (wS_inj e)
    simp [h, this]
theorem eqv_ws (l m : List (List Nat)) : PyData.eqv (.list (l.map pyW)) (.list (m.map pyW)) = decide (l = m) := by
  simp only [PyData.eqv]
  exact eqvAll_map l m fun x _ y _ => eqv_w x y
theorem any_eqv {α : Type} [DecidableEq α] {g : α → PyData} {x : α} : ∀ (l : List α), (∀ y ∈ l, PyData.eqv (g y) (g x) = decide (y = x)) → ((l.map g).any fun z => PyData.eqv z (g x)) = decide (x ∈ l)
  | [], _ => by simp
  | y :: l, h => by
    rw [List.map_cons, List.any_cons, h y (List.mem_cons_self), any_eqv l fun z hz => h z (List.mem_cons_of_mem _ hz)]
    by_cases q : y = x
    · simp [q]
    · have : ¬ x = y := fun e => q e.symm
      by_cases r : x ∈ l <;> simp [q, this, r]
theorem firstAt_map {α : Type} [DecidableEq α] {g : α → PyData} {x : α} : ∀ (l : List α) (k : Nat), x ∈ l → (∀ y ∈ l, PyData.eqv (g y) (g x) = decide (y = x)) → firstAt (g x) k (l.map g) = some (k + l.idxOf x)
  | [], _, hx, _ => nomatch hx
  | y :: l, k, hx, h => by
    rw [List.map_cons, firstAt, h y (List.mem_cons_self)]
    by_cases q : y = x
    · simp [q, List.idxOf_cons]
    · have hx' : x ∈ l := (List.mem_cons.mp hx).resolve_left fun e => q e.symm
      rw [firstAt_map l (k + 1) hx' fun z hz => h z (List.mem_cons_of_mem _ hz), List.idxOf_cons]
      have qq : (y == x) = false := beq_false_of_ne q
      simp only [q, decide_false, Bool.false_eq_true, if_false, qq, cond_false]
      congr 1
      omega
section
variable {d e : D} {p q : PyData} {k j : Nat} {α : Type} [DecidableEq α] {f : α → D} {g : α → PyData}
theorem gEq_py (h : Py d p k) (h' : Py e q j) (hk : k ≤ 64) (hj : j ≤ 64) : gEq d e = some (.bl (PyData.eqv p q)) := by
  unfold gEq
  rw [h.s hk, h'.s hj]
theorem gNe_py (h : Py d p k) (h' : Py e q j) (hk : k ≤ 64) (hj : j ≤ 64) : gNe d e = some (.bl (!PyData.eqv p q)) := by
  unfold gNe
  rw [h.s hk, h'.s hj]
theorem gEqA_py (h : Py d p k) (h' : Py e q j) (hs : gEqS d e = none) (hk : k ≤ 64) (hj : j ≤ 64) : gEqA d e = some (.bl (PyData.eqv p q)) := by
  unfold gEqA
  rw [hs]
  exact gEq_py h h' hk hj
theorem gNeA_py (h : Py d p k) (h' : Py e q j) (hs : gNeS d e = none) (hk : k ≤ 64) (hj : j ≤ 64) : gNeA d e = some (.bl (!PyData.eqv p q)) := by
  unfold gNeA
  rw [hs]
  exact gNe_py h h' hk hj
theorem gIn_py {x : α} {l : List α} (hl : ∀ y ∈ l, Py (f y) (g y) k) (hx : Py (f x) (g x) k) (he : ∀ y ∈ l, PyData.eqv (g y) (g x) = decide (y = x)) (hk : k < 64) : gIn (f x) (.lst (l.map f)) = some (.bl (decide (x ∈ l))) := by
  have e1 := hx.s (by omega)
  have e2 := (Py.map l hl).s (by omega)
  simp only [gIn, gInL, e1, e2, any_eqv l he]
theorem gNi_py {x : α} {l : List α} (hl : ∀ y ∈ l, Py (f y) (g y) k) (hx : Py (f x) (g x) k) (he : ∀ y ∈ l, PyData.eqv (g y) (g x) = decide (y = x)) (hk : k < 64) : gNi (f x) (.lst (l.map f)) = some (.bl (!decide (x ∈ l))) := by
  have e1 := hx.s (by omega)
  have e2 := (Py.map l hl).s (by omega)
  simp only [gNi, gNiL, e1, e2, any_eqv l he]
theorem gIdxL_py {x : α} {l : List α} (hl : ∀ y ∈ l, Py (f y) (g y) k) (hx : Py (f x) (g x) k) (hm : x ∈ l) (he : ∀ y ∈ l, PyData.eqv (g y) (g x) = decide (y = x)) (hk : k < 64) : gIdxL (.lst (l.map f)) [f x] = some (nD (l.idxOf x)) := by
  have e1 := hx.s (by omega)
  have e2 := (Py.map l hl).s (by omega)
  simp only [gIdxL, e1, e2, firstAt_map l 0 hm he, Nat.zero_add]
  rfl
end
theorem gIn_n (x : Nat) (l : List Nat) : gIn (nD x) (nsD l) = some (.bl (decide (x ∈ l))) := gIn_py (f := nD) (g := pyN) (fun y _ => Py.n y) (Py.n x) (fun y _ => eqv_n y x) (by omega)
theorem gNi_n (x : Nat) (l : List Nat) : gNi (nD x) (nsD l) = some (.bl (!decide (x ∈ l))) := gNi_py (f := nD) (g := pyN) (fun y _ => Py.n y) (Py.n x) (fun y _ => eqv_n y x) (by omega)
theorem gIdx_n {x : Nat} {l : List Nat} (h : x ∈ l) : gIdxL (nsD l) [nD x] = some (nD (l.idxOf x)) := gIdxL_py (f := nD) (g := pyN) (fun y _ => Py.n y) (Py.n x) h (fun y _ => eqv_n y x) (by omega)
theorem gEq_n (m n : Nat) : gEqA (nD m) (nD n) = some (.bl (decide (m = n))) := (gEqA_py (Py.n m) (Py.n n) rfl (by omega) (by omega)).trans (by rw [eqv_n])
theorem gNe_n (m n : Nat) : gNeA (nD m) (nD n) = some (.bl (!decide (m = n))) := (gNeA_py (Py.n m) (Py.n n) rfl (by omega) (by omega)).trans (by rw [eqv_n])
theorem gEq_ns (l m : List Nat) : gEqA (nsD l) (nsD m) = some (.bl (decide (l = m))) := (gEqA_py (Py.ns l) (Py.ns m) rfl (by omega) (by omega)).trans (by rw [eqv_ns])
theorem gNe_ns (l m : List Nat) : gNeA (nsD l) (nsD m) = some (.bl (!decide (l = m))) := (gNeA_py (Py.ns l) (Py.ns m) rfl (by omega) (by omega)).trans (by rw [eqv_ns])
theorem gEq_st (S T : List (List Nat)) : gEqA (stD S) (stD T) = some (.bl (decide (S = T))) := (gEqA_py (Py.st S) (Py.st T) rfl (by omega) (by omega)).trans (by rw [eqv_st])
theorem gNe_ws {S T : List (List Nat)} (hS : ∀ w ∈ S, Ma.Ok 3 w) (hT : ∀ w ∈ T, Ma.Ok 3 w) : gNeA (wsD S) (wsD T) = some (.bl (!decide (S = T))) := (gNeA_py (Py.ws hS) (Py.ws hT) rfl (by omega) (by omega)).trans (by rw [eqv_ws])
theorem gEq_w (v w : List Nat) : gEqA (wD v) (wD w) = some (.bl (decide (v = w))) := by
  show some (D.bl (decide (wS v = wS w))) = _
  by_cases h : v = w
  · simp [h]
  · have : ¬ wS v = wS w := fun e => h (wS_inj e)
    simp [h, this]
/-! places -/
theorem atD {α : Type} {xs : List α} {j : Nat} {v : α} (h : xs[j]? = some v) : atI xs (j : Int) = some v := by
  have hj : j < xs.length := (List.getElem?_eq_some_iff.mp h).1
  unfold atI ixN
  rw [if_pos (by omega), if_pos (by omega), Int.toNat_natCast]
  exact h
theorem gIx_map {α : Type} {f : α → D} {l : List α} {i : Nat} (h : i < l.length) : gIx (.lst (l.map f)) (nD i) = some (f l[i]) := by
  show atI (l.map f) (i : Int) = _
  refine atD ?_
  rw [List.getElem?_map, List.getElem?_eq_getElem h]
  rfl
theorem gIx_tmap {α : Type} {f : α → D} {l : List α} {i : Nat} (h : i < l.length) : gIx (.tup (l.map f)) (nD i) = some (f l[i]) := by
  show atI (l.map f) (i : Int) = _
  refine atD ?_
  rw [List.getElem?_map, List.getElem?_eq_getElem h]
  rfl
theorem gIx_ns {l : List Nat} {i : Nat} (h : i < l.length) : gIx (nsD l) (nD i) = some (nD (l.getD i 0)) := by
  rw [List.getD_eq_getElem?_getD, List.getElem?_eq_getElem h]
  exact gIx_map h
theorem gIx_st {S : List (List Nat)} {i : Nat} (h : i < S.length) : gIx (stD S) (nD i) = some (nsD (S.getD i [])) := by
  rw [List.getD_eq_getElem?_getD, List.getElem?_eq_getElem h]
  exact gIx_map h
theorem occ_abc : Builtin.Str.occurrences ("abc" : Str) ⟨#[97]⟩ 0 3 1 = [0] ∧ Builtin.Str.occurrences ("abc" : Str) ⟨#[98]⟩ 0 3 1 = [1] ∧ Builtin.Str.occurrences ("abc" : Str) ⟨#[99]⟩ 0 3 1 = [2] := by decide +kernel
theorem idx_abc {a : Nat} (h : a < 3) : gIdxS (.str "abc") [wD [a]] = some (nD a) := by
  rcases a with _ | _ | _ | a
  · show (match Builtin.Str.occurrences ("abc" : Str) ⟨#[97]⟩ 0 3 1 with | i :: _ => some (D.int (i : Nat)) | [] => none) = _
    rw [occ_abc.1]
    rfl
  · show (match Builtin.Str.occurrences ("abc" : Str) ⟨#[98]⟩ 0 3 1 with | i :: _ => some (D.int (i : Nat)) | [] => none) = _
    rw [occ_abc.2.1]
    rfl
  · show (match Builtin.Str.occurrences ("abc" : Str) ⟨#[99]⟩ 0 3 1 with | i :: _ => some (D.int (i : Nat)) | [] => none) = _
    rw [occ_abc.2.2]
    rfl
  · omega
theorem intsD_ns : ∀ l : List Nat, intsD (l.map nD) = some (l.map fun n => ((n : Nat) : Int))
  | [] => rfl
  | n :: l => by
    rw [List.map_cons, List.map_cons]
    unfold nD
    rw [intsD]
    have := intsD_ns l
    unfold nD at this
    rw [this]
end
end Dv

/-! V1 -/
namespace Dv
noncomputable section
open PySem PySem.Spec PyProof.Rows L2 Evl LamX
/-! loops and displays, by what one turn does -/
section
variable {tg : Tg} {ft : TF} {fe : PF} {g : SS} {ρ : En} {α : Type}
theorem lcGo_map {G F : α → D} : ∀ (xs : List α), (∀ x ∈ xs, ∃ ρ1, tg.asg (G x) ρ = some ρ1 ∧ ft ρ1 = some true ∧ fe ρ1 = some (F x)) → lcGo tg ft fe ρ (xs.map G) = some (xs.map F)
  | [], _ => rfl
  | x :: xs, h => by
    obtain ⟨ρ1, a, b, c⟩ := h x (List.mem_cons_self)
    rw [List.map_cons, List.map_cons, lcGo]
    simp only [a, b, c, lcGo_map xs fun y hy => h y (List.mem_cons_of_mem _ hy)]
theorem lcGo_filter {G F : α → D} {p : α → Bool} : ∀ (xs : List α), (∀ x ∈ xs, ∃ ρ1, tg.asg (G x) ρ = some ρ1 ∧ ft ρ1 = some (p x) ∧ (p x = true → fe ρ1 = some (F x))) → lcGo tg ft fe ρ (xs.map G) = some ((xs.filter p).map F)
  | [], _ => rfl
  | x :: xs, h => by
    obtain ⟨ρ1, a, b, c⟩ := h x (List.mem_cons_self)
    have ih := lcGo_filter xs fun y hy => h y (List.mem_cons_of_mem _ hy)
    rw [List.map_cons, lcGo]
    by_cases q : p x = true
    · rw [List.filter_cons_of_pos q, List.map_cons]
      rw [q] at b
      simp only [a, b, c q, ih]
    · have q' : p x = false := Bool.eq_false_iff.mpr q
      rw [List.filter_cons_of_neg q]
      rw [q'] at b
      simp only [a, b, ih]
theorem forGo_inv {G : α → D} (I : Nat → En → Prop) : ∀ (xs : List α) (k : Nat) (ρ : En), I k ρ → (∀ i (h : i < xs.length) ρ, I (k + i) ρ → ∃ ρ1 ρ2, tg.asg (G xs[i]) ρ = some ρ1 ∧ g ρ1 = some (.nx ρ2) ∧ I (k + i + 1) ρ2) → ∃ ρ', forGo tg g (xs.map G) ρ = some (.nx ρ') ∧ I (k + xs.length) ρ'
  | [], k, ρ, h, _ => ⟨ρ, rfl, h⟩
  | x :: xs, k, ρ, h, hs => by
    obtain ⟨ρ1, ρ2, a, b, c⟩ := hs 0 (Nat.zero_lt_succ _) ρ h
    obtain ⟨ρ', d, e⟩ := forGo_inv I xs (k + 1) ρ2 c fun i hi ρ q => by
      have := hs (i + 1) (Nat.succ_lt_succ hi) ρ (by rw [show k + (i + 1) = k + 1 + i by omega]; exact q)
      rw [show k + (i + 1) + 1 = k + 1 + i + 1 by omega] at this
      exact this
    refine ⟨ρ', ?_, by rw [List.length_cons, show k + (xs.length + 1) = k + 1 + xs.length by omega]; exact e⟩
    rw [List.map_cons, forGo]
    have a' : tg.asg (G x) ρ = some ρ1 := a
    simp only [a', b, d]
theorem whGo_inv {t : TF} (I : Nat → En → Prop) : ∀ (f k : Nat) (ρ : En), I k ρ → (∀ k ρ, I k ρ → ∃ b, t ρ = some b ∧ (b = true → ∃ ρ2 , g ρ = some (.nx ρ2) ∧ I (k + 1) ρ2)) → (∀ j ρ, I j ρ → t ρ = some true → j < k + f) → ∃ j ρ', whGo t g (f + 1) ρ = some (.nx ρ') ∧ I j ρ' ∧ t ρ' = some false
  | f, k, ρ, h, hs, hf => by
    obtain ⟨b, hb, hn⟩ := hs k ρ h
    cases b with
    | false => exact ⟨k, ρ, by rw [whGo]; simp only [hb], h, hb⟩
    | true =>
      obtain ⟨ρ2, h2, h3⟩ := hn rfl
      cases f with
      | zero => exact absurd (hf k ρ h hb) (by omega)
      | succ f =>
        obtain ⟨j, ρ', a, b, c⟩ := whGo_inv I f (k + 1) ρ2 h3 hs fun j ρ hj ht => by have := hf j ρ hj ht; omega
        refine ⟨j, ρ', ?_, b, c⟩
        rw [whGo]
        simp only [hb, h2]
        exact a
@[reducible] def nm0 : Nm := ⟨[], [], fun _ => True, fun _ h => h⟩
theorem gWh_inv {t : TF} (I : Nat → En → Prop) (f : Nat) (h : I 0 ρ) (hs : ∀ k ρ, I k ρ → ∃ b, t ρ = some b ∧ (b = true → ∃ ρ2, g ρ = some (.nx ρ2) ∧ I (k + 1) ρ2)) (hf : ∀ j ρ, I j ρ → t ρ = some true → j < f) : ∃ j ρ', gWh t g ρ = some (.nx ρ') ∧ I j ρ' ∧ t ρ' = some false := by
  obtain ⟨j, ρ', a, b, c⟩ := whGo_inv (g := g) (t := t) I f 0 ρ h hs fun j ρ hj ht => by have := hf j ρ hj ht; omega
  exact ⟨j, ρ', @gWh_eq nm0 _ _ _ _ _ a, b, c⟩
end
theorem szOk_of {n : Nat} (h : n ≤ 100000) : szOk n = true := decide_eq_true h
theorem iRange_n {f : PF} {ρ : En} {n : Nat} (h : f ρ = some (nD n)) (hn : n ≤ 100000) : iRange f ρ = some ((List.range n).map nD) := by
  unfold iRange
  rw [h]
  show (if 0 ≤ (n : Int) ∧ (n : Int) ≤ 100000 then _ else _) = _
  rw [if_pos ⟨by omega, by omega⟩, Int.toNat_natCast]
  rfl
theorem iSeq_l {f : PF} {ρ : En} {ds : List D} (h : f ρ = some (.lst ds)) : iSeq f ρ = some ds := by
  unfold iSeq
  rw [h]
theorem iSeq_t {f : PF} {ρ : En} {ds : List D} (h : f ρ = some (.tup ds)) : iSeq f ρ = some ds := by
  unfold iSeq
  rw [h]
theorem iSeq_w {f : PF} {ρ : En} {w : List Nat} (h : f ρ = some (wD w)) : iSeq f ρ = some (w.map fun a => wD [a]) := by
  unfold iSeq
  rw [h]
  show some (((w.map (97 + ·)).toArray.toList.map fun c => D.str ⟨#[c]⟩)) = _
  simp [wD, wS]
theorem iEn_l {α : Type} {f : PF} {ρ : En} {F : α → D} {l : List α} (h : f ρ = some (.lst (l.map F))) : iEn f ρ = some (l.zipIdx.map fun p => .tup [nD p.2, F p.1]) := by
  unfold iEn
  rw [h]
  simp only [Option.some.injEq]
  rw [List.zipIdx_map, List.map_map]
  rfl
theorem gLen_l (ds : List D) : gLen [.lst ds] = some (nD ds.length) := rfl
theorem gLen_t (ds : List D) : gLen [.tup ds] = some (nD ds.length) := rfl
theorem wS_len (w : List Nat) : (wS w).length = w.length := by
  show (w.map (97 + ·)).toArray.size = _
  simp
theorem gLen_w {w : List Nat} (h : w.length ≤ 100000) : gLen [wD w] = some (nD w.length) := by
  show (if szOk (wS w).length = true then some (D.int ((wS w).length : Nat)) else none) = _
  rw [wS_len, szOk_of h, if_pos rfl]
  rfl
theorem wS_app (v w : List Nat) : wS v ++ wS w = wS (v ++ w) := by
  show (⟨(wS v).cps ++ (wS w).cps⟩ : Str) = _
  unfold wS
  simp
theorem gAdd_w {v w : List Nat} (h : v.length + w.length ≤ 100000) : gAdd (wD v) (wD w) = some (wD (v ++ w)) := by
  show (match gAddS (wD v) (wD w) with | some d => some d | none => gAddL (wD v) (wD w)) = _
  show (match (if szOk ((wS v).length + (wS w).length) = true then some (D.str (wS v ++ wS w)) else none) with | some d => some d | none => gAddL (wD v) (wD w)) = _
  rw [wS_len, wS_len, szOk_of h, if_pos rfl, wS_app]
  rfl
theorem gAdd_n (m n : Nat) : gAdd (nD m) (nD n) = some (nD (m + n)) := by
  show some (D.int ((m : Int) + n)) = some (D.int ((m + n : Nat) : Int))
  rw [Int.natCast_add]
theorem gAdd_l {xs ys : List D} (h : xs.length + ys.length ≤ 100000) : gAdd (.lst xs) (.lst ys) = some (.lst (xs ++ ys)) := by
  show (if szOk (xs.length + ys.length) = true then some (D.lst (xs ++ ys)) else none) = _
  rw [szOk_of h, if_pos rfl]
theorem gLt_n (m n : Nat) : gLt (nD m) (nD n) = some (.bl (decide (m < n))) := by
  show some (D.bl (decide ((m : Int) < n))) = _
  by_cases h : m < n
  · rw [decide_eq_true h, decide_eq_true (by omega)]
  · rw [decide_eq_false h, decide_eq_false (by omega)]
theorem gLe_n (m n : Nat) : gLe (nD m) (nD n) = some (.bl (decide (m ≤ n))) := by
  show some (D.bl (decide ((m : Int) ≤ n))) = _
  by_cases h : m ≤ n
  · rw [decide_eq_true h, decide_eq_true (by omega)]
  · rw [decide_eq_false h, decide_eq_false (by omega)]
theorem gGt_n (m n : Nat) : gGt (nD m) (nD n) = some (.bl (decide (n < m))) := by
  show some (D.bl (decide ((n : Int) < m))) = _
  by_cases h : n < m
  · rw [decide_eq_true h, decide_eq_true (by omega)]
  · rw [decide_eq_false h, decide_eq_false (by omega)]
theorem gGe_n (m n : Nat) : gGe (nD m) (nD n) = some (.bl (decide (n ≤ m))) := by
  show some (D.bl (decide ((n : Int) ≤ m))) = _
  by_cases h : n ≤ m
  · rw [decide_eq_true h, decide_eq_true (by omega)]
  · rw [decide_eq_false h, decide_eq_false (by omega)]

/-! values by the parts' values -/
section
variable {ρ ρ1 ρ2 : En} {a b d : D} {ds es : List D} {f fa fb : PF} {t u : TF} {x y : Bool} {g h : SS} {o : Out}
theorem fOp_e {k : G2} (ha : fa ρ = some a) (hb : fb ρ = some b) (h : k a b = some d) : fOp k fa fb ρ = some d := by
  unfold fOp
  rw [ha]
  simp only [hb, h]
theorem fCb_e {k : GC} {af : AF} (ha : af ρ = some ds) (h : k ds = some d) : fCb k af ρ = some d := by
  unfold fCb
  rw [ha]
  exact h
theorem fMt_e {k : D → List D → Option D} {af : AF} (hf : f ρ = some a) (ha : af ρ = some ds) (h : k a ds = some d) : fMt k f af ρ = some d := by
  unfold fMt
  rw [hf, ha]
  exact h
theorem fCall_e {sem : SemP} {af : AF} {rv : RV} (ha : af ρ = some ds) (h : sem ds = some rv) : fCall sem af ρ = some (rvD rv) := by
  unfold fCall
  rw [ha]
  simp only [h]
theorem aC {r : AF} (hf : f ρ = some a) (hr : r ρ = some ds) : aCons f r ρ = some (a :: ds) := by
  unfold aCons
  rw [hf]
  simp only [hr]
theorem aN : aNil ρ = some [] := rfl
theorem tB_e (h : f ρ = some (.bl x)) : tB' f ρ = some x := by
  unfold tB'
  rw [h]
  rfl
theorem tTr_e (h : f ρ = some d) (h2 : truD d = some x) : tTr f ρ = some x := by
  unfold tTr
  rw [h]
  exact h2
theorem tNt_e (h : t ρ = some x) : tNt t ρ = some (!x) := by
  unfold tNt
  rw [h]
theorem tAn_t (h : t ρ = some true) : tAn t u ρ = u ρ := by
  unfold tAn
  rw [h]
theorem tAn_f (h : t ρ = some false) : tAn t u ρ = some false := by
  unfold tAn
  rw [h]
theorem tOr_f (h : t ρ = some false) : tOr' t u ρ = u ρ := by
  unfold tOr'
  rw [h]
theorem tOr_t (h : t ρ = some true) : tOr' t u ρ = some true := by
  unfold tOr'
  rw [h]
theorem fAn_e (h : fa ρ = some (.bl x)) (h2 : x = true → fb ρ = some (.bl y)) : fAn fa fb ρ = some (.bl (x && y)) := by
  unfold fAn
  rw [h]
  cases x with
  | true => exact h2 rfl
  | false => rfl
theorem fIf_t (h : t ρ = some true) : fIf t fa fb ρ = fa ρ := by
  unfold fIf
  rw [h]
theorem fIf_f (h : t ρ = some false) : fIf t fa fb ρ = fb ρ := by
  unfold fIf
  rw [h]
theorem fLst_e {af : AF} (h : af ρ = some ds) (hs : ds.length ≤ 100000) : fLst af ρ = some (.lst ds) := by
  unfold fLst
  rw [h]
  simp only [szOk_of hs, if_true]
theorem fTup_e {af : AF} (h : af ρ = some ds) (hs : ds.length ≤ 100000) : fTup af ρ = some (.tup ds) := by
  unfold fTup
  rw [h]
  simp only [szOk_of hs, if_true]
theorem fLc_map {α : Type} {it : AF} {tg : Tg} {ft : TF} {fe : PF} {ow : List Nat} {G F : α → D} {xs : List α} (hi : it ρ = some (xs.map G)) (hs : xs.length ≤ 100000) (h : ∀ x ∈ xs, ∃ ρ1, tg.asg (G x) (wipeE ρ ow) = some ρ1 ∧ ft ρ1 = some true ∧ fe ρ1 = some (F x)) : fLc it tg ft fe ow ρ = some (.lst (xs.map F)) := by
  unfold fLc
  rw [hi]
  simp only [List.length_map, szOk_of hs, if_true, lcGo_map xs h]
theorem fLc_filter {α : Type} {it : AF} {tg : Tg} {ft : TF} {fe : PF} {ow : List Nat} {G F : α → D} {p : α → Bool} {xs : List α} (hi : it ρ = some (xs.map G)) (hs : xs.length ≤ 100000) (h : ∀ x ∈ xs, ∃ ρ1, tg.asg (G x) (wipeE ρ ow) = some ρ1 ∧ ft ρ1 = some (p x) ∧ (p x = true → fe ρ1 = some (F x))) : fLc it tg ft fe ow ρ = some (.lst ((xs.filter p).map F)) := by
  unfold fLc
  rw [hi]
  simp only [List.length_map, szOk_of hs, if_true, lcGo_filter xs h]
theorem sP_e (h : f ρ = some d) : sP f ρ = some (d, ρ) := by
  unfold sP
  rw [h]
theorem sT_e (h : t ρ = some x) : sT t ρ = some (x, ρ) := by
  unfold sT
  rw [h]
theorem gSeq_e (h1 : g ρ = some (.nx ρ1)) : gSeq g h ρ = h ρ1 := by
  unfold gSeq
  rw [h1]
theorem gSeqD_e (h1 : g ρ = some (.nx ρ1)) : gSeqD g h ρ = h ρ1 := by
  unfold gSeqD
  rw [h1]
theorem gSeq_r {rv : RV} (h1 : g ρ = some (.rt rv ρ1)) : gSeq g h ρ = some (.rt rv ρ1) := by
  unfold gSeq
  rw [h1]
theorem gIf_t {s : STF} (h1 : s ρ = some (true, ρ1)) : gIf s g h ρ = g ρ1 := by
  unfold gIf
  rw [h1]
theorem gIf_f {s : STF} (h1 : s ρ = some (false, ρ1)) : gIf s g h ρ = h ρ1 := by
  unfold gIf
  rw [h1]
theorem gSet_e {i : Nat} {s : SF} (h1 : s ρ = some (d, ρ1)) (hi : i < ρ1.length) : gSet i s ρ = some (.nx (ρ1.set i (some (.sh d)))) := by
  unfold gSet
  rw [h1]
  simp only [hi, if_true]
theorem gSetN_e {i : Nat} {s : NF'} {ob : Ob} (h1 : s ρ = some (ob, ρ1)) (hi : i < ρ1.length) : gSetN i s ρ = some (.nx (ρ1.set i (some (.own false ob)))) := by
  unfold gSetN
  rw [h1]
  simp only [hi, if_true]
theorem gRet_e {s : SF} (h1 : s ρ = some (d, ρ1)) : gRet s ρ = some (.rt (.sh d) ρ1) := by
  unfold gRet
  rw [h1]
theorem gDrop_e {s : SF} (h1 : s ρ = some (d, ρ1)) : gDrop s ρ = some (.nx ρ1) := by
  unfold gDrop
  rw [h1]
theorem gFor_e {it : AF} {tg : Tg} (h1 : it ρ = some ds) : gFor it tg g ρ = forGo tg g ds ρ := by
  unfold gFor
  rw [h1]
theorem gApp_e {i : Nat} {s : SF} {c c' : Bool} {ds' : List D} (h0 : ownL ρ i = some (c, ds)) (h1 : s ρ = some (d, ρ1)) (h2 : ownL ρ1 i = some (c', ds')) (hs : ds'.length + 1 ≤ 100000) : gApp i s ρ = some (.nx (ρ1.set i (some (.own c' (.lst (ds' ++ [d])))))) := by
  unfold gApp
  rw [h0]
  simp only [h1, h2, szOk_of hs, if_true]
theorem runP_e {n m : Nat} {rv : RV} (hl : ds.length = m) (h1 : g (init n m (ds.map .sh)) = some (.rt rv ρ1)) : runP n m g ds = some rv := by
  unfold runP
  rw [if_pos hl, h1]
theorem runP_n {n m : Nat} (hl : ds.length = m) (h1 : g (init n m (ds.map .sh)) = some (.nx ρ1)) : runP n m g ds = some (.sh .non) := by
  unfold runP
  rw [if_pos hl, h1]
end
theorem allB_true {α : Type} {F : α → Bool} : ∀ (l : List α), (∀ x ∈ l, F x = true) → allB (l.map fun x => .bl (F x)) = some true
  | [], _ => rfl
  | x :: l, h => by
    rw [List.map_cons, allB, allB_true l fun y hy => h y (List.mem_cons_of_mem _ hy), h x (List.mem_cons_self)]
    rfl
end
end Dv

/-! V2 -/
namespace Dv
noncomputable section
open PySem PySem.Spec PyProof.Rows L2 Evl LamX
/-- a list or a tuple -/
def sqD : Bool → List D → D
  | true, l => .tup l
  | false, l => .lst l
def rowT (t : Bool) (r : List Nat) : D := sqD t (r.map nD)
def stT (t : Bool) (S : List (List Nat)) : D := sqD t (S.map (rowT t))
theorem rowT_f (r : List Nat) : rowT false r = nsD r := rfl
theorem stT_f (S : List (List Nat)) : stT false S = stD S := rfl
theorem gLen_s (t : Bool) (ds : List D) : gLen [sqD t ds] = some (nD ds.length) := by cases t <;> rfl
theorem iSeq_s {f : PF} {ρ : En} {t : Bool} {ds : List D} (h : f ρ = some (sqD t ds)) : iSeq f ρ = some ds := by
  cases t
  · exact iSeq_l h
  · exact iSeq_t h
theorem gIx_s {t : Bool} {α : Type} {f : α → D} {l : List α} {i : Nat} (h : i < l.length) : gIx (sqD t (l.map f)) (nD i) = some (f l[i]) := by
  cases t
  · exact gIx_map h
  · exact gIx_tmap h
theorem is_integer_n (n : Nat) : m_is_integer [nD n] = some (.sh (.bl true)) := rfl
theorem is_count_n (n : Nat) : m_is_count [nD n] = some (.sh (.bl true)) := runP_e rfl (gRet_e (sP_e (fAn_e (x := true) (y := true) (fCall_e (aC rfl aN) (is_integer_n n)) fun _ => (fOp_e (b := nD 0) rfl rfl (gGe_n n 0)).trans (by simp))))
theorem is_below_n (n k : Nat) : m_is_below [nD n, nD k] = some (.sh (.bl (decide (n < k)))) := runP_e rfl (gRet_e (sP_e (fAn_e (x := true) (fCall_e (aC rfl aN) (is_count_n n)) fun _ => (fOp_e rfl rfl (gLt_n n k)))))
theorem is_listing_s (t : Bool) (ds : List D) : m_is_listing [sqD t ds] = some (.sh (.bl true)) := by cases t <;> rfl
theorem lenSet_s {t : Bool} {e : List Nat} {f : PF} {ρ : En} (h : f ρ = some (rowT t e)) (hd : e.Nodup) (hl : e.length < 64) : fLenSet f ρ = some (nD e.length) := by
  have hn : (e.map fun n => ((n : Nat) : Int)).Nodup := List.Pairwise.map _ (fun a b h q => h (Int.ofNat.inj q)) hd
  unfold fLenSet
  rw [h]
  cases t
  all_goals
    simp only [rowT, sqD, intsD_ns]
    rw [if_pos ⟨by rw [List.length_map]; exact hl, hn⟩, List.length_map]
    rfl
theorem unlike_ok {t : Bool} {e : List Nat} {n : Nat} (hd : e.Nodup) (hl : e.length < 64) (hn : ∀ x ∈ e, x < n) : m_are_unlike_below [rowT t e, nD n] = some (.sh (.bl true)) := by
  refine runP_e rfl ((gSeq_e ((gIf_f (ρ1 := init 3 2 [.sh (rowT t e), .sh (nD n)]) (sT_e ((tOr_f (tNt_e (tTr_e (fCall_e (aC rfl aN) (is_listing_s t _)) rfl))).trans (tNt_e (tTr_e (fCb_e (aC (fLc_map (G := nD) (F := fun x => .bl (decide (x < n))) (iSeq_s (t := t) rfl) (by omega) fun x hx => ⟨_, rfl, rfl, fCall_e (aC rfl (aC rfl aN)) (is_below_n x n)⟩) aN) (d := .bl true) ?_) rfl))))).trans rfl)).trans (gRet_e (sP_e (fOp_e (lenSet_s rfl hd hl) (fCb_e (aC rfl aN) (gLen_s t _)) ?_))))
  · show (match allB (e.map fun x => .bl (decide (x < n))) with | some b => some (D.bl b) | none => none) = _
    rw [allB_true e fun x hx => decide_eq_true (hn x hx)]
  · rw [List.length_map, gEq_n, decide_eq_true rfl]
theorem check_letters_ok {L : Nat} (h1 : 1 ≤ L) (h3 : L ≤ 3) : m_check_letters [nD L] = some (.sh .non) := by
  refine runP_n (ρ1 := [some (.sh (nD L))]) rfl ((gIf_f (sT_e (tNt_e (x := true) (tTr_e (fCall_e (rv := .sh (.bl true)) (aC rfl aN) ?_) rfl)))).trans rfl)
  refine runP_e rfl (gRet_e (sP_e (fAn_e (x := true) (y := true) (fCall_e (aC rfl aN) (is_integer_n L)) fun _ => ?_)))
  show (match gLe (nD 1) (nD L) with | some (.bl true) => gLe (nD L) (nD 3) | some (.bl false) => some (.bl false) | _ => none) = _
  rw [gLe_n, decide_eq_true h1]
  simp only [gLe_n, decide_eq_true h3]
theorem check_length_ok {n : Nat} (h : n ≤ 6) : m_check_length [nD n] = some (.sh .non) := by
  refine runP_n (ρ1 := [some (.sh (nD n))]) rfl ((gIf_f (sT_e (tNt_e (x := true) (tTr_e (fCall_e (rv := .sh (.bl true)) (aC rfl (aC (fOp_e (a := nD 6) (b := nD 1) rfl rfl (gAdd_n 6 1)) aN)) ?_) rfl)))).trans rfl)
  rw [is_below_n, decide_eq_true (by omega)]
theorem slice_abc {L : Nat} (h3 : L ≤ 3) : cutS ("abc" : Str) none (some (L : Int)) = wS (List.range L) := by
  rcases L with _ | _ | _ | _ | L
  · decide +kernel
  · decide +kernel
  · decide +kernel
  · decide +kernel
  · omega
theorem fSlS_abc {L : Nat} {fo : PF} {ρ : En} (h : fo ρ = some (nD L)) (h3 : L ≤ 3) : fSlS (fC (.str "abc")) oNo (oAt fo) ρ = some (wD (List.range L)) := by
  have e : oAt fo ρ = some (some (L : Int)) := by
    unfold oAt
    rw [h]
    rfl
  unfold fSlS
  rw [e]
  show (if szOk ("abc" : Str).length = true then some (D.str (cutS ("abc" : Str) none (some (L : Int)))) else none) = _
  rw [slice_abc h3, if_pos (by decide +kernel)]
  rfl
theorem in_abc {a L : Nat} (ha : a < L) (h3 : L ≤ 3) : gIn (wD [a]) (wD (List.range L)) = some (.bl true) := by
  have e0 : gInL (wD [a]) (wD (List.range L)) = none := by
    unfold gInL
    cases pyS (wD [a]) <;> rfl
  unfold gIn
  rw [e0]
  show some (D.bl (!(Builtin.Str.occurrences (wS (List.range L)) (wS [a]) 0 (wS (List.range L)).length 1).isEmpty)) = _
  have e : wS [a] = ⟨#[97 + a]⟩ := rfl
  rw [e, PySem.StrLaws.found_one]
  congr 2
  refine decide_eq_true ?_
  show 97 + a ∈ ((List.range L).map (97 + ·)).toArray.toList
  simp
  exact ha
theorem is_word_ok {L : Nat} {w : List Nat} (hw : Ma.Ok L w) (h3 : L ≤ 3) (hl : w.length ≤ 60) : m_is_word_of [nD L, wD w] = some (.sh (.bl true)) := by
  refine runP_e rfl ((gSeq_e ((gIf_f (ρ1 := init 3 2 [.sh (nD L), .sh (wD w)]) (sT_e ((tOr_f (tNt_e (tTr_e (d := .bl true) rfl rfl))).trans (tB_e ((fOp_e (fCb_e (aC rfl aN) (gLen_w (by omega))) (b := nD 60) rfl (gGt_n _ 60)).trans (by rw [decide_eq_false (by omega)])))))).trans rfl)).trans (gRet_e (sP_e (fCb_e (aC (fLc_map (xs := w) (G := fun a => wD [a]) (F := fun _ => .bl true) (iSeq_w rfl) (by omega) fun x hx => ⟨_, rfl, rfl, fOp_e rfl (fSlS_abc rfl h3) (in_abc (hw x hx) h3)⟩) aN) ?_))))
  show (match allB (w.map fun x => .bl true) with | some b => some (D.bl b) | none => none) = _
  rw [allB_true w fun x hx => rfl]
theorem check_word_ok {L : Nat} {w : List Nat} (hw : Ma.Ok L w) (h3 : L ≤ 3) (hl : w.length ≤ 60) : m_check_word [nD L, wD w] = some (.sh .non) :=
  runP_n (ρ1 := [some (.sh (nD L)), some (.sh (wD w))]) rfl ((gIf_f (sT_e (tNt_e (x := true) (tTr_e (fCall_e (aC rfl (aC rfl aN)) (is_word_ok hw h3 hl)) rfl)))).trans rfl)
theorem is_row_ok {t : Bool} {L n : Nat} {r : List Nat} (hl : r.length = L) (h3 : L ≤ 3) (hr : ∀ x ∈ r, x < n) : m_is_row [nD L, nD n, rowT t r] = some (.sh (.bl true)) := by
  refine runP_e rfl (gRet_e (sP_e (fAn_e (x := true) (y := true) (fCall_e (aC rfl aN) (is_listing_s t _)) fun _ => fAn_e (x := true) (y := true) ((fOp_e (fCb_e (aC rfl aN) (gLen_s t _)) rfl (gEq_n _ _)).trans (by rw [List.length_map, hl, decide_eq_true rfl])) fun _ => fCb_e (aC (fLc_map (G := nD) (F := fun x => .bl (decide (x < n))) (iSeq_s (t := t) rfl) (by omega) fun x hx => ⟨_, rfl, rfl, fCall_e (aC rfl (aC rfl aN)) (is_below_n x n)⟩) aN) ?_)))
  show (match allB (r.map fun x => .bl (decide (x < n))) with | some b => some (D.bl b) | none => none) = _
  rw [allB_true r fun x hx => decide_eq_true (hr x hx)]
theorem are_steps_ok {t : Bool} {L n : Nat} {S : Ma.Steps} (g : Ma.Good L n S) (h3 : L ≤ 3) (hn : n ≤ 12) : m_are_steps [nD L, stT t S] = some (.sh (.bl true)) := by
  refine runP_e rfl ((gSeq_e ((gIf_f (ρ1 := init 3 2 [.sh (nD L), .sh (stT t S)]) (sT_e ((tOr_f (tNt_e (tTr_e (fCall_e (aC rfl aN) (is_listing_s t _)) rfl))).trans (tNt_e (x := true) (tB_e ?_))))).trans rfl)).trans (gRet_e (sP_e (fCb_e (aC (fLc_map (G := rowT t) (F := fun _ => .bl true) (iSeq_s (t := t) rfl) (by rw [g.len]; omega) fun r hr => ⟨_, rfl, rfl, fCall_e (rv := .sh (.bl true)) (aC rfl (aC (fCb_e (aC rfl aN) (gLen_s t _)) (aC rfl aN))) ?_⟩) aN) ?_))))
  · have e : gLen [stT t S] = some (nD n) := by rw [stT, gLen_s, List.length_map, g.len]
    have e2 : fCb gLen (aCons (fVar 1) aNil) (init 3 2 [.sh (nD L), .sh (stT t S)]) = some (nD n) := fCb_e (aC rfl aN) e
    unfold fCh
    have e3 : fC (.int 1) (init 3 2 [.sh (nD L), .sh (stT t S)]) = some (nD 1) := rfl
    have e4 : fC (.int 12) (init 3 2 [.sh (nD L), .sh (stT t S)]) = some (nD 12) := rfl
    rw [e3, e4]
    show (match some (nD 1), fCb gLen (aCons (fVar 1) aNil) (init 3 2 [.sh (nD L), .sh (stT t S)]), some (nD 12) with | some x, some y, some z => (match gLe x y with | some (.bl true) => gLe y z | some (.bl false) => some (.bl false) | _ => none) | _, _, _ => none) = _
    rw [e2]
    have := g.pos
    simp only [gLe_n, decide_eq_true (show 1 ≤ n by omega), decide_eq_true hn]
  · rw [List.length_map, g.len]
    exact is_row_ok (g.row r hr).1 h3 (g.row r hr).2
  · show (match allB (S.map fun x => .bl true) with | some b => some (D.bl b) | none => none) = _
    rw [allB_true S fun x hx => rfl]
end
end Dv

/-! V3 -/
namespace Dv
noncomputable section
open PySem PySem.Spec PyProof.Rows L2 Evl LamX
/-! the law's draws -/
def IsPot (o : Ob) : Prop := ∃ a b : Int, o = .lst [.int a, .int b] ∧ 0 ≤ a ∧ 0 ≤ b
section
variable {ρ ρ1 ρ2 : En} {d : D} {ds : List D} {f : PF} {g h : SS} {i j : Int}
theorem saC {s : SF} {r : SAF} (h1 : s ρ = some (d, ρ1)) (h2 : r ρ1 = some (ds, ρ2)) : saCons s r ρ = some (d :: ds, ρ2) := by
  unfold saCons
  rw [h1]
  simp only [h2]
theorem nLstI_e {r : SAF} (h1 : r ρ = some (ds, ρ1)) (hs : ds.length ≤ 100000) : nLstI r ρ = some (.lst ds, ρ1) := by
  unfold nLstI
  rw [h1]
  simp only [szOk_of hs, if_true]
theorem sTup_e {r : SAF} (h1 : r ρ = some (ds, ρ1)) (hs : ds.length ≤ 100000) : sTup r ρ = some (.tup ds, ρ1) := by
  unfold sTup
  rw [h1]
  simp only [szOk_of hs, if_true]
theorem gRetN_e {s : NF'} {ob : Ob} (h1 : s ρ = some (ob, ρ1)) : gRetN s ρ = some (.rt (.new ob) ρ1) := by
  unfold gRetN
  rw [h1]
theorem nCall_e {sem : SemP} {fa : SAF} {ob : Ob} (h1 : fa ρ = some (ds, ρ1)) (h2 : sem ds = some (.new ob)) : nCall sem fa ρ = some (ob, ρ1) := by
  unfold nCall
  rw [h1]
  simp only [h2]
theorem sCall_e {sem : SemP} {fa : SAF} {rv : RV} (h1 : fa ρ = some (ds, ρ1)) (h2 : sem ds = some rv) : sCall sem fa ρ = some (rvD rv, ρ1) := by
  unfold sCall
  rw [h1]
  simp only [h2]
theorem sCallB_e {i : Nat} {sem : SemB} {fa : SAF} {c c' : Bool} {ob ob' o' : Ob} {rv : RV} (h0 : ownO ρ i = some (c', ob')) (h1 : fa ρ = some (ds, ρ1)) (h2 : ownO ρ1 i = some (c, ob)) (h3 : sem ob ds = some (rv, o')) : sCallB i sem fa ρ = some (rvD rv, ρ1.set i (some (.own c o'))) := by
  unfold sCallB bCall
  rw [h0, h1]
  simp only [h2, h3]
theorem sOp_e {k : G2} {fa fb : SF} {a b : D} (ha : fa ρ = some (a, ρ1)) (hb : fb ρ1 = some (b, ρ2)) (h : k a b = some d) : sOp k fa fb ρ = some (d, ρ2) := by
  unfold sOp
  rw [ha]
  simp only [hb, h]
theorem sB_e {s : SF} {x : Bool} (h1 : s ρ = some (.bl x, ρ1)) : sB s ρ = some (x, ρ1) := by
  unfold sB
  rw [h1]
theorem gMod_e (h : 0 < j) : gMod (.int i) (.int j) = some (.int (i % j)) := by
  show (if decide (0 < j) = true then some (D.int (i % j)) else none) = _
  rw [decide_eq_true h, if_pos rfl]
theorem gDiv_e (h : 0 < j) (h2 : j < 1073741824) : gDiv (.int i) (.int j) = some (.int (i / j)) := by
  show (if (decide (0 < j) && decide (j < 1073741824)) = true then some (D.int (i / j)) else none) = _
  rw [decide_eq_true h, decide_eq_true h2]
  rfl
theorem gMulA_e (h : b64 i = true ∨ b64 j = true) : gMulA (.int i) (.int j) = some (.int (i * j)) := by
  unfold gMulA
  have : gMul (.int i) (.int j) = some (.int (i * j)) := by
    show (if (b64 i || b64 j) = true then some (D.int (i * j)) else none) = _
    rw [if_pos (by rcases h with h | h <;> simp [h])]
  rw [this]
theorem b64_of (h1 : 0 ≤ i) (h2 : i < 2 ^ 64) : b64 i = true := by
  unfold b64
  rw [decide_eq_true (by omega), decide_eq_true h2]
  rfl
end
theorem law_pot_ok (ns : List Int) : ∃ o, IsPot o ∧ m_law_pot [.scr ns, .int 0] = some (.new o) := by
  have hc : ∃ c : Int, 0 ≤ c ∧ fIf (tB' (fOp gLt (fVar 1) (fCb gLen (aCons (fVar 0) aNil)))) (fCb gAbs (aCons (fOp gIx (fVar 0) (fVar 1)) aNil)) (fOp gAdd (fOp gMulA (fC (.int 2351)) (fVar 1)) (fC (.int 1471))) (init 3 2 [.sh (.scr ns), .sh (.int 0)]) = some (.int c) := by
    cases ns with
    | nil => exact ⟨1471, by decide, (fIf_f (tB_e (x := false) (fOp_e (a := .int 0) (b := .int 0) rfl (fCb_e (aC rfl aN) rfl) rfl))).trans (fOp_e (fOp_e rfl rfl (gMulA_e (i := 2351) (j := 0) (.inl (by decide)))) rfl rfl)⟩
    | cons n ns =>
      refine ⟨if n < 0 then -n else n, by split <;> omega, (fIf_t (tB_e (x := true) (fOp_e (a := .int 0) (b := .int ((n :: ns).length : Nat)) rfl (fCb_e (aC rfl aN) rfl) ?_))).trans (fCb_e (aC (fOp_e (d := .int n) rfl rfl ?_) aN) rfl)⟩
      · show some (D.bl (decide ((0 : Int) < ((n :: ns).length : Nat)))) = _
        rw [decide_eq_true (by rw [List.length_cons]; omega)]
      · have : atI (n :: ns) ((0 : Nat) : Int) = some n := atD rfl
        show (match atI (n :: ns) 0 with | some c => some (D.int c) | none => none) = _
        rw [show (0 : Int) = ((0 : Nat) : Int) from rfl, this]
  obtain ⟨c, h0, hc⟩ := hc
  let ρ : En := [some (.sh (.scr ns)), some (.sh (.int 0)), some (.sh (.int c))]
  have e2 : (fCb gMax2 (aCons (fC (.int 0)) (aCons (fOp Dv.gSub (fVar 2) (fOp gPow (fC (.int 10)) (fC (.int 18)))) aNil))) ρ = some (.int (if c - 10 ^ 18 > 0 then c - 10 ^ 18 else 0)) :=
    fCb_e (aC rfl (aC (fOp_e (a := .int c) (b := .int (10 ^ 18)) rfl (fOp_e (a := .int 10) (b := .int 18) rfl rfl rfl) rfl) aN)) rfl
  have e3 : (fOp gAdd (fOp gMod (fCb gInt (aCons (fOp gAdd (fOp gAdd (fOp gMulA (fOp gMod (fCb gInt (aCons (fVar 2) aNil)) (fC (.int 2147483549))) (fC (.int 44189))) (fOp gMulA (fC (.int 1021)) (fVar 1))) (fC (.int 23173))) aNil)) (fC (.int 2147483579))) (fC (.int 1))) ρ = some (.int ((c % 2147483549 * 44189 + 1021 * 0 + 23173) % 2147483579 + 1)) :=
    fOp_e (fOp_e (fCb_e (aC (fOp_e (fOp_e (fOp_e (fOp_e (fCb_e (aC rfl aN) rfl) rfl (gMod_e (by decide))) rfl (gMulA_e (.inr (by decide)))) (fOp_e rfl rfl (gMulA_e (.inl (by decide)))) rfl) rfl rfl) aN) rfl) rfl (gMod_e (by decide))) rfl rfl
  refine ⟨.lst [.int (if c - 10 ^ 18 > 0 then c - 10 ^ 18 else 0), .int ((c % 2147483549 * 44189 + 1021 * 0 + 23173) % 2147483579 + 1)], ⟨_, _, rfl, by split <;> omega, by omega⟩, ?_⟩
  refine runP_e (ρ1 := ρ) rfl ((gSeq_e (gSet_e (sP_e hc) (Nat.lt_succ_self 2))).trans ?_)
  have e4 := sP_e e2
  have e5 := sP_e e3
  exact gRetN_e (nLstI_e (saC e4 (saC e5 rfl)) (by show 2 ≤ 100000; omega))
theorem runB_r {n m : Nat} {g : SS} {o o' : Ob} {ds : List D} {rv : RV} {ρ1 : En} (hl : ds.length + 1 = m) (h1 : g (init n m (.own true o :: ds.map .sh)) = some (.rt rv ρ1)) (h2 : ownO ρ1 0 = some (true, o')) : runB n m g o ds = some (rv, o') := by
  unfold runB
  rw [if_pos hl, h1]
  simp only [h2]
theorem law_draw_ok {o : Ob} (hp : IsPot o) {m : Nat} (h0 : 0 < m) (h1 : m < 1073741824) : ∃ k o', k < m ∧ IsPot o' ∧ m_law_draw o [nD m] = some (.sh (nD k), o') := by
  obtain ⟨a, b, rfl, ha, hb⟩ := hp
  let ρ : En := [some (.own true (.lst [.int a, .int b])), some (.sh (nD m)), none]
  have x0 : fOp gIx (fVar 0) (fC (.int 0)) ρ = some (.int a) := fOp_e (a := .lst [.int a, .int b]) (b := nD 0) rfl rfl (atD rfl)
  have x1 : fOp gIx (fVar 0) (fC (.int 1)) ρ = some (.int b) := fOp_e (a := .lst [.int a, .int b]) (b := nD 1) rfl rfl (atD rfl)
  have c0 : tB' (fOp gGt (fOp gIx (fVar 0) (fC (.int 0))) (fC (.int 0))) ρ = some (decide (0 < a)) := tB_e (fOp_e (a := .int a) (b := .int 0) x0 rfl rfl)
  by_cases q : 0 < a
  · rw [decide_eq_true q] at c0
    have hk : (0 : Int) ≤ a % m ∧ a % m < m := ⟨Int.emod_nonneg _ (by omega), Int.emod_lt_of_pos _ (by omega)⟩
    refine ⟨(a % m).toNat, .lst [.int (a / m), .int b], by omega, ⟨_, _, rfl, Int.ediv_nonneg ha (by omega), hb⟩, ?_⟩
    have x2 : fCb gDivmod (aCons (fOp gIx (fVar 0) (fC (.int 0))) (aCons (fVar 1) aNil)) ρ = some (.tup [.int (a / m), .int (a % m)]) := fCb_e (ds := [.int a, .int m]) (aC x0 (aC rfl aN)) (by
      show (if (0 : Int) < m ∧ (m : Int) < 1073741824 then _ else _) = _
      rw [if_pos ⟨by omega, by omega⟩])
    have x3 : gItem2 0 0 2 (sP (fCb gDivmod (aCons (fOp gIx (fVar 0) (fC (.int 0))) (aCons (fVar 1) aNil)))) ρ = some (.nx [some (.own true (.lst [.int (a / m), .int b])), some (.sh (nD m)), some (.sh (.int (a % m)))]) := by
      unfold gItem2
      rw [sP_e x2]
      rfl
    refine runB_r (ρ1 := [some (.own true (.lst [.int (a / m), .int b])), some (.sh (nD m)), some (.sh (nD (a % m).toNat))]) rfl (gSeq_r ((gIf_t (sT_e c0)).trans ((gSeq_e x3).trans ?_))) rfl
    have : nD (a % (m : Int)).toNat = .int (a % m) := by
      unfold nD
      rw [Int.toNat_of_nonneg hk.1]
    rw [this]
    rfl
  · rw [decide_eq_false q] at c0
    let b' : Int := (b * 44189 + 1021) % 2147483629
    have hb' : 0 ≤ b' ∧ b' < 2147483629 := ⟨Int.emod_nonneg _ (by decide), Int.emod_lt_of_pos _ (by decide)⟩
    let v : Int := (b' * b') % 2147483587 / 13 % m
    have hk : (0 : Int) ≤ v ∧ v < m := ⟨Int.emod_nonneg _ (by omega), Int.emod_lt_of_pos _ (by omega)⟩
    refine ⟨v.toNat, .lst [.int a, .int b'], by omega, ⟨_, _, rfl, ha, hb'.1⟩, ?_⟩
    have x2 : fOp gMod (fCb gInt (aCons (fOp gAdd (fOp gMulA (fOp gIx (fVar 0) (fC (.int 1))) (fC (.int 44189))) (fC (.int 1021))) aNil)) (fC (.int 2147483629)) ρ = some (.int b') :=
      fOp_e (fCb_e (aC (fOp_e (fOp_e x1 rfl (gMulA_e (.inr (by decide)))) rfl rfl) aN) rfl) rfl (gMod_e (by decide))
    let ρ' : En := [some (.own true (.lst [.int a, .int b'])), some (.sh (nD m)), none]
    have x3 : gItem 0 1 (sP (fOp gMod (fCb gInt (aCons (fOp gAdd (fOp gMulA (fOp gIx (fVar 0) (fC (.int 1))) (fC (.int 44189))) (fC (.int 1021))) aNil)) (fC (.int 2147483629)))) ρ = some (.nx ρ') := by
      unfold gItem
      rw [sP_e x2]
      rfl
    have y1 : fOp gIx (fVar 0) (fC (.int 1)) ρ' = some (.int b') := fOp_e (a := .lst [.int a, .int b']) (b := nD 1) rfl rfl (atD rfl)
    have x4 : fOp gMod (fCb gInt (aCons (fOp gDiv (fOp gMod (fCb gInt (aCons (fOp gMulA (fOp gIx (fVar 0) (fC (.int 1))) (fOp gIx (fVar 0) (fC (.int 1)))) aNil)) (fC (.int 2147483587))) (fC (.int 13))) aNil)) (fVar 1) ρ' = some (.int v) :=
      fOp_e (fCb_e (aC (fOp_e (fOp_e (fCb_e (aC (fOp_e y1 y1 (gMulA_e (.inl (b64_of hb'.1 (by omega))))) aN) rfl) rfl (gMod_e (by decide))) rfl (gDiv_e (by decide) (by decide))) aN) rfl) rfl (gMod_e (by omega))
    have : nD v.toNat = .int v := by
      unfold nD
      rw [Int.toNat_of_nonneg hk.1]
    rw [this]
    exact runB_r (ρ1 := ρ') rfl ((gSeq_e ((gIf_f (ρ1 := ρ) (sT_e c0)).trans rfl)).trans ((gSeq_e x3).trans (gRet_e (sP_e x4)))) rfl
end
end Dv

/-! V4 -/
namespace Dv
noncomputable section
open PySem PySem.Spec PyProof.Rows L2 Evl LamX
/-! the machine that the law draws -/
structure Drawn (L n : Nat) (S : List (List Nat)) (e : List Nat) : Prop where
  good : Ma.Good L n S
  nd : e.Nodup
  lt : ∀ x ∈ e, x < n
theorem gRet_t {ρ ρ1 : En} {s : SF} {d : D} (h1 : s ρ = some (d, ρ1)) : gRet s ρ = some (.rt (.sh d) ρ1) := gRet_e h1
theorem runB_sh {n m : Nat} {g : SS} {o o' : Ob} {ds : List D} {d : D} {ρ1 : En} (hl : ds.length + 1 = m) (h1 : g (init n m (.own true o :: ds.map .sh)) = some (.rt (.sh d) ρ1)) (h2 : ownO ρ1 0 = some (true, o')) : runB n m g o ds = some (.sh d, o') := runB_r hl h1 h2
theorem law_machine_ok {o : Ob} (hp : IsPot o) {L : Nat} (hL : L ≤ 3) : ∃ n S e o', Drawn L n S e ∧ n ≤ 6 ∧ IsPot o' ∧ m_law_machine o [nD L, nD 6] = some (.sh (.tup [stD S, nsD e]), o') := by
  obtain ⟨k, o1, hk, hp1, e1⟩ := law_draw_ok hp (m := 6) (by omega) (by omega)
  let n := 1 + k
  have hn : n = 1 + k := rfl
  let ρ0 : En := [some (.own true o), some (.sh (nD L)), some (.sh (nD 6)), none, none, none, none, none, none]
  let ρ1 : En := [some (.own true o1), some (.sh (nD L)), some (.sh (nD 6)), some (.sh (nD n)), some (.own false (.lst [])), some (.own false (.lst [])), none, none, none]
  have p1 : sOp gAdd (sP (fC (.int 1))) (sCallB 0 m_law_draw (saCons (sFrz 2) saNil)) ρ0 = some (nD n, [some (.own true o1), some (.sh (nD L)), some (.sh (nD 6)), none, none, none, none, none, none]) :=
    sOp_e (a := nD 1) (b := nD k) rfl (sCallB_e (ρ := ρ0) (ρ1 := ρ0) (i := 0) (fa := saCons (sFrz 2) saNil) (c := true) (c' := true) (rv := .sh (nD k)) (ds := [nD 6]) rfl rfl rfl e1) (gAdd_n 1 k)
  have q1 : gPar [3, 4, 5] [.I (sOp gAdd (sP (fC (.int 1))) (sCallB 0 m_law_draw (saCons (sFrz 2) saNil))), .N (nLstI saNil), .N (nLstI saNil)] ρ0 = some (.nx ρ1) := by
    unfold gPar mGo
    rw [p1]
    rfl
  let I : Nat → En → Prop := fun i ρ => ∃ (o : Ob) (S : List (List Nat)) (e : List Nat) (x6 x7 x8 : Option DV), IsPot o ∧ S.length = i ∧ (∀ r ∈ S, r.length = L ∧ ∀ x ∈ r, x < n) ∧ e.Nodup ∧ (∀ x ∈ e, x < i) ∧ e.length ≤ i ∧ ρ = [some (.own true o), some (.sh (nD L)), some (.sh (nD 6)), some (.sh (nD n)), some (.own false (.lst (S.map nsD))), some (.own false (.lst (e.map nD))), x6, x7, x8]
  have q2 : ∃ ρ2, gFor (iRange (fShr 3)) (.nm 6) (gSeq (gSetN 7 (nLstI saNil)) (gSeq (gFor (iRange (fShr 1)) (.nm 8) (gApp 7 (sCallB 0 m_law_draw (saCons (sFrz 3) saNil)))) (gSeq (gApp 4 (sFrz 7)) (gIf (sB (sOp gEqA (sCallB 0 m_law_draw (saCons (sP (fC (.int 2))) saNil)) (sP (fC (.int 0))))) (gApp 5 (sFrz 6)) gNil')))) ρ1 = some (.nx ρ2) ∧ I n ρ2 := by
    rw [gFor_e (iRange_n (n := n) rfl (by omega))]
    have := forGo_inv (tg := .nm 6) (G := nD) (g := gSeq (gSetN 7 (nLstI saNil)) (gSeq (gFor (iRange (fShr 1)) (.nm 8) (gApp 7 (sCallB 0 m_law_draw (saCons (sFrz 3) saNil)))) (gSeq (gApp 4 (sFrz 7)) (gIf (sB (sOp gEqA (sCallB 0 m_law_draw (saCons (sP (fC (.int 2))) saNil)) (sP (fC (.int 0))))) (gApp 5 (sFrz 6)) gNil')))) I (List.range n) 0 ρ1 ⟨o1, [], [], none, none, none, hp1, rfl, by simp, by simp, by simp, by simp, rfl⟩ ?_
    · rw [List.length_range, Nat.zero_add] at this
      exact this
    · rintro i hi ρ ⟨o, S, e, x6, x7, x8, hp, hS, hr, hd, hlt, hle, rfl⟩
      rw [Nat.zero_add] at hS hlt hle ⊢
      rw [List.length_range] at hi
      rw [List.getElem_range]
      let σ0 : En := [some (.own true o), some (.sh (nD L)), some (.sh (nD 6)), some (.sh (nD n)), some (.own false (.lst (S.map nsD))), some (.own false (.lst (e.map nD))), some (.sh (nD i)), x7, x8]
      let σ1 : En := [some (.own true o), some (.sh (nD L)), some (.sh (nD 6)), some (.sh (nD n)), some (.own false (.lst (S.map nsD))), some (.own false (.lst (e.map nD))), some (.sh (nD i)), some (.own false (.lst [])), x8]
      let J : Nat → En → Prop := fun j ρ => ∃ (o : Ob) (r : List Nat) (x8 : Option DV), IsPot o ∧ r.length = j ∧ (∀ x ∈ r, x < n) ∧ ρ = [some (.own true o), some (.sh (nD L)), some (.sh (nD 6)), some (.sh (nD n)), some (.own false (.lst (S.map nsD))), some (.own false (.lst (e.map nD))), some (.sh (nD i)), some (.own false (.lst (r.map nD))), x8]
      have w1 : ∃ σ2, gFor (iRange (fShr 1)) (.nm 8) (gApp 7 (sCallB 0 m_law_draw (saCons (sFrz 3) saNil))) σ1 = some (.nx σ2) ∧ J L σ2 := by
        rw [gFor_e (iRange_n (n := L) rfl (by omega))]
        have := forGo_inv (tg := .nm 8) (G := nD) (g := gApp 7 (sCallB 0 m_law_draw (saCons (sFrz 3) saNil))) J (List.range L) 0 σ1 ⟨o, [], x8, hp, rfl, by simp, rfl⟩ ?_
        · rw [List.length_range, Nat.zero_add] at this
          exact this
        · rintro j hj ρ ⟨o, r, x8, hp, hr, hx, rfl⟩
          rw [Nat.zero_add] at hr ⊢
          rw [List.length_range] at hj
          rw [List.getElem_range]
          obtain ⟨k', o', hk', hp', e'⟩ := law_draw_ok hp (m := n) (by omega) (by omega)
          have := sCallB_e (ρ := [some (.own true o), some (.sh (nD L)), some (.sh (nD 6)), some (.sh (nD n)), some (.own false (.lst (S.map nsD))), some (.own false (.lst (e.map nD))), some (.sh (nD i)), some (.own false (.lst (r.map nD))), some (.sh (nD j))]) (i := 0) (sem := m_law_draw) (fa := saCons (sFrz 3) saNil) rfl rfl rfl e'
          refine ⟨_, _, rfl, gApp_e (ds := r.map nD) rfl this (ds' := r.map nD) rfl (by rw [List.length_map]; omega), o', r ++ [k'], some (.sh (nD j)), hp', by rw [List.length_append, hr]; rfl, ?_, ?_⟩
          · intro x hxm
            rcases List.mem_append.mp hxm with h | h
            · exact hx x h
            · rw [List.mem_singleton] at h
              rw [h]
              exact hk'
          · rw [List.map_append]
            rfl
      obtain ⟨σ2, w1, o2, r, y8, hp2, hrl, hrx, rfl⟩ := w1
      obtain ⟨k3, o3, hk3, hp3, e3⟩ := law_draw_ok hp2 (m := 2) (by omega) (by omega)
      let σ3 : En := [some (.own true o2), some (.sh (nD L)), some (.sh (nD 6)), some (.sh (nD n)), some (.own false (.lst ((S ++ [r]).map nsD))), some (.own false (.lst (e.map nD))), some (.sh (nD i)), some (.sh (nsD r)), y8]
      have w2 : gApp 4 (sFrz 7) [some (.own true o2), some (.sh (nD L)), some (.sh (nD 6)), some (.sh (nD n)), some (.own false (.lst (S.map nsD))), some (.own false (.lst (e.map nD))), some (.sh (nD i)), some (.own false (.lst (r.map nD))), y8] = some (.nx σ3) := by
        refine (gApp_e (ds := S.map nsD) rfl (d := nsD r) rfl (ds' := S.map nsD) rfl (by rw [List.length_map]; omega)).trans ?_
        show _ = some (Out.nx [some (.own true o2), some (.sh (nD L)), some (.sh (nD 6)), some (.sh (nD n)), some (.own false (.lst ((S ++ [r]).map nsD))), some (.own false (.lst (e.map nD))), some (.sh (nD i)), some (.sh (nsD r)), y8])
        rw [List.map_append]
        rfl
      let σ4 : En := [some (.own true o3), some (.sh (nD L)), some (.sh (nD 6)), some (.sh (nD n)), some (.own false (.lst ((S ++ [r]).map nsD))), some (.own false (.lst (e.map nD))), some (.sh (nD i)), some (.sh (nsD r)), y8]
      have w3 : sB (sOp gEqA (sCallB 0 m_law_draw (saCons (sP (fC (.int 2))) saNil)) (sP (fC (.int 0)))) σ3 = some (decide (k3 = 0), σ4) :=
        sB_e (sOp_e (b := nD 0) (sCallB_e (i := 0) (sem := m_law_draw) (fa := saCons (sP (fC (.int 2))) saNil) rfl rfl rfl e3) rfl (gEq_n k3 0))
      have hrows : ∀ r' ∈ S ++ [r], r'.length = L ∧ ∀ x ∈ r', x < n := by
        intro r' h
        rcases List.mem_append.mp h with h | h
        · exact hr r' h
        · rw [List.mem_singleton] at h
          rw [h]
          exact ⟨hrl, hrx⟩
      have hlen : (S ++ [r]).length = i + 1 := by rw [List.length_append, hS]; rfl
      by_cases q : k3 = 0
      · rw [decide_eq_true q] at w3
        refine ⟨σ0, _, rfl, (gSeq_e (ρ1 := σ1) rfl).trans ((gSeq_e w1).trans ((gSeq_e w2).trans ((gIf_t w3).trans (gApp_e (ds := e.map nD) rfl (d := nD i) rfl (ds' := e.map nD) rfl (by rw [List.length_map]; omega))))), o3, S ++ [r], e ++ [i], some (.sh (nD i)), some (.sh (nsD r)), y8, hp3, hlen, hrows, ?_, ?_, ?_, ?_⟩
        · rw [List.nodup_append]
          refine ⟨hd, by simp, ?_⟩
          intro a ha b hb
          rw [List.mem_singleton] at hb
          have := hlt a ha
          omega
        · intro x hx
          rcases List.mem_append.mp hx with h | h
          · have := hlt x h
            omega
          · rw [List.mem_singleton] at h
            omega
        · rw [List.length_append]
          show e.length + 1 ≤ i + 1
          omega
        · show [some (DV.own true o3), some (.sh (nD L)), some (.sh (nD 6)), some (.sh (nD n)), some (.own false (.lst ((S ++ [r]).map nsD))), some (.own false (.lst (e.map nD ++ [nD i]))), some (.sh (nD i)), some (.sh (nsD r)), y8] = _
          rw [List.map_append (l₁ := e)]
          rfl
      · rw [decide_eq_false q] at w3
        exact ⟨σ0, σ4, rfl, (gSeq_e (ρ1 := σ1) rfl).trans ((gSeq_e w1).trans ((gSeq_e w2).trans ((gIf_f w3).trans rfl))), o3, S ++ [r], e, some (.sh (nD i)), some (.sh (nsD r)), y8, hp3, hlen, hrows, hd, fun x hx => by have := hlt x hx; omega, by omega, rfl⟩
  obtain ⟨ρ2, q2, o2, S, e, x6, x7, x8, hp2, hS, hr, hd, hlt, hle, rfl⟩ := q2
  refine ⟨n, S, e, o2, ⟨⟨hS, by omega, hr⟩, hd, hlt⟩, by omega, hp2, ?_⟩
  exact runB_sh (ρ1 := [some (.own true o2), some (.sh (nD L)), some (.sh (nD 6)), some (.sh (nD n)), some (.sh (stD S)), some (.sh (nsD e)), x6, x7, x8]) rfl ((gSeq_e q1).trans ((gSeq_e q2).trans (gRet_e (sTup_e (saC rfl (saC rfl rfl)) (by show 2 ≤ 100000; omega))))) rfl
end
end Dv

/-! V5 -/
namespace Dv
noncomputable section
open PySem PySem.Spec PyProof.Rows L2 Evl LamX
theorem run_lt {L n : Nat} {S : Ma.Steps} (g : Ma.Good L n S) : ∀ (w : List Nat) (s : Nat), s < n → Ma.Ok L w → Ma.run (Ma.nx S) s w < n
  | [], _, h, _ => h
  | a :: w, s, h, hw => run_lt g w _ (g.nx h hw.head) hw.tail
theorem Ok_take {L : Nat} {w : List Nat} (h : Ma.Ok L w) (i : Nat) : Ma.Ok L (w.take i) := fun a ha => h a (List.mem_of_mem_take ha)
theorem take_snoc {w : List Nat} {i : Nat} (h : i < w.length) : w.take (i + 1) = w.take i ++ [w[i]] := by
  rw [List.take_succ, List.getElem?_eq_getElem h]
  rfl
theorem fMt_abc {ρ : En} {f : PF} {a : Nat} (h : f ρ = some (wD [a])) (ha : a < 3) : fMt gIdxS (fC (.str "abc")) (aCons f aNil) ρ = some (nD a) := fMt_e rfl (aC h aN) (idx_abc ha)
theorem step_ok {L n : Nat} {S : Ma.Steps} (g : Ma.Good L n S) {s a : Nat} (hs : s < n) (ha : a < L) {ρ : En} {f1 f2 f3 : PF} (h1 : f1 ρ = some (stD S)) (h2 : f2 ρ = some (nD s)) (h3 : f3 ρ = some (nD a)) : fOp gIx (fOp gIx f1 f2) f3 ρ = some (nD (Ma.nx S s a)) :=
  fOp_e (fOp_e h1 h2 (gIx_st (by rw [g.len]; exact hs))) h3 (gIx_ns (by rw [(g.at hs).1]; exact ha))
theorem led_loop {L n : Nat} {S : Ma.Steps} (g : Ma.Good L n S) (h3 : L ≤ 3) {w : List Nat} (hw : Ma.Ok L w) (x0 x4 : Option DV) (v : D) :
    ∃ x4', forGo (.nm 4) (gSet 3 (sP (fOp gIx (fOp gIx (fVar 2) (fVar 3)) (fMt gIdxS (fC (.str "abc")) (aCons (fVar 4) aNil))))) (w.map fun a => wD [a]) [x0, some (.sh v), some (.sh (stD S)), some (.sh (nD 0)), x4] = some (.nx [x0, some (.sh v), some (.sh (stD S)), some (.sh (nD (Ma.run (Ma.nx S) 0 w))), x4']) := by
  let I : Nat → En → Prop := fun i ρ => ∃ x4 : Option DV, ρ = [x0, some (.sh v), some (.sh (stD S)), some (.sh (nD (Ma.run (Ma.nx S) 0 (w.take i)))), x4]
  obtain ⟨ρ', e, x, q⟩ := forGo_inv (tg := .nm 4) (G := fun a => wD [a]) (g := gSet 3 (sP (fOp gIx (fOp gIx (fVar 2) (fVar 3)) (fMt gIdxS (fC (.str "abc")) (aCons (fVar 4) aNil))))) I w 0 [x0, some (.sh v), some (.sh (stD S)), some (.sh (nD 0)), x4] ⟨x4, rfl⟩ (by
    rintro i hi ρ ⟨x, rfl⟩
    rw [Nat.zero_add]
    have ha : w[i] < L := hw _ (List.getElem_mem hi)
    have hs := run_lt g (w.take i) 0 g.pos (Ok_take hw i)
    refine ⟨_, _, rfl, gSet_e (sP_e (step_ok g hs ha (ρ := [x0, some (.sh v), some (.sh (stD S)), some (.sh (nD (Ma.run (Ma.nx S) 0 (w.take i)))), some (.sh (wD [w[i]]))]) rfl rfl (fMt_abc rfl (by omega)))) (by show 3 < 5; omega), some (.sh (wD [w[i]])), ?_⟩
    rw [take_snoc hi, Ma.run_snoc]
    rfl)
  rw [Nat.zero_add, List.take_length] at q
  exact ⟨x, by rw [e, q]⟩
theorem led_loop3 {L n : Nat} {S : Ma.Steps} (g : Ma.Good L n S) (h3 : L ≤ 3) {w : List Nat} (hw : Ma.Ok L w) (x3 : Option DV) (v : D) :
    ∃ x3', forGo (.nm 3) (gSet 2 (sP (fOp gIx (fOp gIx (fVar 0) (fVar 2)) (fMt gIdxS (fC (.str "abc")) (aCons (fVar 3) aNil))))) (w.map fun a => wD [a]) [some (.sh (stD S)), some (.sh v), some (.sh (nD 0)), x3] = some (.nx [some (.sh (stD S)), some (.sh v), some (.sh (nD (Ma.run (Ma.nx S) 0 w))), x3']) := by
  let I : Nat → En → Prop := fun i ρ => ∃ x4 : Option DV, ρ = [some (.sh (stD S)), some (.sh v), some (.sh (nD (Ma.run (Ma.nx S) 0 (w.take i)))), x4]
  obtain ⟨ρ', e, x, q⟩ := forGo_inv (tg := .nm 3) (G := fun a => wD [a]) (g := gSet 2 (sP (fOp gIx (fOp gIx (fVar 0) (fVar 2)) (fMt gIdxS (fC (.str "abc")) (aCons (fVar 3) aNil))))) I w 0 [some (.sh (stD S)), some (.sh v), some (.sh (nD 0)), x3] ⟨x3, rfl⟩ (by
    rintro i hi ρ ⟨x, rfl⟩
    rw [Nat.zero_add]
    have ha : w[i] < L := hw _ (List.getElem_mem hi)
    have hs := run_lt g (w.take i) 0 g.pos (Ok_take hw i)
    refine ⟨_, _, rfl, gSet_e (sP_e (step_ok g hs ha (ρ := [some (.sh (stD S)), some (.sh v), some (.sh (nD (Ma.run (Ma.nx S) 0 (w.take i)))), some (.sh (wD [w[i]]))]) rfl rfl (fMt_abc rfl (by omega)))) (by show 2 < 4; omega), some (.sh (wD [w[i]])), ?_⟩
    rw [take_snoc hi, Ma.run_snoc]
    rfl)
  rw [Nat.zero_add, List.take_length] at q
  exact ⟨x, by rw [e, q]⟩
theorem law_led_ok {L n : Nat} {S : Ma.Steps} (g : Ma.Good L n S) (h3 : L ≤ 3) {w : List Nat} (hw : Ma.Ok L w) : m_law_led [stD S, wD w] = some (.sh (nD (Ma.run (Ma.nx S) 0 w))) := by
  obtain ⟨x, e⟩ := led_loop3 g h3 hw none (wD w)
  exact runP_e rfl ((gSeq_e (ρ1 := [some (.sh (stD S)), some (.sh (wD w)), some (.sh (nD 0)), none]) rfl).trans ((gSeq_e ((gFor_e (iSeq_w rfl)).trans e)).trans rfl))
/-! the program's own machines, as data -/
def mD (L : Nat) (S : List (List Nat)) (e : List Nat) : D := .ins "Machine" [("_letters", nD L), ("_steps", stD S), ("_ends", nsD e)]
theorem fld_l {ρ : En} {f : PF} {L : Nat} {S : List (List Nat)} {e : List Nat} (h : f ρ = some (mD L S e)) : fFld "Machine" "_letters" f ρ = some (nD L) := by
  unfold fFld
  rw [h]
  rfl
theorem fld_s {ρ : En} {f : PF} {L : Nat} {S : List (List Nat)} {e : List Nat} (h : f ρ = some (mD L S e)) : fFld "Machine" "_steps" f ρ = some (stD S) := by
  unfold fFld
  rw [h]
  rfl
theorem fld_e {ρ : En} {f : PF} {L : Nat} {S : List (List Nat)} {e : List Nat} (h : f ρ = some (mD L S e)) : fFld "Machine" "_ends" f ρ = some (nsD e) := by
  unfold fFld
  rw [h]
  rfl
section
variable {L : Nat} {S : List (List Nat)} {e : List Nat}
theorem letters_ok : m_Machine_letters [mD L S e] = some (.sh (nD L)) := runP_e rfl (gRet_e (sP_e (fld_l rfl)))
theorem states_ok : m_Machine_states [mD L S e] = some (.sh (nD S.length)) := runP_e rfl (gRet_e (sP_e (fCb_e (aC (fld_s rfl) aN) (by rw [stD, gLen_l, List.length_map]))))
theorem steps_ok (h : S.length ≤ 100000) : m_Machine_steps [mD L S e] = some (.sh (stD S)) :=
  runP_e rfl (gRet_e (sP_e (fLc_map (G := nsD) (F := nsD) (iSeq_l (fld_s rfl)) h fun r hr => ⟨_, rfl, rfl, fCb_e (aC rfl aN) rfl⟩)))
theorem ends_ok : m_Machine_ends [mD L S e] = some (.sh (nsD e)) := runP_e rfl (gRet_e (sP_e (fCb_e (aC (fld_e rfl) aN) rfl)))
theorem meth_e {ρ : En} {f : PF} {sem : SemP} {m : Str} {rv : RV} (h : f ρ = some (mD L S e)) (hm : ([("_letters", nD L), ("_steps", stD S), ("_ends", nsD e)] : List (Str × D)).lookup m = none) (hs : sem [mD L S e] = some rv) : fMeth sem "Machine" m f ρ = some (rvD rv) := by
  unfold fMeth
  rw [h]
  unfold mD at hs ⊢
  simp only [hm, and_self, if_true, hs]
theorem check_machine_ok : m_check_machine [mD L S e] = some (.sh .non) := runP_n (ρ1 := [some (.sh (mD L S e))]) rfl rfl
end
theorem led_to_ok {L n : Nat} {S : Ma.Steps} {e : List Nat} (g : Ma.Good L n S) (hn : n ≤ 100000) (h3 : L ≤ 3) {w : List Nat} (hw : Ma.Ok L w) : m_led_to [mD L S e, wD w] = some (.sh (nD (Ma.run (Ma.nx S) 0 w))) := by
  obtain ⟨x, e1⟩ := led_loop g h3 hw (some (.sh (mD L S e))) none (wD w)
  have e2 : fMeth m_Machine_steps "Machine" "steps" (fShr 0) (init 5 2 [.sh (mD L S e), .sh (wD w)]) = some (stD S) := meth_e rfl rfl (steps_ok (by rw [g.len]; exact hn))
  have e3 : gPar [2, 3] [.I (sP (fMeth m_Machine_steps "Machine" "steps" (fShr 0))), .I (sP (fC (.int 0)))] (init 5 2 [.sh (mD L S e), .sh (wD w)]) = some (.nx [some (.sh (mD L S e)), some (.sh (wD w)), some (.sh (stD S)), some (.sh (nD 0)), none]) := by
    unfold gPar mGo
    rw [sP_e e2]
    rfl
  exact runP_e rfl ((gSeq_e e3).trans ((gSeq_e ((gFor_e (iSeq_w rfl)).trans e1)).trans rfl))
theorem lets_ok {L n : Nat} {S : Ma.Steps} {e : List Nat} (g : Ma.Good L n S) (hn : n ≤ 100000) (h3 : L ≤ 3) {w : List Nat} (hw : Ma.Ok L w) (hl : w.length ≤ 60) : m_lets [mD L S e, wD w] = some (.sh (.bl (decide (Ma.run (Ma.nx S) 0 w ∈ e)))) := by
  refine runP_e rfl ((gSeq_e (gDrop_e (sP_e (fCall_e (aC rfl aN) check_machine_ok)))).trans ((gSeq_e (gDrop_e (sP_e (fCall_e (aC (meth_e rfl rfl letters_ok) (aC rfl aN)) (check_word_ok hw h3 hl))))).trans (gRet_e (sP_e (fOp_e (fCall_e (aC rfl (aC rfl aN)) (led_to_ok g hn h3 hw)) (meth_e rfl rfl ends_ok) (gIn_n _ _))))))
theorem is_empty_ok {L : Nat} {S : Ma.Steps} {e : List Nat} : m_is_empty [mD L S e] = some (.sh (.bl (decide (e = [])))) := by
  refine runP_e rfl ((gSeq_e (gDrop_e (sP_e (fCall_e (aC rfl aN) check_machine_ok)))).trans (gRet_e (sP_e ?_)))
  unfold fNtT
  rw [meth_e (f := fShr 0) (S := S) (e := e) (L := L) rfl rfl ends_ok]
  cases e <;> rfl
theorem eq_ok {L L' : Nat} {S S' : List (List Nat)} {e e' : List Nat} : m_Machine___eq__ [mD L S e, mD L' S' e'] = some (.sh (.bl (decide (L = L') && (decide (S = S') && decide (e = e'))))) :=
  runP_e rfl (gRet_e (sP_e (fAn_e (x := true) rfl fun _ => fAn_e ((fOp_e (fld_l rfl) (fld_l rfl) (gEq_n L L'))) fun _ => fAn_e (fOp_e (fld_s rfl) (fld_s rfl) (gEq_st S S')) fun _ => fOp_e (fld_e rfl) (fld_e rfl) (gEq_ns e e'))))
theorem eq_tup {L : Nat} {S : List (List Nat)} {e : List Nat} {ds : List D} : m_Machine___eq__ [mD L S e, .tup ds] = some (.sh (.bl false)) :=
  runP_e rfl (gRet_e (sP_e (fAn_e (x := false) (y := false) rfl (fun h => nomatch h))))
end
end Dv

/-! V6 -/
namespace Ma
/-! all words of a length, all words to a length -/
def WL (L : Nat) : Nat → List (List Nat)
  | 0 => [[]]
  | k + 1 => (WL L k).flatMap fun w => (List.range L).map fun a => w ++ [a]
def WT (L : Nat) : Nat → List (List Nat)
  | 0 => WL L 0
  | k + 1 => WT L k ++ WL L (k + 1)
theorem mem_WL {L : Nat} : ∀ (k : Nat) (w : List Nat), w ∈ WL L k ↔ Ok L w ∧ w.length = k
  | 0, w => by
    rw [WL, List.mem_singleton]
    constructor
    · rintro rfl; exact ⟨Ok.nil, rfl⟩
    · rintro ⟨_, h⟩; exact List.length_eq_zero_iff.mp h
  | k + 1, w => by
    rw [WL, List.mem_flatMap]
    constructor
    · rintro ⟨u, hu, h⟩
      obtain ⟨a, ha, rfl⟩ := List.mem_map.mp h
      have := (mem_WL k u).mp hu
      exact ⟨this.1.app (List.mem_range.mp ha), by rw [List.length_append, this.2]; rfl⟩
    · rintro ⟨h1, h2⟩
      have hne : w ≠ [] := by rintro rfl; cases h2
      have e := List.dropLast_concat_getLast hne
      have h1' : Ok L (w.dropLast ++ [w.getLast hne]) := by rw [e]; exact h1
      obtain ⟨o1, o2⟩ := h1'.snoc
      exact ⟨w.dropLast, (mem_WL k _).mpr ⟨o1, by rw [List.length_dropLast, h2]; rfl⟩, List.mem_map.mpr ⟨_, List.mem_range.mpr o2, e⟩⟩
theorem mem_WT {L : Nat} : ∀ (k : Nat) (w : List Nat), w ∈ WT L k ↔ Ok L w ∧ w.length ≤ k
  | 0, w => by rw [WT, mem_WL]; simp
  | k + 1, w => by
    rw [WT, List.mem_append, mem_WT k w, mem_WL]
    constructor
    · rintro (⟨a, b⟩ | ⟨a, b⟩)
      · exact ⟨a, by omega⟩
      · exact ⟨a, by omega⟩
    · rintro ⟨a, b⟩
      by_cases h : w.length ≤ k
      · exact .inl ⟨a, h⟩
      · exact .inr ⟨a, by omega⟩
theorem val_short {L : Nat} (hL : 0 < L) : ∀ u, Ok L u → ∀ v, Ok L v → u.length < v.length → val L u < val L v := by
  refine snoc_ind ?_ ?_
  · intro _ v hv hl
    have hne : v ≠ [] := by rintro rfl; cases hl
    rw [← List.dropLast_concat_getLast hne, val_snoc]
    show 0 < _
    omega
  · intro u a ih hu v hv hl
    have hne : v ≠ [] := by rintro rfl; cases hl
    have e := List.dropLast_concat_getLast hne
    have hv' : Ok L (v.dropLast ++ [v.getLast hne]) := by rw [e]; exact hv
    have := ih hu.snoc.1 _ hv'.snoc.1 (by rw [List.length_dropLast]; rw [List.length_append] at hl; simp at hl; omega)
    rw [← e, val_snoc, val_snoc]
    exact step_lt this hu.snoc.2
theorem WL_sorted {L : Nat} : ∀ k, (WL L k).Pairwise fun u v => val L u < val L v
  | 0 => by rw [WL]; exact List.pairwise_singleton _ _
  | k + 1 => by
    rw [WL, List.pairwise_flatMap]
    refine ⟨fun w hw => ?_, ?_⟩
    · rw [List.pairwise_map]
      refine List.pairwise_lt_range.imp ?_
      intro a b h
      rw [val_snoc, val_snoc]
      omega
    · refine (WL_sorted k).imp ?_
      intro u v h x hx y hy
      obtain ⟨a, ha, rfl⟩ := List.mem_map.mp hx
      obtain ⟨b, hb, rfl⟩ := List.mem_map.mp hy
      rw [val_snoc, val_snoc]
      exact step_lt h (List.mem_range.mp ha)
theorem WT_sorted {L : Nat} (hL : 0 < L) : ∀ k, (WT L k).Pairwise fun u v => val L u < val L v
  | 0 => WL_sorted 0
  | k + 1 => by
    rw [WT, List.pairwise_append]
    refine ⟨WT_sorted hL k, WL_sorted (k + 1), fun u hu v hv => ?_⟩
    have h1 := (mem_WT k u).mp hu
    have h2 := (mem_WL (k + 1) v).mp hv
    exact val_short hL u h1.1 v h2.1 (by omega)
theorem WL_len {L : Nat} (h3 : L ≤ 3) : ∀ k, (WL L k).length ≤ 3 ^ k
  | 0 => by rw [WL]; decide
  | k + 1 => by
    have ih := WL_len h3 k
    have : ∀ l : List (List Nat), (l.flatMap fun w => (List.range L).map fun a => w ++ [a]).length = l.length * L := by
      intro l
      induction l with
      | nil => simp
      | cons x l ih => rw [List.flatMap_cons, List.length_append, ih, List.length_map, List.length_range, List.length_cons, Nat.succ_mul]; omega
    rw [WL, this, Nat.pow_succ]
    exact Nat.mul_le_mul ih h3
theorem pow3 {k : Nat} (h : k ≤ 6) : 3 ^ k ≤ 729 := Nat.pow_le_pow_right (n := 3) (by decide) h
theorem WT_len {L : Nat} (h3 : L ≤ 3) : ∀ k, k ≤ 6 → (WT L k).length ≤ (k + 1) * 729
  | 0, _ => by have := WL_len h3 0; rw [WT]; omega
  | k + 1, h => by
    have ih := WT_len h3 k (by omega)
    have h1 := WL_len h3 (k + 1)
    have h2 := pow3 h
    rw [WT, List.length_append]
    omega
end Ma
namespace Dv
noncomputable section
open PySem PySem.Spec PyProof.Rows L2 Evl LamX
theorem gExt_e {ρ ρ1 : En} {ds ds' es : List D} {i : Nat} {s : SF} {c c' : Bool} (h0 : ownL ρ i = some (c, ds)) (h1 : s ρ = some (.lst es, ρ1)) (h2 : ownL ρ1 i = some (c', ds')) (hs : ds'.length + es.length ≤ 100000) : gExt i s ρ = some (.nx (ρ1.set i (some (.own c' (.lst (ds' ++ es)))))) := by
  unfold gExt
  rw [h0]
  simp only [h1, h2, szOk_of hs, if_true]
theorem wd_nil : D.str "" = wD [] := rfl
abbrev gWordsIn : SS := gExt 5 (sP (fLc (iSeq (fSlS (fC (.str "abc")) oNo (oAt (fShr 0)))) (.nm 7) tYs (fOp gAdd (fVar 6) (fVar 7)) [7]))
theorem law_words_ok {L : Nat} (h3 : L ≤ 3) {k : Nat} (hk : k ≤ 6) : m_law_words [nD L, nD k] = some (.sh (wsD (Ma.WT L k))) := by
  let I : Nat → En → Prop := fun i ρ => ∃ x4 x5 x6 x7 : Option DV, ρ = [some (.sh (nD L)), some (.sh (nD k)), some (.sh (wsD (Ma.WT L i))), some (.sh (wsD (Ma.WL L i))), x4, x5, x6, x7]
  have h := forGo_inv (tg := .nm 4) (G := nD) (g := gSeq (gSetN 5 (nLstI saNil)) (gSeq (gFor (iSeq (fShr 3)) (.nm 6) gWordsIn) (gPar [2, 3] [.I (sP (fOp gAdd (fVar 2) (fVar 5))), .I (sFrz 5)]))) I (List.range k) 0 [some (.sh (nD L)), some (.sh (nD k)), some (.sh (wsD [[]])), some (.sh (wsD [[]])), none, none, none, none] ⟨none, none, none, none, rfl⟩ (by
    rintro i hi ρ ⟨x4, x5, x6, x7, rfl⟩
    rw [Nat.zero_add, List.getElem_range]
    rw [List.length_range] at hi
    let X : List D → Option DV → Option DV → En := fun l x6 x7 => [some (.sh (nD L)), some (.sh (nD k)), some (.sh (wsD (Ma.WT L i))), some (.sh (wsD (Ma.WL L i))), some (.sh (nD i)), some (.own false (.lst l)), x6, x7]
    let T : Nat → List (List Nat) := fun j => ((Ma.WL L i).take j).flatMap fun w => (List.range L).map fun a => w ++ [a]
    have hin := forGo_inv (tg := .nm 6) (G := wD) (g := gWordsIn) (fun j ρ => ∃ x6 : Option DV, ρ = X ((T j).map wD) x6 x7) (Ma.WL L i) 0 (X [] x6 x7) ⟨x6, rfl⟩ (by
      rintro j hj ρ ⟨y, rfl⟩
      rw [Nat.zero_add]
      have hw : ((Ma.WL L i)[j]).length = i := ((Ma.mem_WL i _).mp (List.getElem_mem hj)).2
      have hT : T (j + 1) = T j ++ (List.range L).map fun a => (Ma.WL L i)[j] ++ [a] := by
        show (((Ma.WL L i).take (j + 1)).flatMap _) = _
        rw [List.take_succ, List.getElem?_eq_getElem hj, Option.toList_some, List.flatMap_append]
        congr 1
        simp
      have hTl : (T j).length ≤ 729 * 3 := by
        have : ∀ l : List (List Nat), (l.flatMap fun w => (List.range L).map fun a => w ++ [a]).length = l.length * L := by
          intro l
          induction l with
          | nil => simp
          | cons x l ih => rw [List.flatMap_cons, List.length_append, ih, List.length_map, List.length_range, List.length_cons, Nat.succ_mul]; omega
        show (((Ma.WL L i).take j).flatMap fun w => (List.range L).map fun a => w ++ [a]).length ≤ _
        rw [this]
        refine Nat.mul_le_mul ?_ h3
        have h1 := Ma.WL_len h3 i
        have h2 := Ma.pow3 (k := i) (by omega)
        rw [List.length_take]
        omega
      refine ⟨_, _, rfl, gExt_e (ds := (T j).map wD) rfl (sP_e (fLc_map (xs := List.range L) (G := fun a => wD [a]) (F := fun a => wD ((Ma.WL L i)[j] ++ [a])) (iSeq_w (fSlS_abc rfl h3)) (by rw [List.length_range]; omega) fun a ha => ⟨_, rfl, rfl, fOp_e rfl rfl (gAdd_w (by rw [hw]; simp; omega))⟩)) (ds' := (T j).map wD) rfl (by rw [List.length_map, List.length_map, List.length_range]; omega), some (.sh (wD (Ma.WL L i)[j])), ?_⟩
      rw [hT, List.map_append, List.map_map]
      rfl)
    obtain ⟨ρ', e1, y6, rfl⟩ := hin
    rw [Nat.zero_add] at e1
    have hT : T (Ma.WL L i).length = Ma.WL L (i + 1) := by
      show (((Ma.WL L i).take (Ma.WL L i).length).flatMap _) = _
      rw [List.take_length, Ma.WL]
    rw [hT] at e1
    have l1 := Ma.WT_len h3 i (by omega)
    have l2 := Ma.WL_len h3 (i + 1)
    have l3 := Ma.pow3 (k := i + 1) (by omega)
    have e2 : fOp gAdd (fVar 2) (fVar 5) (X ((Ma.WL L (i + 1)).map wD) y6 x7) = some (wsD (Ma.WT L (i + 1))) := (fOp_e (a := .lst ((Ma.WT L i).map wD)) (b := .lst ((Ma.WL L (i + 1)).map wD)) rfl rfl (gAdd_l (by rw [List.length_map, List.length_map]; omega))).trans (by rw [← List.map_append]; rfl)
    have e3 : gPar [2, 3] [.I (sP (fOp gAdd (fVar 2) (fVar 5))), .I (sFrz 5)] (X ((Ma.WL L (i + 1)).map wD) y6 x7) = some (.nx [some (.sh (nD L)), some (.sh (nD k)), some (.sh (wsD (Ma.WT L (i + 1)))), some (.sh (wsD (Ma.WL L (i + 1)))), some (.sh (nD i)), some (.sh (wsD (Ma.WL L (i + 1)))), y6, x7]) := by
      unfold gPar mGo
      rw [sP_e e2]
      rfl
    exact ⟨_, _, rfl, (gSeq_e (ρ1 := X [] x6 x7) rfl).trans ((gSeq_e ((gFor_e (iSeq_l rfl)).trans e1)).trans e3), some (.sh (nD i)), some (.sh (wsD (Ma.WL L (i + 1)))), y6, x7, rfl⟩)
  obtain ⟨ρ', e, x4, x5, x6, x7, rfl⟩ := h
  rw [List.length_range, Nat.zero_add] at e
  exact runP_e rfl ((gSeq_e (ρ1 := [some (.sh (nD L)), some (.sh (nD k)), some (.sh (wsD [[]])), some (.sh (wsD [[]])), none, none, none, none]) rfl).trans ((gSeq_e ((gFor_e (iRange_n rfl (by omega))).trans e)).trans rfl))
theorem lc2In_map {α : Type} {tg : Tg} {fe : PF} {ρ : En} {G F : α → D} : ∀ (xs : List α), (∀ x ∈ xs, ∃ ρ1, tg.asg (G x) ρ = some ρ1 ∧ fe ρ1 = some (F x)) → lc2In tg fe ρ (xs.map G) = some (xs.map F)
  | [], _ => rfl
  | x :: xs, h => by
    obtain ⟨ρ1, a, b⟩ := h x (List.mem_cons_self)
    rw [List.map_cons, List.map_cons, lc2In]
    simp only [a, b, lc2In_map xs fun y hy => h y (List.mem_cons_of_mem _ hy)]
theorem lc2Go_map {α β : Type} {tg tg1 : Tg} {it1 : AF} {fe : PF} {vs1 : List Nat} {ρ : En} {G : α → D} {Y : α → List β} {G1 : α → β → D} {F : α → β → D} : ∀ (xs : List α), (∀ x ∈ xs, ∃ ρ1, tg.asg (G x) ρ = some ρ1 ∧ it1 ρ1 = some ((Y x).map (G1 x)) ∧ ∀ y ∈ Y x, ∃ ρ2, tg1.asg (G1 x y) (wipeE ρ1 vs1) = some ρ2 ∧ fe ρ2 = some (F x y)) → lc2Go tg it1 tg1 fe vs1 ρ (xs.map G) = some (xs.flatMap fun x => (Y x).map (F x))
  | [], _ => rfl
  | x :: xs, h => by
    obtain ⟨ρ1, a, b, c⟩ := h x (List.mem_cons_self)
    rw [List.map_cons, lc2Go, List.flatMap_cons]
    simp only [a, b, lc2In_map (Y x) c, lc2Go_map xs fun y hy => h y (List.mem_cons_of_mem _ hy)]
theorem first_words_ok {L : Nat} (h1 : 1 ≤ L) (h3 : L ≤ 3) {k : Nat} (hk : k ≤ 6) : m_first_words [nD L, nD k] = some (.sh (wsD (Ma.WT L k))) := by
  let I : Nat → En → Prop := fun i ρ => ∃ (x3 : Option DV) (x4 x5 x6 : Option DV), (x3 = some (.sh (wsD (Ma.WL L i))) ∨ x3 = some (.own false (.lst ((Ma.WL L i).map wD)))) ∧ ρ = [some (.sh (nD L)), some (.sh (nD k)), some (.sh (wsD (Ma.WT L i))), x3, x4, x5, x6]
  have h := forGo_inv (tg := .nm 4) (G := nD) (g := gSeq (gSetN 3 (nLc2 (iSeq (fVar 3)) (.nm 5) (iSeq (fSlS (fC (.str "abc")) oNo (oAt (fShr 0)))) (.nm 6) (fOp gAdd (fVar 5) (fVar 6)) [5, 6] [6])) (gSet 2 (sP (fOp gAdd (fVar 2) (fVar 3))))) I (List.range k) 0 [some (.sh (nD L)), some (.sh (nD k)), some (.sh (wsD [[]])), some (.sh (wsD [[]])), none, none, none] ⟨_, none, none, none, .inl rfl, rfl⟩ (by
    rintro i hi ρ ⟨x3, x4, x5, x6, hx, rfl⟩
    rw [Nat.zero_add, List.getElem_range]
    rw [List.length_range] at hi
    let ρ0 : En := [some (.sh (nD L)), some (.sh (nD k)), some (.sh (wsD (Ma.WT L i))), x3, some (.sh (nD i)), x5, x6]
    have e0 : fVar 3 ρ0 = some (.lst ((Ma.WL L i).map wD)) := by
      rw [Nat.zero_add] at hx
      rcases hx with rfl | rfl <;> rfl
    have l1 := Ma.WT_len h3 i (by omega)
    have l2 := Ma.WL_len h3 (i + 1)
    have l3 := Ma.pow3 (k := i + 1) (by omega)
    have e1 : nLc2 (iSeq (fVar 3)) (.nm 5) (iSeq (fSlS (fC (.str "abc")) oNo (oAt (fShr 0)))) (.nm 6) (fOp gAdd (fVar 5) (fVar 6)) [5, 6] [6] ρ0 = some (.lst ((Ma.WL L (i + 1)).map wD), ρ0) := by
      unfold nLc2
      rw [iSeq_l e0]
      simp only
      rw [lc2Go_map (Y := fun _ => List.range L) (G1 := fun _ a => wD [a]) (F := fun w a => wD (w ++ [a])) (Ma.WL L i) fun w hw => ⟨_, rfl, iSeq_w (fSlS_abc rfl h3), fun a ha => ⟨_, rfl, fOp_e rfl rfl (gAdd_w (by rw [((Ma.mem_WL i w).mp hw).2]; simp; omega))⟩⟩]
      have : ((Ma.WL L i).flatMap fun x => (List.range L).map fun a => wD (x ++ [a])) = (Ma.WL L (i + 1)).map wD := by
        rw [Ma.WL, List.map_flatMap]
        congr 1
        funext w
        rw [List.map_map]
        rfl
      rw [this]
      simp only [List.length_map, szOk_of (show (Ma.WL L (i + 1)).length ≤ 100000 by omega), if_true]
    let ρ1 : En := [some (.sh (nD L)), some (.sh (nD k)), some (.sh (wsD (Ma.WT L i))), some (.own false (.lst ((Ma.WL L (i + 1)).map wD))), some (.sh (nD i)), x5, x6]
    have e2 : fOp gAdd (fVar 2) (fVar 3) ρ1 = some (wsD (Ma.WT L (i + 1))) := (fOp_e (a := .lst ((Ma.WT L i).map wD)) (b := .lst ((Ma.WL L (i + 1)).map wD)) rfl rfl (gAdd_l (by rw [List.length_map, List.length_map]; omega))).trans (by rw [← List.map_append]; rfl)
    exact ⟨_, _, rfl, (gSeq_e (ρ1 := ρ1) (gSetN_e e1 (by show 3 < 7; omega))).trans (gSet_e (sP_e e2) (by show 2 < 7; omega)), _, some (.sh (nD i)), x5, x6, .inr rfl, rfl⟩)
  obtain ⟨ρ', e, x3, x4, x5, x6, _, rfl⟩ := h
  rw [List.length_range, Nat.zero_add] at e
  exact runP_e rfl ((gSeq_e (gDrop_e (sP_e (fCall_e (aC rfl aN) (check_letters_ok h1 h3))))).trans ((gSeq_e (gDrop_e (sP_e (fCall_e (aC rfl aN) (check_length_ok hk))))).trans ((gSeq_e (ρ1 := [some (.sh (nD L)), some (.sh (nD k)), some (.sh (wsD [[]])), some (.sh (wsD [[]])), none, none, none]) rfl).trans ((gSeq_e ((gFor_e (iRange_n rfl (by omega))).trans e)).trans rfl))))
theorem words_of_ok {L n : Nat} {S : Ma.Steps} {e : List Nat} (g : Ma.Good L n S) (hn : n ≤ 100000) (h1 : 1 ≤ L) (h3 : L ≤ 3) {k : Nat} (hk : k ≤ 6) : m_words_of [mD L S e, nD k] = some (.sh (wsD ((Ma.WT L k).filter fun w => decide (Ma.run (Ma.nx S) 0 w ∈ e)))) := by
  have l1 := Ma.WT_len h3 k hk
  refine runP_e rfl ((gSeq_e (gDrop_e (sP_e (fCall_e (aC rfl aN) check_machine_ok)))).trans ((gSeq_e (gDrop_e (sP_e (fCall_e (aC rfl aN) (check_length_ok hk))))).trans ((gSeq_e (gSet_e (sP_e (meth_e (rv := .sh (nsD e)) rfl rfl ends_ok)) (by show 2 < 4; omega))).trans (gRet_e (sP_e (fLc_filter (xs := Ma.WT L k) (G := wD) (F := wD) (iSeq_l (fCall_e (aC (meth_e (L := L) (S := S) (e := e) rfl rfl letters_ok) (aC rfl aN)) (first_words_ok h1 h3 hk))) (by omega) fun w hw => ⟨_, rfl, tB_e (fOp_e (fCall_e (aC rfl (aC rfl aN)) (led_to_ok g hn h3 ((Ma.mem_WT k w).mp hw).1)) rfl (gIn_n _ _)), fun _ => rfl⟩))))))
end
end Dv

/-! V7 -/
namespace Dv
noncomputable section
open PySem PySem.Spec PyProof.Rows L2 Evl LamX
theorem foldl_take {α β : Type} (f : β → α → β) (b : β) (l : List α) {i : Nat} (h : i < l.length) : (l.take (i + 1)).foldl f b = f ((l.take i).foldl f b) l[i] := by
  rw [List.take_succ, List.getElem?_eq_getElem h, Option.toList_some, List.foldl_append]
  rfl
theorem put_le (ks : List Nat) (x : Nat) : (Ma.put ks x).length ≤ ks.length + 1 := by
  unfold Ma.put
  split
  · omega
  · rw [List.length_append]; exact Nat.le_refl _
theorem foldl_put_le : ∀ (l ks : List Nat), (l.foldl Ma.put ks).length ≤ ks.length + l.length
  | [], ks => by rw [List.foldl_nil]; exact Nat.le_refl _
  | x :: l, ks => by
    have h1 := foldl_put_le l (Ma.put ks x)
    have h2 := put_le ks x
    rw [List.foldl_cons, List.length_cons]
    omega
theorem law_reached_ok {L n : Nat} {S : Ma.Steps} (g : Ma.Good L n S) (hn : n ≤ 1000) (h3 : L ≤ 3) : m_law_reached [stD S] = some (.sh (nsD (Ma.keys n S))) := by
  let X : List Nat → Nat → Option DV → En := fun ks i x3 => [some (.sh (stD S)), some (.own false (.lst (ks.map nD))), some (.sh (nD i)), x3]
  let I : Nat → En → Prop := fun i ρ => ∃ (ks : List Nat) (x3 : Option DV), Ma.BInv L n S i 0 ks ∧ i ≤ ks.length ∧ Ma.bfs S (n + 1 - i) i ks = Ma.keys n S ∧ ρ = X ks i x3
  have lt : ∀ ks i x3, tB' (fOp gLt (fVar 2) (fCb gLen (aCons (fVar 1) aNil))) (X ks i x3) = some (decide (i < ks.length)) := fun ks i x3 => tB_e (fOp_e rfl (fCb_e (aC rfl aN) (gLen_l _)) (by rw [List.length_map]; exact gLt_n _ _))
  obtain ⟨j, ρ', e, ⟨ks, x3, hB, hj, hb, rfl⟩, hf⟩ := gWh_inv (ρ := X [0] 0 none) (t := tB' (fOp gLt (fVar 2) (fCb gLen (aCons (fVar 1) aNil)))) (g := gSeq (gFor (iSeq (fOp gIx (fVar 0) (fOp gIx (fVar 1) (fVar 2)))) (.nm 3) (gIf (sT (tB' (fOp gNi (fVar 3) (fVar 1)))) (gApp 1 (sFrz 3)) gNil')) (gSet 2 (sP (fOp gAdd (fVar 2) (fC (.int 1)))))) I (n + 1) ⟨[0], none, Ma.BInv.start g.pos, Nat.zero_le _, rfl, rfl⟩ (by
    rintro i ρ ⟨ks, x3, hB, hi, hb, rfl⟩
    refine ⟨_, lt ks i x3, fun hlt => ?_⟩
    have hlt := of_decide_eq_true hlt
    have hle : ks.length ≤ n := Ma.nodup_le ks n hB.nd hB.lt
    have hs : ks.getD i 0 < n := hB.lt _ (Ma.key_mem hlt)
    let row := S.getD (ks.getD i 0) []
    have hrow : row.length = L := (g.at hs).1
    have hin := forGo_inv (tg := .nm 3) (G := nD) (g := gIf (sT (tB' (fOp gNi (fVar 3) (fVar 1)))) (gApp 1 (sFrz 3)) gNil') (fun q ρ => ∃ x3 : Option DV, ρ = X ((row.take q).foldl Ma.put ks) i x3) row 0 (X ks i x3) ⟨x3, rfl⟩ (by
      rintro q hq ρ ⟨y, rfl⟩
      rw [Nat.zero_add]
      let ls := (row.take q).foldl Ma.put ks
      have hls : ls.length ≤ ks.length + q := by
        have := foldl_put_le (row.take q) ks
        rw [List.length_take] at this
        show ((row.take q).foldl Ma.put ks).length ≤ _
        omega
      have t1 : tB' (fOp gNi (fVar 3) (fVar 1)) (X ls i (some (.sh (nD row[q])))) = some (!decide (row[q] ∈ ls)) := tB_e (fOp_e (b := nsD ls) rfl rfl (gNi_n _ _))
      have e1 : (row.take (q + 1)).foldl Ma.put ks = Ma.put ls row[q] := foldl_take Ma.put ks row hq
      by_cases hm : row[q] ∈ ls
      · rw [decide_eq_true hm] at t1
        refine ⟨X ls i (some (.sh (nD row[q]))), X ls i (some (.sh (nD row[q]))), rfl, gIf_f (sT_e t1), some (.sh (nD row[q])), ?_⟩
        rw [e1, Ma.put, if_pos hm]
      · rw [decide_eq_false hm] at t1
        refine ⟨X ls i (some (.sh (nD row[q]))), _, rfl, (gIf_t (sT_e t1)).trans (gApp_e (ds := ls.map nD) (ds' := ls.map nD) (d := nD row[q]) (ρ1 := X ls i (some (.sh (nD row[q])))) rfl rfl rfl (by rw [List.length_map]; omega)), some (.sh (nD row[q])), ?_⟩
        rw [e1, Ma.put, if_neg hm]
        show [_, some (DV.own false (.lst (ls.map nD ++ [nD row[q]]))), _, _] = [_, some (DV.own false (.lst ((ls ++ [row[q]]).map nD))), _, _]
        rw [List.map_append]
        rfl)
    obtain ⟨ρ2, e2, y, rfl⟩ := hin
    rw [Nat.zero_add, List.take_length] at e2
    have hr := Ma.BInv.rowOk g hB hlt
    refine ⟨_, (gSeq_e ((gFor_e (iSeq_l (fOp_e rfl (fOp_e (b := nD i) (a := nsD ks) rfl rfl (gIx_ns hlt)) (gIx_st (by rw [g.len]; exact hs))))).trans e2)).trans (gSet_e (sP_e (fOp_e (b := nD 1) rfl rfl (gAdd_n _ _))) (by show 2 < 4; omega)), Ma.bfsRow ks row, y, hr.1, by have := hr.2; show i + 1 ≤ (Ma.bfsRow ks row).length; have : ks.length ≤ (Ma.bfsRow ks row).length := this; omega, ?_, rfl⟩
    rw [← hb, show n + 1 - i = (n + 1 - (i + 1)) + 1 by omega, Ma.bfs, if_pos hlt])
    (by
    rintro j ρ ⟨ks, x3, hB, hj, hb, rfl⟩ ht
    rw [lt] at ht
    have := of_decide_eq_true (Option.some.inj ht)
    have hle : ks.length ≤ n := Ma.nodup_le ks n hB.nd hB.lt
    omega)
  rw [lt] at hf
  have hf := of_decide_eq_false (Option.some.inj hf)
  have hk : ks = Ma.keys n S := by
    rw [← hb]
    cases h : n + 1 - j with
    | zero => rw [Ma.bfs]
    | succ f => rw [Ma.bfs, if_neg hf]
  rw [hk] at e
  have q1 : gPar [1, 2] [.N (nLstI (saCons (sP (fC (.int 0))) saNil)), .I (sP (fC (.int 0)))] [some (.sh (stD S)), none, none, none] = some (.nx (X [0] 0 none)) := rfl
  exact runP_e rfl ((gSeq_e q1).trans ((gSeq_e e).trans rfl))
end
end Dv

/-! Mf -/
namespace Ma
/-! the law's own way to the least machine comes to the same -/
variable {L n N : Nat} {S : Steps} {ends K B : List Nat}
theorem blk_uniq {m n n' : Nat} {B : Nat → Nat} (b : Blk m n B) (b' : Blk m n' B) : n = n' := by
  rcases Nat.lt_trichotomy n n' with h | h | h
  · obtain ⟨i, hi, e⟩ := b'.on n h
    have := b.lt i hi
    omega
  · exact h
  · obtain ⟨i, hi, e⟩ := b.on n' h
    have := b'.lt i hi
    omega
theorem PN_stop (R : Reach L n S K) : ∃ k, PN L S ends K k = PN L S ends K (k + 1) := by
  rcases Classical.em (∃ k, PN L S ends K k = PN L S ends K (k + 1)) with h | h
  · exact h
  · exfalso
    have hn : ∀ k, PN L S ends K k ≠ PN L S ends K (k + 1) := fun k e => h ⟨k, e⟩
    have hg : ∀ k, k < PN L S ends K k := by
      intro k
      induction k with
      | zero => exact PN_pos R 0
      | succ k ih =>
        have := PN_mono (ends := ends) R k
        have := hn k
        omega
    have h1 := hg n
    have h2 := PN_le (ends := ends) R n
    omega
structure IsLeast (L n : Nat) (S : Steps) (ends : List Nat) (S' : Steps) (e' : List Nat) : Prop where
  ex : ∃ N K B, IsLF L n N S ends K B ∧ S' = LFs L N S K B ∧ e' = LFe N ends K B ∧ N ≤ n
variable {S' : Steps} {e' : List Nat}
theorem IsLeast.eq {n2 : Nat} {T T' : Steps} {f f' : List Nat} (h : IsLeast L n S ends S' e') (h2 : IsLeast L n2 T f T' f') (e : Eq2 L (nx S) (accS ends) (nx T) (accS f) 0 0) : S' = T' ∧ e' = f' := by
  obtain ⟨N, K, B, a, rfl, rfl, _⟩ := h.ex
  obtain ⟨N2, K2, B2, a2, rfl, rfl, _⟩ := h2.ex
  exact (LF_same a a2 e).2
theorem IsLeast.uniq {T' : Steps} {f' : List Nat} (h : IsLeast L n S ends S' e') (h2 : IsLeast L n S ends T' f') : S' = T' ∧ e' = f' := h.eq h2 fun _ _ => rfl
theorem IsLeast.good (h : IsLeast L n S ends S' e') : Good L S'.length S' ∧ S'.length ≤ n := by
  obtain ⟨N, K, B, a, rfl, rfl, hN⟩ := h.ex
  have g := LF_good a
  have : (LFs L N S K B).length = N := g.len
  rw [this]
  exact ⟨g, hN⟩
theorem IsLeast.can (h : IsLeast L n S ends S' e') : Can L S'.length (nx S') := by
  obtain ⟨N, K, B, a, rfl, rfl, hN⟩ := h.ex
  have : (LFs L N S K B).length = N := (LF_good a).len
  rw [this]
  exact LF_can a
theorem IsLeast.lets (h : IsLeast L n S ends S' e') {w : List Nat} (hw : Ok L w) : accS e' (run (nx S') 0 w) = accS ends (run (nx S) 0 w) := by
  obtain ⟨N, K, B, a, rfl, rfl, hN⟩ := h.ex
  exact LF_lets a hw
theorem IsLeast.rise (h : IsLeast L n S ends S' e') : e'.Pairwise (· < ·) ∧ ∀ x ∈ e', x < S'.length := by
  obtain ⟨N, K, B, a, rfl, rfl, hN⟩ := h.ex
  have : (LFs L N S K B).length = N := (LF_good a).len
  rw [this]
  refine ⟨List.Pairwise.filter _ List.pairwise_lt_range, fun x hx => ?_⟩
  exact List.mem_range.mp (List.mem_filter.mp hx).1
/-! the first of each block, by a mark -/
section
variable {κ : Type} [DecidableEq κ]
def pick1 (M : Nat → κ) (fd : List Nat) (x : Nat) : List Nat := if M x ∈ fd.map M then fd else fd ++ [x]
theorem pick_map (M : Nat → κ) : ∀ (xs fd : List Nat), (xs.foldl (pick1 M) fd).map M = ded (fd.map M) (xs.map M)
  | [], fd => rfl
  | x :: xs, fd => by
    rw [List.foldl_cons, List.map_cons, ded, pick_map M xs, pick1]
    split
    · rfl
    · rw [List.map_append]
      rfl
theorem pick_mem (M : Nat → κ) : ∀ (xs fd : List Nat) (y : Nat), y ∈ xs.foldl (pick1 M) fd → y ∈ fd ∨ y ∈ xs
  | [], fd, y, h => .inl h
  | x :: xs, fd, y, h => by
    rw [List.foldl_cons] at h
    rcases pick_mem M xs _ y h with h | h
    · unfold pick1 at h
      split at h
      · exact .inl h
      · rcases List.mem_append.mp h with h | h
        · exact .inl h
        · rw [List.mem_singleton] at h
          exact .inr (h ▸ List.mem_cons_self)
    · exact .inr (List.mem_cons_of_mem _ h)
end
theorem zip_filter {p : Nat → Bool} (F : List Nat) : ((F.zipIdx.filter fun q => p q.1).map (·.2)) = (List.range F.length).filter fun b => p (F.getD b 0) := by
  have e : F.zipIdx = (List.range F.length).map fun i => (F.getD i 0, i) := by
    apply List.ext_getElem
    · simp
    · intro i h1 h2
      simp at h1
      simp [h1]
  rw [e, List.filter_map, List.map_map]
  have : ((fun q : Nat × Nat => q.2) ∘ fun i => (F.getD i 0, i)) = id := rfl
  rw [this, List.map_id]
  rfl
/-- what the law's blocks come to -/
theorem law_blocks (g : Good L n S) {M : Nat → Int} (h : ∀ i j, i < (keys n S).length → j < (keys n S).length → (M ((keys n S).getD i 0) = M ((keys n S).getD j 0) ↔ E L (stp (keys n S) S) (accP ends (keys n S)) (keys n S).length i j)) :
    IsLeast L n S ends (((keys n S).foldl (pick1 M) []).map fun s => (S.getD s []).map fun t => (((keys n S).foldl (pick1 M) []).map M).idxOf (M t)) ((((keys n S).foldl (pick1 M) []).zipIdx.filter fun q => decide (q.1 ∈ ends)).map (·.2)) := by
  have R := keys_ok g
  obtain ⟨k, e⟩ := PN_stop (ends := ends) R
  have hB := marks_blocks R h e
  have lf := isLF R e
  have ne := PB_stop R e
  refine ⟨PN L S ends (keys n S) (k + 1), keys n S, PB L S ends (keys n S) (k + 1), lf, ?_, ?_, PN_le R _⟩
  all_goals
    generalize hK : keys n S = K at *
    generalize hF : K.foldl (pick1 M) [] = F at *
    have hmap : F.map M = ded [] (K.map M) := by
      rw [← hF, pick_map]
      rfl
    generalize hBB : PB L S ends K (k + 1) = B at *
    have hN : PN L S ends K (k + 1) = F.length := by
      have b1 := PB_blk (L := L) (S := S) (ends := ends) (K := K) (k + 1)
      have b2 := num_blk (K.map M)
      rw [hBB] at b1
      rw [hB, List.length_map] at b2
      rw [blk_uniq b1 b2, ← hmap, List.length_map]
    rw [hN] at lf ⊢
    have hat : ∀ i, i < K.length → at0 B i = (F.map M).idxOf (M (K.getD i 0)) := by
      intro i hi
      rw [← hB, num_at (xs := K.map M) (by rw [List.length_map]; exact hi), hmap, List.getElem_map]
      congr 2
      rw [List.getD_eq_getElem?_getD, List.getElem?_eq_getElem hi]
      rfl
    have hnd : (F.map M).Nodup := by
      rw [hmap]
      exact ded_nodup _ _ List.nodup_nil
    have hrep : ∀ b, b < F.length → ∃ p, p < K.length ∧ K.getD p 0 = F.getD b 0 ∧ at0 B p = b := by
      intro b hb
      have hm : F.getD b 0 ∈ K := by
        rcases pick_mem M K [] (F.getD b 0) (by rw [hF, List.getD_eq_getElem?_getD, List.getElem?_eq_getElem hb]; exact List.getElem_mem hb) with h | h
        · exact nomatch h
        · exact h
      refine ⟨K.idxOf (F.getD b 0), List.idxOf_lt_length_iff.mpr hm, key_idx hm, ?_⟩
      rw [hat _ (List.idxOf_lt_length_iff.mpr hm), key_idx hm]
      have : M (F.getD b 0) = (F.map M)[b]'(by rw [List.length_map]; exact hb) := by
        rw [List.getElem_map, List.getD_eq_getElem?_getD, List.getElem?_eq_getElem hb]
        rfl
      rw [this, hnd.idxOf_getElem]
    have hfirst : ∀ b, b < F.length → B.idxOf b < K.length ∧ at0 B (B.idxOf b) = b := by
      intro b hb
      have := first_of (B := B) (N := F.length) (by rw [lf.len]; exact lf.blk) b hb
      rw [lf.len] at this
      exact ⟨this.1, this.2.1⟩
  · apply List.ext_getElem
    · simp [LFs]
    · intro b h1 h2
      have hb : b < F.length := by simpa using h1
      obtain ⟨p, hp, hpF, hpB⟩ := hrep b hb
      obtain ⟨hf1, hf2⟩ := hfirst b hb
      have hFb : F[b] = F.getD b 0 := by
        rw [List.getD_eq_getElem?_getD, List.getElem?_eq_getElem hb]
        rfl
      rw [List.getElem_map, hFb, ← hpF]
      have hlt : K.getD p 0 < n := R.lt _ (key_mem hp)
      simp only [LFs, List.getElem_map, List.getElem_range]
      apply List.ext_getElem
      · rw [List.length_map, List.length_map, List.length_range, (g.at hlt).1]
      · intro a h3 h4
        have ha : a < L := by simpa using h4
        rw [List.getElem_map, List.getElem_map, List.getElem_range]
        have hnx : (S.getD (K.getD p 0) [])[a]'(by rw [(g.at hlt).1]; exact ha) = nx S (K.getD p 0) a := by
          unfold nx
          rw [List.getD_eq_getElem?_getD (l := S.getD (K.getD p 0) []), List.getElem?_eq_getElem (by rw [(g.at hlt).1]; exact ha)]
          rfl
        have hcl := R.cl p a hp ha
        have hq : stp K S p a < K.length := List.idxOf_lt_length_iff.mpr hcl
        have e1 : K.getD (stp K S p a) 0 = nx S (K.getD p 0) a := key_idx hcl
        have hcl2 := R.cl (B.idxOf b) a hf1 ha
        have hq2 : stp K S (B.idxOf b) a < K.length := List.idxOf_lt_length_iff.mpr hcl2
        have h5 : (S.getD (K.getD p 0) [])[a]'(by rw [(g.at hlt).1]; exact ha) = K.getD (stp K S p a) 0 := hnx.trans e1.symm
        have h6 : at0 B (stp K S p a) = at0 B (stp K S (B.idxOf b) a) := by
          have := (ne p (B.idxOf b) hp hf1).mp (by rw [hpB, hf2])
          exact (ne _ _ hq hq2).mpr (this.step ha)
        rw [← h6, hat _ hq, ← h5]
  · rw [zip_filter (p := fun x => decide (x ∈ ends)), LFe]
    apply List.filter_congr
    intro b hb
    have hb := List.mem_range.mp hb
    obtain ⟨p, hp, hpF, hpB⟩ := hrep b hb
    obtain ⟨hf1, hf2⟩ := hfirst b hb
    rw [← hpF]
    exact ((ne p (B.idxOf b) hp hf1).mp (by rw [hpB, hf2])).now
end Ma

/-! V8 -/
namespace Dv
noncomputable section
open PySem PySem.Spec PyProof.Rows L2 Evl LamX
/-! the law's own least form -/
theorem eqv_i (m n : Int) : PyData.eqv (.int m) (.int n) = decide (m = n) := by
  simp only [PyData.eqv]
  by_cases h : m = n
  · simp [h]
  · simp [h]
theorem eqv_is (l m : List Int) : PyData.eqv (rowP l) (rowP m) = decide (l = m) := by
  simp only [rowP, PyData.eqv]
  exact eqvAll_map l m fun x _ y _ => eqv_i x y
theorem Py.row (l : List Int) : Py (rowD l) (rowP l) 1 := Py.map l fun x _ => Py.int x
theorem intsD_is : ∀ l : List Int, intsD (l.map .int) = some l
  | [] => rfl
  | n :: l => by
    rw [List.map_cons, intsD, intsD_is l]
theorem rowsD_is {α : Type} (f : α → List Int) : ∀ l : List α, rowsD (l.map fun s => rowD (f s)) = some (l.map f)
  | [] => rfl
  | n :: l => by
    rw [List.map_cons]
    unfold rowD
    rw [rowsD, intsD_is]
    have := rowsD_is f l
    unfold rowD at this
    rw [this]
    rfl
theorem idx_at {κ : Type} [DecidableEq κ] {l : List κ} {x : κ} (h : x ∈ l) : l[l.idxOf x]? = some x := by
  have := List.idxOf_lt_length_iff.mpr h
  rw [List.getElem?_eq_getElem this, List.getElem_idxOf]
def mkD (n : Nat) (M : Nat → Int) : D := .lst ((List.range n).map fun s => .int (M s))
def rowOf (S : Ma.Steps) (M : Nat → Int) (s : Nat) : List Int := M s :: (S.getD s []).map M
def rwD (n : Nat) (S : Ma.Steps) (M : Nat → Int) : D := .lst ((List.range n).map fun s => rowD (rowOf S M s))
theorem gIx_mk {n s : Nat} {M : Nat → Int} (h : s < n) : gIx (mkD n M) (nD s) = some (.int (M s)) := by
  have := gIx_map (f := fun s => D.int (M s)) (l := List.range n) (i := s) (by rw [List.length_range]; exact h)
  rw [List.getElem_range] at this
  exact this
theorem gIx_rw {n s : Nat} {S : Ma.Steps} {M : Nat → Int} (h : s < n) : gIx (rwD n S M) (nD s) = some (rowD (rowOf S M s)) := by
  have := gIx_map (f := fun s => rowD (rowOf S M s)) (l := List.range n) (i := s) (by rw [List.length_range]; exact h)
  rw [List.getElem_range] at this
  exact this
abbrev gTurnRows : SS := gSet 6 (sP (fLc (iRange (fCb gLen (aCons (fVar 1) aNil))) (.nm 9) tYs (fOp gAdd (fLst (aCons (fOp gIx (fVar 4) (fVar 9)) aNil)) (fLc (iSeq (fOp gIx (fVar 1) (fVar 9))) (.nm 12) tYs (fOp gIx (fVar 4) (fVar 12)) [12])) [9]))
abbrev gTurnTold : SS := gSet 7 (sP (fCb gSortL (aCons (fLc (iSeq (fVar 3)) (.nm 9) tYs (fOp gIx (fVar 6) (fVar 9)) [9]) aNil)))
abbrev gTurnMarks : SS := gSet 4 (sP (fLc (iRange (fCb gLen (aCons (fVar 1) aNil))) (.nm 9) tYs (fIf (tB' (fOp gIn (fVar 9) (fVar 3))) (fMt gIdxL (fVar 7) (aCons (fOp gIx (fVar 6) (fVar 9)) aNil)) (fNeg (fC (.int 1)))) [9]))
abbrev gFind : SS := gIf (sT (tB' (fOp gNi (fOp gIx (fVar 4) (fVar 9)) (fLc (iSeq (fVar 8)) (.nm 13) tYs (fOp gIx (fVar 4) (fVar 13)) [13])))) (gApp 8 (sFrz 9)) gNil'
abbrev gLeastEnd : SS := gSeq (gSet 10 (sP (fLc (iSeq (fVar 8)) (.nm 9) tYs (fOp gIx (fVar 4) (fVar 9)) [9]))) (gSeq (gSet 11 (sP (fLc (iSeq (fVar 8)) (.nm 9) tYs (fLc (iSeq (fOp gIx (fVar 1) (fVar 9))) (.nm 12) tYs (fMt gIdxL (fVar 10) (aCons (fOp gIx (fVar 4) (fVar 12)) aNil)) [12]) [9]))) (gRet (sP (fTup (aCons (fShr 11) (aCons (fLc (iEn (fVar 8)) (.tp [14, 9]) (tB' (fOp gIn (fVar 9) (fVar 2))) (fShr 14) [14, 9]) aNil))))))
section
variable {L n : Nat} {S : Ma.Steps} {e : List Nat}
/-- the slots ahead of the end -/
def lxE (S : Ma.Steps) (e K : List Nat) (n : Nat) (M : Nat → Int) (x5 x6 x7 x8 x9 : Option DV) : En := [some (.sh (.tup [stD S, nsD e])), some (.sh (stD S)), some (.sh (nsD e)), some (.sh (nsD K)), some (.sh (mkD n M)), x5, x6, x7, x8, x9, none, none, none, none, none]
theorem turn_ok (g : Ma.Good L n S) (h3 : L ≤ 3) (hn : n ≤ 1000) {K : List Nat} (R : Ma.Reach L n S K) (M : Nat → Int) (x5 x6 x7 : Option DV) :
    ∃ M', Ma.MTurn S K M M' ∧ ∃ y6 y7 : Option DV, gSeq gTurnRows (gSeq gTurnTold gTurnMarks) (lxE S e K n M x5 x6 x7 none none) = some (.nx (lxE S e K n M' x5 y6 y7 none none)) := by
  have hlt : ∀ s ∈ K, s < n := R.lt
  let told := sortRows (K.map (rowOf S M))
  have hmem : ∀ s ∈ K, rowOf S M s ∈ told := fun s hs => List.mem_mergeSort.mpr (List.mem_map_of_mem hs)
  let M' : Nat → Int := fun s => if s ∈ K then ((@List.idxOf _ instBEqOfDecidableEq (rowOf S M s) told : Nat) : Int) else -1
  have hM' : Ma.MTurn S K M M' := ⟨fun s t hs ht => by
    show (if s ∈ K then ((@List.idxOf _ instBEqOfDecidableEq (rowOf S M s) told : Nat) : Int) else -1) = (if t ∈ K then ((@List.idxOf _ instBEqOfDecidableEq (rowOf S M t) told : Nat) : Int) else -1) ↔ rowOf S M s = rowOf S M t
    rw [if_pos hs, if_pos ht]
    constructor
    · intro h
      have h' : @List.idxOf _ instBEqOfDecidableEq (rowOf S M s) told = @List.idxOf _ instBEqOfDecidableEq (rowOf S M t) told := by omega
      have ix : ∀ u ∈ K, told[@List.idxOf _ instBEqOfDecidableEq (rowOf S M u) told]? = some (rowOf S M u) := fun u hu => by
        exact idx_at (hmem u hu)
      have a := ix s hs
      have b := ix t ht
      rw [h'] at a
      exact Option.some.inj (a.symm.trans b)
    · intro h
      rw [h]⟩
  have hlen : fCb gLen (aCons (fVar 1) aNil) (lxE S e K n M x5 x6 x7 none none) = some (nD n) := fCb_e (aC rfl aN) (by rw [stD, gLen_l, List.length_map, g.len])
  have e1 : gTurnRows (lxE S e K n M x5 x6 x7 none none) = some (.nx (lxE S e K n M x5 (some (.sh (rwD n S M))) x7 none none)) := by
    refine gSet_e (sP_e (fLc_map (xs := List.range n) (G := nD) (F := fun s => rowD (rowOf S M s)) (iRange_n hlen (by omega)) (by rw [List.length_range]; omega) fun s hs => ?_)) (by show 6 < 15; omega)
    have hs := List.mem_range.mp hs
    refine ⟨_, rfl, rfl, fOp_e (fLst_e (aC (fOp_e rfl rfl (gIx_mk hs)) aN) (by show 1 ≤ 100000; omega)) (fLc_map (xs := S.getD s []) (G := nD) (F := fun t => .int (M t)) (iSeq_l (fOp_e (a := stD S) (b := nD s) rfl rfl (gIx_st (by rw [g.len]; exact hs)))) (by rw [(g.at hs).1]; omega) fun t ht => ⟨_, rfl, rfl, fOp_e (a := mkD n M) (b := nD t) rfl rfl (gIx_mk ((g.at hs).2 t ht))⟩) ((gAdd_l (by rw [List.length_map, (g.at hs).1]; show 1 + L ≤ 100000; omega)).trans ?_)⟩
    show some (D.lst (.int (M s) :: (S.getD s []).map fun t => D.int (M t))) = some (D.lst ((M s :: (S.getD s []).map M).map D.int))
    rw [List.map_cons, List.map_map]
    rfl
  have e2 : gTurnTold (lxE S e K n M x5 (some (.sh (rwD n S M))) x7 none none) = some (.nx (lxE S e K n M x5 (some (.sh (rwD n S M))) (some (.sh (.lst (told.map rowD)))) none none)) := by
    refine gSet_e (sP_e (fCb_e (aC (fLc_map (xs := K) (G := nD) (F := fun s => rowD (rowOf S M s)) (iSeq_l rfl) (by have := R.le; omega) fun s hs => ⟨_, rfl, rfl, fOp_e (a := rwD n S M) (b := nD s) rfl rfl (gIx_rw (hlt s hs))⟩) aN) ?_)) (by show 7 < 15; omega)
    show (match rowsD (K.map fun s => rowD (rowOf S M s)) with | some nss => if szOk nss.length = true then some (D.lst ((sortRows nss).map rowD)) else none | none => none) = _
    rw [rowsD_is]
    simp only [List.length_map, szOk_of (show K.length ≤ 100000 by have := R.le; omega), if_true]
    rfl
  have e3 : gTurnMarks (lxE S e K n M x5 (some (.sh (rwD n S M))) (some (.sh (.lst (told.map rowD)))) none none) = some (.nx (lxE S e K n M' x5 (some (.sh (rwD n S M))) (some (.sh (.lst (told.map rowD)))) none none)) := by
    refine gSet_e (sP_e (fLc_map (xs := List.range n) (G := nD) (F := fun s => .int (M' s)) (iRange_n (fCb_e (aC rfl aN) (by rw [stD, gLen_l, List.length_map, g.len])) (by omega)) (by rw [List.length_range]; omega) fun s hs => ?_)) (by show 4 < 15; omega)
    have hs := List.mem_range.mp hs
    refine ⟨_, rfl, rfl, ?_⟩
    by_cases q : s ∈ K
    · refine (fIf_t (tB_e (fOp_e (b := nsD K) rfl rfl (by rw [gIn_n, decide_eq_true q])))).trans ((fMt_e rfl (aC (fOp_e (a := rwD n S M) (b := nD s) rfl rfl (gIx_rw hs)) aN) (gIdxL_py (f := rowD) (g := rowP) (fun y _ => Py.row y) (Py.row _) (hmem s q) (fun y _ => eqv_is y _) (by omega))).trans ?_)
      show some (D.int ((@List.idxOf _ instBEqOfDecidableEq (rowOf S M s) told : Nat) : Int)) = some (D.int (if s ∈ K then ((@List.idxOf _ instBEqOfDecidableEq (rowOf S M s) told : Nat) : Int) else -1))
      rw [if_pos q]
    · refine (fIf_f (tB_e (fOp_e (b := nsD K) rfl rfl (by rw [gIn_n, decide_eq_false q])))).trans ?_
      show some (D.int (-1)) = some (D.int (if s ∈ K then ((@List.idxOf _ instBEqOfDecidableEq (rowOf S M s) told : Nat) : Int) else -1))
      rw [if_neg q]
  exact ⟨M', hM', _, _, (gSeq_e e1).trans ((gSeq_e e2).trans e3)⟩
theorem law_least_ok (g : Ma.Good L n S) (h3 : L ≤ 3) (hn : n ≤ 1000) (e : List Nat) : ∃ S' e', Ma.IsLeast L n S e S' e' ∧ m_law_least [.tup [stD S, nsD e]] = some (.sh (.tup [stD S', nsD e'])) := by
  have R := Ma.keys_ok g
  have hle := R.le
  have hlt : ∀ s ∈ Ma.keys n S, s < n := R.lt
  have lb := fun (M : Nat → Int) h => Ma.law_blocks (ends := e) g (M := M) h
  generalize hK : Ma.keys n S = K at *
  let M0 : Nat → Int := fun s => if s ∈ e then 1 else 0
  let A0 : En := init 15 1 [.sh (.tup [stD S, nsD e])]
  have a1 : gTgt (.tp [1, 2]) (sFrz 0) A0 = some (.nx [some (.sh (.tup [stD S, nsD e])), some (.sh (stD S)), some (.sh (nsD e)), none, none, none, none, none, none, none, none, none, none, none, none]) := rfl
  have a2 : gSet 3 (sP (fCall m_law_reached (aCons (fShr 1) aNil))) [some (.sh (.tup [stD S, nsD e])), some (.sh (stD S)), some (.sh (nsD e)), none, none, none, none, none, none, none, none, none, none, none, none] = some (.nx [some (.sh (.tup [stD S, nsD e])), some (.sh (stD S)), some (.sh (nsD e)), some (.sh (nsD K)), none, none, none, none, none, none, none, none, none, none, none]) :=
    gSet_e (sP_e (fCall_e (ds := [stD S]) (rv := .sh (nsD K)) (aC rfl aN) (by rw [law_reached_ok g hn h3, hK]))) (show 3 < 15 by omega)
  have a3 : gSet 4 (sP (fLc (iRange (fCb gLen (aCons (fVar 1) aNil))) (.nm 9) tYs (fCb gInt (aCons (fOp gIn (fVar 9) (fVar 2)) aNil)) [9])) [some (.sh (.tup [stD S, nsD e])), some (.sh (stD S)), some (.sh (nsD e)), some (.sh (nsD K)), none, none, none, none, none, none, none, none, none, none, none] = some (.nx (lxE S e K n M0 none none none none none)) := by
    refine gSet_e (sP_e (fLc_map (xs := List.range n) (G := nD) (F := fun s => .int (M0 s)) (iRange_n (fCb_e (aC rfl aN) (by rw [stD, gLen_l, List.length_map, g.len])) (by omega)) (by rw [List.length_range]; omega) fun s hs => ⟨_, rfl, rfl, fCb_e (aC (fOp_e (b := nsD e) rfl rfl (gIn_n _ _)) aN) ?_⟩)) (by show 4 < 15; omega)
    show some (D.int (if decide (s ∈ e) = true then 1 else 0)) = some (D.int (if s ∈ e then 1 else 0))
    by_cases q : s ∈ e
    · rw [decide_eq_true q, if_pos rfl, if_pos q]
    · rw [decide_eq_false q, if_neg Bool.false_ne_true, if_neg q]
  let J : Nat → (Nat → Int) → Prop := fun k M => ∀ i j, i < K.length → j < K.length → (M (K.getD i 0) = M (K.getD j 0) ↔ Ma.E L (Ma.stp K S) (Ma.accP e K) k i j)
  have J0 : J 0 M0 := by
    intro i j hi hj
    show (if K.getD i 0 ∈ e then (1 : Int) else 0) = (if K.getD j 0 ∈ e then 1 else 0) ↔ Ma.accP e K i = Ma.accP e K j
    unfold Ma.accP Ma.accS
    generalize K.getD i 0 = a
    generalize K.getD j 0 = b
    by_cases p : a ∈ e <;> by_cases q : b ∈ e <;> simp [p, q]
  have a4 := forGo_inv (tg := .nm 5) (G := nD) (g := gSeq gTurnRows (gSeq gTurnTold gTurnMarks)) (fun k ρ => ∃ (M : Nat → Int) (x5 x6 x7 : Option DV), J k M ∧ ρ = lxE S e K n M x5 x6 x7 none none) (List.range K.length) 0 (lxE S e K n M0 none none none none none) ⟨M0, none, none, none, J0, rfl⟩ (by
    rintro k hk ρ ⟨M, x5, x6, x7, hJ, rfl⟩
    rw [Nat.zero_add] at hJ ⊢
    rw [List.getElem_range]
    obtain ⟨M', t, y6, y7, q⟩ := turn_ok (e := e) g h3 hn R M (some (.sh (nD k))) x6 x7
    exact ⟨lxE S e K n M (some (.sh (nD k))) x6 x7 none none, _, rfl, q, M', _, _, _, Ma.MT_lab R g t hJ, rfl⟩)
  obtain ⟨ρ4, a4, M, x5, x6, x7, hJ, rfl⟩ := a4
  rw [List.length_range, Nat.zero_add] at hJ
  have lb := lb M hJ
  -- the first of each block
  have b1 := forGo_inv (tg := .nm 9) (G := nD) (g := gFind) (fun j ρ => ∃ x9 : Option DV, ρ = lxE S e K n M x5 x6 x7 (some (.own false (.lst (((K.take j).foldl (Ma.pick1 M) []).map nD)))) x9) K 0 (lxE S e K n M x5 x6 x7 (some (.own false (.lst []))) none) ⟨none, rfl⟩ (by
    rintro j hj ρ ⟨x9, rfl⟩
    rw [Nat.zero_add]
    let fd := (K.take j).foldl (Ma.pick1 M) []
    have hfd : ∀ t ∈ fd, t ∈ K := fun t ht => by
      rcases Ma.pick_mem M (K.take j) [] t ht with h | h
      · exact nomatch h
      · exact List.mem_of_mem_take h
    have hfl : fd.length ≤ K.length := by
      have : ∀ (xs fd : List Nat), (xs.foldl (Ma.pick1 M) fd).length ≤ fd.length + xs.length := by
        intro xs
        induction xs with
        | nil => intro fd; exact Nat.le_refl _
        | cons x xs ih =>
          intro fd
          have h1 := ih (Ma.pick1 M fd x)
          have h2 : (Ma.pick1 M fd x).length ≤ fd.length + 1 := by
            unfold Ma.pick1
            split
            · omega
            · rw [List.length_append]; exact Nat.le_refl _
          rw [List.foldl_cons, List.length_cons]
          omega
      have := this (K.take j) []
      rw [List.length_take, List.length_nil] at this
      show ((K.take j).foldl (Ma.pick1 M) []).length ≤ _
      omega
    have e1 : (K.take (j + 1)).foldl (Ma.pick1 M) [] = Ma.pick1 M fd K[j] := foldl_take _ [] K hj
    have hKj := hlt _ (List.getElem_mem hj)
    let ρ1 : En := lxE S e K n M x5 x6 x7 (some (.own false (.lst (fd.map nD)))) (some (.sh (nD K[j])))
    have t1 : tB' (fOp gNi (fOp gIx (fVar 4) (fVar 9)) (fLc (iSeq (fVar 8)) (.nm 13) tYs (fOp gIx (fVar 4) (fVar 13)) [13])) ρ1 = some (!decide (M K[j] ∈ fd.map M)) := by
      refine tB_e (fOp_e (fOp_e (a := mkD n M) (b := nD K[j]) rfl rfl (gIx_mk hKj)) (fLc_map (xs := fd) (G := nD) (F := fun t => .int (M t)) (iSeq_l rfl) (by omega) fun t ht => ⟨_, rfl, rfl, fOp_e (a := mkD n M) (b := nD t) rfl rfl (gIx_mk (hlt t (hfd t ht)))⟩) ?_)
      have := gNi_py (f := D.int) (g := PyData.int) (x := M K[j]) (l := fd.map M) (k := 0) (fun y _ => Py.int y) (Py.int _) (fun y _ => eqv_i y _) (by omega)
      rw [List.map_map] at this
      exact this
    by_cases q : M K[j] ∈ fd.map M
    · rw [decide_eq_true q] at t1
      refine ⟨ρ1, ρ1, rfl, gIf_f (sT_e t1), some (.sh (nD K[j])), ?_⟩
      rw [e1, Ma.pick1, if_pos q]
    · rw [decide_eq_false q] at t1
      refine ⟨ρ1, _, rfl, (gIf_t (sT_e t1)).trans (gApp_e (ds := fd.map nD) (ds' := fd.map nD) (d := nD K[j]) (ρ1 := ρ1) rfl rfl rfl (by rw [List.length_map]; omega)), some (.sh (nD K[j])), ?_⟩
      rw [e1, Ma.pick1, if_neg q, List.map_append]
      rfl)
  obtain ⟨ρ5, b1, x9, rfl⟩ := b1
  rw [Nat.zero_add, List.take_length] at b1
  have hfd : ∀ t ∈ K.foldl (Ma.pick1 M) [], t ∈ K := fun t ht => by
    rcases Ma.pick_mem M K [] t ht with h | h
    · exact nomatch h
    · exact h
  have hmap : (K.foldl (Ma.pick1 M) []).map M = Ma.ded [] (K.map M) := Ma.pick_map M K []
  have hFl : (K.foldl (Ma.pick1 M) []).length ≤ 1000 := by
    have h1 := lb.good
    rw [List.length_map] at h1
    omega
  generalize K.foldl (Ma.pick1 M) [] = F at *
  have hin : ∀ x ∈ K, M x ∈ F.map M := fun x hx => by
    rw [hmap, Ma.ded_mem]
    exact .inr (List.mem_map_of_mem hx)
  have hcl : ∀ s ∈ F, ∀ t ∈ S.getD s [], t ∈ K := fun s hs t ht => by
    have hsK := hfd s hs
    obtain ⟨a, ha, rfl⟩ := List.getElem_of_mem ht
    have hsn := hlt s hsK
    have h1 := R.cl (K.idxOf s) a (List.idxOf_lt_length_iff.mpr hsK) (by rw [← (g.at hsn).1]; exact ha)
    rw [Ma.key_idx hsK] at h1
    have : Ma.nx S s a = (S.getD s [])[a] := by
      unfold Ma.nx
      rw [List.getD_eq_getElem?_getD (l := S.getD s []), List.getElem?_eq_getElem ha]
      rfl
    rw [this] at h1
    exact h1
  let B0 : En := lxE S e K n M x5 x6 x7 (some (.own false (.lst (F.map nD)))) x9
  have c1 : fLc (iSeq (fVar 8)) (.nm 9) tYs (fOp gIx (fVar 4) (fVar 9)) [9] B0 = some (.lst (F.map fun t => .int (M t))) :=
    fLc_map (xs := F) (G := nD) (F := fun t => .int (M t)) (iSeq_l rfl) (by omega) fun t ht => ⟨_, rfl, rfl, fOp_e (a := mkD n M) (b := nD t) rfl rfl (gIx_mk (hlt t (hfd t ht)))⟩
  let B1 : En := B0.set 10 (some (.sh (.lst (F.map fun t => .int (M t)))))
  have c2 : fLc (iSeq (fVar 8)) (.nm 9) tYs (fLc (iSeq (fOp gIx (fVar 1) (fVar 9))) (.nm 12) tYs (fMt gIdxL (fVar 10) (aCons (fOp gIx (fVar 4) (fVar 12)) aNil)) [12]) [9] B1 = some (stD (F.map fun s => (S.getD s []).map fun t => (F.map M).idxOf (M t))) := by
    refine (fLc_map (xs := F) (G := nD) (F := fun s => nsD ((S.getD s []).map fun t => (F.map M).idxOf (M t))) (iSeq_l rfl) (by omega) fun s hs => ⟨_, rfl, rfl, ?_⟩).trans (by rw [stD, List.map_map]; rfl)
    have hsn := hlt s (hfd s hs)
    refine (fLc_map (xs := S.getD s []) (G := nD) (F := fun t => nD ((F.map M).idxOf (M t))) (iSeq_l (fOp_e (a := stD S) (b := nD s) rfl rfl (gIx_st (by rw [g.len]; exact hsn)))) (by rw [(g.at hsn).1]; omega) fun t ht => ⟨_, rfl, rfl, fMt_e rfl (aC (fOp_e (a := mkD n M) (b := nD t) rfl rfl (gIx_mk ((g.at hsn).2 t ht))) aN) ?_⟩).trans (by rw [nsD, List.map_map]; rfl)
    have := gIdxL_py (f := D.int) (g := PyData.int) (x := M t) (l := F.map M) (k := 0) (fun y _ => Py.int y) (Py.int _) (hin t (hcl s hs t ht)) (fun y _ => eqv_i y _) (by omega)
    rw [List.map_map] at this
    exact this
  let B2 : En := B1.set 11 (some (.sh (stD (F.map fun s => (S.getD s []).map fun t => (F.map M).idxOf (M t)))))
  have c3 : fLc (iEn (fVar 8)) (.tp [14, 9]) (tB' (fOp gIn (fVar 9) (fVar 2))) (fShr 14) [14, 9] B2 = some (nsD ((F.zipIdx.filter fun q => decide (q.1 ∈ e)).map (·.2))) := by
    refine (fLc_filter (xs := F.zipIdx) (G := fun p => .tup [nD p.2, nD p.1]) (F := fun p => nD p.2) (p := fun q => decide (q.1 ∈ e)) (iEn_l (F := nD) rfl) (by rw [List.length_zipIdx]; omega) fun p hp => ⟨_, rfl, tB_e (fOp_e (b := nsD e) rfl rfl (gIn_n _ _)), fun _ => rfl⟩).trans (by rw [nsD, List.map_map]; rfl)
  refine ⟨_, _, lb, runP_e rfl ((gSeq_e a1).trans ((gSeq_e a2).trans ((gSeq_e a3).trans ((gSeq_e ((gFor_e (iRange_n (fCb_e (aC rfl aN) (by rw [nsD, gLen_l, List.length_map])) (by omega))).trans a4)).trans ((gSeq_e (ρ1 := lxE S e K n M x5 x6 x7 (some (.own false (.lst []))) none) rfl).trans ((gSeq_e ((gFor_e (iSeq_l rfl)).trans b1)).trans ((gSeq_e (gSet_e (sP_e c1) (by show 10 < 15; omega))).trans ((gSeq_e (gSet_e (sP_e c2) (by show 11 < 15; omega))).trans (gRet_e (sP_e (fTup_e (aC rfl (aC c3 aN)) (by show 2 ≤ 100000; omega))))))))))))⟩
end
end
end Dv

/-! V9 -/
namespace Dv
noncomputable section
open PySem PySem.Spec PyProof.Rows L2 Evl LamX
/-! V9: the program's own exploration, and its least form. -/
def plD : Nat → List Nat → List (Key × D)
  | _, [] => []
  | i, k :: ks => (.inl (k : Int), nD i) :: plD (i + 1) ks
theorem plD_len : ∀ (ks : List Nat) (i : Nat), (plD i ks).length = ks.length
  | [], _ => rfl
  | _ :: ks, i => congrArg Nat.succ (plD_len ks (i + 1))
theorem plD_val : ∀ (ks : List Nat) (i x : Nat), valD (plD i ks) (.inl (x : Int)) = if x ∈ ks then some (nD (i + ks.idxOf x)) else none
  | [], i, x => rfl
  | k :: ks, i, x => by
    unfold plD valD
    by_cases h : k = x
    · subst h
      rw [List.find?_cons_of_pos (by simp), if_pos List.mem_cons_self, List.idxOf_cons_self]
      rfl
    · have hk : ¬ ((Sum.inl (k : Int) : Key) = Sum.inl (x : Int)) := fun e => h (by injection e with e; omega)
      rw [List.find?_cons_of_neg (by simpa using hk)]
      have := plD_val ks (i + 1) x
      unfold valD at this
      rw [this]
      have hm : (x ∈ k :: ks) ↔ x ∈ ks := by rw [List.mem_cons]; exact ⟨fun z => z.resolve_left fun e => h e.symm, .inr⟩
      by_cases q : x ∈ ks
      · rw [if_pos q, if_pos (hm.mpr q), List.idxOf_cons, show (k == x) = false by simpa using h]
        show some (nD (i + 1 + ks.idxOf x)) = some (nD (i + (ks.idxOf x + 1)))
        rw [show i + 1 + ks.idxOf x = i + (ks.idxOf x + 1) by omega]
      · rw [if_neg q, if_neg (fun z => q (hm.mp z))]
theorem plD_any : ∀ (ks : List Nat) (i x : Nat), ((plD i ks).any fun kv => decide (kv.1 = (.inl (x : Int) : Key))) = decide (x ∈ ks)
  | [], i, x => by simp [plD]
  | k :: ks, i, x => by
    unfold plD
    rw [List.any_cons, plD_any ks (i + 1) x]
    by_cases h : k = x
    · subst h; simp
    · have hk : ¬ ((Sum.inl (k : Int) : Key) = Sum.inl (x : Int)) := fun e => h (by injection e with e; omega)
      have h2 : ¬ x = k := fun e => h e.symm
      simp [hk, h2]
theorem plD_app : ∀ (ks : List Nat) (i x : Nat), plD i ks ++ [((.inl (x : Int) : Key), nD (i + ks.length))] = plD i (ks ++ [x])
  | [], i, x => rfl
  | k :: ks, i, x => by
    have := plD_app ks (i + 1) x
    rw [show i + 1 + ks.length = i + (k :: ks).length by rw [List.length_cons]; omega] at this
    rw [List.cons_append]
    unfold plD
    rw [List.cons_append, this]
theorem plD_put {ks : List Nat} {x : Nat} (h : x ∉ ks) : putKD (plD 0 ks) (.inl (x : Int)) (nD ks.length) = plD 0 (ks ++ [x]) := by
  unfold putKD
  rw [plD_any, decide_eq_false h, if_neg Bool.false_ne_true]
  have := plD_app ks 0 x
  rw [Nat.zero_add] at this
  exact this
section
variable {L n : Nat} {S : Ma.Steps} {t : Bool}
theorem gIx_sT {i : Nat} (h : i < S.length) : gIx (stT t S) (nD i) = some (rowT t (S.getD i [])) := by
  unfold stT
  rw [gIx_s h, List.getD_eq_getElem?_getD, List.getElem?_eq_getElem h]
  rfl
theorem gIx_rT {r : List Nat} {i : Nat} (h : i < r.length) : gIx (rowT t r) (nD i) = some (nD (r.getD i 0)) := by
  unfold rowT
  rw [gIx_s h, List.getD_eq_getElem?_getD, List.getElem?_eq_getElem h]
  rfl
theorem lead_ok (g : Ma.Good L n S) {s a : Nat} (hs : s < n) (ha : a < L) : m_lead [nD s, nD a, stT t S] = some (.sh (nD (Ma.nx S s a))) :=
  runP_e rfl (gRet_e (sP_e (fOp_e (fOp_e (a := stT t S) (b := nD s) rfl rfl (gIx_sT (by rw [g.len]; exact hs))) rfl (gIx_rT (by rw [(g.at hs).1]; exact ha)))))
def rowK (L : Nat) (S : Ma.Steps) (ks : List Nat) (i : Nat) : List Nat := (List.range L).map fun a => Ma.stp ks S i a
def rowsK (L : Nat) (S : Ma.Steps) (ks : List Nat) (p : Nat) : List (List Nat) := (List.range p).map (rowK L S ks)
theorem stp_put {p q : Nat} {ls : List Nat} (I : Ma.BInv L n S p q ls) {i a x : Nat} (ha : a < L) (h : i < p ∨ (i = p ∧ a < q)) : Ma.stp (Ma.put ls x) S i a = Ma.stp ls S i a := by
  obtain ⟨h1, h2⟩ := I.cl i a ha h
  unfold Ma.stp
  rw [Ma.put_at h1]
  unfold Ma.put
  split
  · rfl
  · exact Ma.idx_app h2
theorem rowsK_put {p q : Nat} {ls : List Nat} (I : Ma.BInv L n S p q ls) {x : Nat} : rowsK L S (Ma.put ls x) p = rowsK L S ls p := by
  unfold rowsK rowK
  refine List.map_congr_left fun i hi => List.map_congr_left fun a ha => ?_
  exact stp_put I (List.mem_range.mp ha) (.inl (List.mem_range.mp hi))
theorem reach_of {K : List Nat} (g : Ma.Good L n S) (I : Ma.BInv L n S K.length 0 K) : Ma.Reach L n S K := by
  refine ⟨I.nd, I.hd, I.pos, Ma.nodup_le K n I.nd I.lt, I.lt, fun i a hi ha => (I.cl i a ha (.inl hi)).2, ⟨I.pos, fun i a hi ha => List.idxOf_lt_length_of_mem (I.cl i a ha (.inl hi)).2, fun j h1 h2 => ?_⟩⟩
  obtain ⟨i, a, b1, b2, b3, b4, b5⟩ := I.bf j h1 h2
  refine ⟨i, a, b1, b2, ?_, b5⟩
  unfold Ma.stp
  rw [b4, List.getD_eq_getElem?_getD, List.getElem?_eq_getElem h2]
  exact I.nd.idxOf_getElem j h2
def XE (L : Nat) (fa : Addr) (ks : List Nat) (rows : List (List Nat)) (x8 x9 x10 : Option DV) : En :=
  [some (.sh (nD 0)), some (.sh (nD L)), some (.sh (.raw (.ref fa))), some (.sh .non), some (.sh .non), some (.own false (.dic (plD 0 ks))), some (.own false (.lst (ks.map nD))), some (.own false (.lst (rows.map nsD))), x8, x9, x10]
abbrev gExIn (fa : Addr) (cds : List D) : SS := (gSeq (gSet 10 (sP (fCallV 2 fa (semC m_lead cds 2) (aCons (fOp gIx (fVar 6) (fCb gLen (aCons (fVar 7) aNil))) (aCons (fShr 9) aNil))))) (gSeq (gIf (sT (tB' (fOp gNiD (fShr 10) (fVar 5)))) (gSeq (gPutD 5 (fShr 10) (fCb gLen (aCons (fVar 6) aNil))) (gApp 6 (sFrz 10))) gNil') (gApp 8 (sP (fOp gGetD (fVar 5) (fShr 10))))))
theorem fCallV_e {i : Nat} {fa : Addr} {sem : SemP} {af : AF} {ρ : En} {ds : List D} {rv : RV} (h0 : ρ[i]? = some (some (.sh (.raw (.ref fa))))) (h1 : af ρ = some ds) (h2 : sem ds = some rv) : fCallV i fa sem af ρ = some (rvD rv) := by
  unfold fCallV
  rw [h0]
  simp only [if_true]
  exact fCall_e h1 h2
theorem gPutD_e {i : Nat} {fk fv : PF} {ρ : En} {d k : D} {b : Bool} {ds : List (Key × D)} {k' : Key} (h1 : fv ρ = some d) (h2 : fk ρ = some k) (h3 : ownD ρ i = some (b, ds)) (h4 : keyD k = some k') (h5 : ds.length + 1 ≤ 100000) : gPutD i fk fv ρ = some (.nx (ρ.set i (some (.own b (.dic (putKD ds k' d)))))) := by
  unfold gPutD
  rw [h1, h2, h3]
  simp only [h4, szOk_of h5, if_true]
theorem explored_ok (g : Ma.Good L n S) (hn : n ≤ 1000) (h3 : L ≤ 3) (fa : Addr) : ∃ K, Ma.Reach L n S K ∧ m_explored fa [stT t S] [nD 0, nD L, .raw (.ref fa), .non, .non] = some (.sh (.tup [nsD K, stD (rowsK L S K K.length)])) := by
  let I : Nat → En → Prop := fun p ρ => ∃ (ks : List Nat) (x8 x9 x10 : Option DV), Ma.BInv L n S p 0 ks ∧ p ≤ ks.length ∧ ρ = XE L fa ks (rowsK L S ks p) x8 x9 x10
  have lt : ∀ ks rows x8 x9 x10, tB' (fOp gLt (fCb gLen (aCons (fVar 7) aNil)) (fCb gLen (aCons (fVar 6) aNil))) (XE L fa ks rows x8 x9 x10) = some (decide (rows.length < ks.length)) := fun ks rows x8 x9 x10 =>
    tB_e (fOp_e (fCb_e (aC rfl aN) (gLen_l _)) (fCb_e (aC rfl aN) (gLen_l _)) (by rw [List.length_map, List.length_map]; exact gLt_n _ _))
  have rl : ∀ ks p, (rowsK L S ks p).length = p := fun ks p => by unfold rowsK; rw [List.length_map, List.length_range]
  obtain ⟨j, ρ', e, ⟨ks, x8, x9, x10, hB, hj, rfl⟩, hf⟩ := gWh_inv (ρ := XE L fa [0] [] none none none) (t := tB' (fOp gLt (fCb gLen (aCons (fVar 7) aNil)) (fCb gLen (aCons (fVar 6) aNil))))
    (g := gSeq (gSetN 8 (nLstI saNil)) (gSeq (gFor (iRange (fShr 1)) (.nm 9) (gExIn fa [stT t S])) (gSeq (gApp 7 (sFrz 8)) (gIf (sT (tAn (tB' (fOp gIsNot (fVar 4) (fC .non))) (tB' (fOp gGt (fCb gLen (aCons (fVar 6) aNil)) (fVar 4))))) gNever gNil')))) I (n + 1) ⟨[0], none, none, none, Ma.BInv.start g.pos, Nat.zero_le _, rfl⟩ (by
    rintro p ρ ⟨ks, x8, x9, x10, hB, hp, rfl⟩
    refine ⟨_, lt ks _ x8 x9 x10, fun hlt => ?_⟩
    have hlt := of_decide_eq_true hlt
    rw [rl] at hlt
    let J : Nat → En → Prop := fun q ρ => ∃ (ls : List Nat) (x9 x10 : Option DV), Ma.BInv L n S p q ls ∧ p < ls.length ∧ ρ = XE L fa ls (rowsK L S ls p) (some (.own false (.lst (((List.range q).map (Ma.stp ls S p)).map nD)))) x9 x10
    have hin := forGo_inv (tg := .nm 9) (G := nD) (g := gExIn fa [stT t S]) J (List.range L) 0 (XE L fa ks (rowsK L S ks p) (some (.own false (.lst []))) x9 x10) ⟨ks, x9, x10, hB, hlt, rfl⟩ (by
      rintro q hq ρ ⟨ls, x9, x10, hB, hp, rfl⟩
      rw [Nat.zero_add] at hB ⊢
      rw [List.length_range] at hq
      rw [List.getElem_range]
      have hle : ls.length ≤ n := Ma.nodup_le ls n hB.nd hB.lt
      have hs : ls.getD p 0 < n := hB.lt _ (Ma.key_mem hp)
      let s := ls.getD p 0
      let x := Ma.nx S s q
      let row : Option DV := some (.own false (.lst (((List.range q).map (Ma.stp ls S p)).map nD)))
      let ρ1 : En := XE L fa ls (rowsK L S ls p) row (some (.sh (nD q))) x10
      let ρ2 : En := XE L fa ls (rowsK L S ls p) row (some (.sh (nD q))) (some (.sh (nD x)))
      have a1 : fOp gIx (fVar 6) (fCb gLen (aCons (fVar 7) aNil)) ρ1 = some (nD s) := fOp_e (a := nsD ls) (b := nD p) rfl (fCb_e (aC rfl aN) ((gLen_l _).trans (by rw [List.length_map, rl]))) (gIx_ns hp)
      have a2 : semC m_lead [stT t S] 2 [nD s, nD q] = some (.sh (nD x)) := (show semC m_lead [stT t S] 2 [nD s, nD q] = m_lead [nD s, nD q, stT t S] from rfl).trans (lead_ok g hs hq)
      have b1 : gSet 10 (sP (fCallV 2 fa (semC m_lead [stT t S] 2) (aCons (fOp gIx (fVar 6) (fCb gLen (aCons (fVar 7) aNil))) (aCons (fShr 9) aNil)))) ρ1 = some (.nx ρ2) := gSet_e (sP_e (fCallV_e rfl (aC a1 (aC rfl aN)) a2)) (by show 10 < 11; omega)
      have t1 : tB' (fOp gNiD (fShr 10) (fVar 5)) ρ2 = some (!decide (x ∈ ls)) := by
        refine tB_e (fOp_e (a := nD x) (b := .dic (plD 0 ls)) rfl rfl ?_)
        show some (D.bl (!(valD (plD 0 ls) (.inl (x : Int))).isSome)) = _
        rw [plD_val]
        by_cases hm : x ∈ ls
        · rw [if_pos hm, decide_eq_true hm]; rfl
        · rw [if_neg hm, decide_eq_false hm]; rfl
      let ls' := Ma.put ls x
      have hB' : Ma.BInv L n S p (q + 1) ls' := hB.next g hp hq
      have hp' : p < ls'.length := Nat.lt_of_lt_of_le hp (Ma.put_len ls x)
      have hx : x ∈ ls' := (hB'.cl p q hq (.inr ⟨rfl, Nat.lt_succ_self q⟩)).2 |> fun h => by
        have : ls'.getD p 0 = s := Ma.put_at hp
        rw [this] at h
        exact h
      have hst : Ma.stp ls' S p q = ls'.idxOf x := by
        unfold Ma.stp
        rw [show ls'.getD p 0 = s from Ma.put_at hp]
      have hrow : (List.range q).map (Ma.stp ls S p) = (List.range q).map (Ma.stp ls' S p) := List.map_congr_left fun a ha => (stp_put hB (Nat.lt_trans (List.mem_range.mp ha) hq) (.inr ⟨rfl, List.mem_range.mp ha⟩)).symm
      have hrows : rowsK L S ls' p = rowsK L S ls p := rowsK_put hB
      let ρ3 : En := XE L fa ls' (rowsK L S ls' p) row (some (.sh (nD q))) (some (.sh (nD x)))
      have b2 : gIf (sT (tB' (fOp gNiD (fShr 10) (fVar 5)))) (gSeq (gPutD 5 (fShr 10) (fCb gLen (aCons (fVar 6) aNil))) (gApp 6 (sFrz 10))) gNil' ρ2 = some (.nx ρ3) := by
        show _ = some (Out.nx (XE L fa ls' (rowsK L S ls' p) row (some (.sh (nD q))) (some (.sh (nD x)))))
        rw [hrows]
        by_cases hm : x ∈ ls
        · rw [decide_eq_true hm] at t1
          rw [show ls' = ls from if_pos hm]
          exact gIf_f (sT_e t1)
        · rw [decide_eq_false hm] at t1
          rw [show ls' = ls ++ [x] from if_neg hm]
          refine (gIf_t (sT_e t1)).trans ((gSeq_e (gPutD_e (d := nD ls.length) (k := nD x) (ds := plD 0 ls) (k' := .inl (x : Int)) (fCb_e (aC rfl aN) ((gLen_l _).trans (by rw [List.length_map]))) rfl rfl rfl (by rw [plD_len]; omega))).trans ((gApp_e (ds := ls.map nD) (ds' := ls.map nD) (d := nD x) rfl rfl rfl (by rw [List.length_map]; omega)).trans ?_))
          rw [plD_put hm]
          show some (Out.nx [some (.sh (nD 0)), some (.sh (nD L)), some (.sh (.raw (.ref fa))), some (.sh .non), some (.sh .non), some (.own false (.dic (plD 0 (ls ++ [x])))), some (.own false (.lst (ls.map nD ++ [nD x]))), some (.own false (.lst ((rowsK L S ls p).map nsD))), row, some (.sh (nD q)), some (.sh (nD x))]) = some (Out.nx [some (.sh (nD 0)), some (.sh (nD L)), some (.sh (.raw (.ref fa))), some (.sh .non), some (.sh .non), some (.own false (.dic (plD 0 (ls ++ [x])))), some (.own false (.lst ((ls ++ [x]).map nD))), some (.own false (.lst ((rowsK L S ls p).map nsD))), row, some (.sh (nD q)), some (.sh (nD x))])
          rw [List.map_append]
          rfl
      have b3 : fOp gGetD (fVar 5) (fShr 10) ρ3 = some (nD (ls'.idxOf x)) := by
        refine fOp_e (a := .dic (plD 0 ls')) (b := nD x) rfl rfl ?_
        show valD (plD 0 ls') (.inl (x : Int)) = _
        rw [plD_val, if_pos hx, Nat.zero_add]
      refine ⟨ρ1, _, rfl, (gSeq_e b1).trans ((gSeq_e b2).trans (gApp_e (ds := ((List.range q).map (Ma.stp ls S p)).map nD) (ds' := ((List.range q).map (Ma.stp ls S p)).map nD) rfl (sP_e b3) rfl (by rw [List.length_map, List.length_map, List.length_range]; omega))), ls', some (.sh (nD q)), some (.sh (nD x)), hB', hp', ?_⟩
      rw [List.range_succ, List.map_append, List.map_append, hrow]
      show _ = XE L fa ls' (rowsK L S ls' p) (some (.own false (.lst (((List.range q).map (Ma.stp ls' S p)).map nD ++ [nD (Ma.stp ls' S p q)])))) _ _
      rw [hst]
      rfl)
    obtain ⟨ρ2, e2, ls, y9, y10, hB2, hp2, rfl⟩ := hin
    rw [List.length_range, Nat.zero_add] at hB2
    rw [List.length_range, Nat.zero_add] at e2
    have hle : ls.length ≤ n := Ma.nodup_le ls n hB2.nd hB2.lt
    refine ⟨XE L fa ls (rowsK L S ls (p + 1)) (some (.sh (nsD ((List.range L).map (Ma.stp ls S p))))) y9 y10, (gSeq_e (ρ1 := XE L fa ks (rowsK L S ks p) (some (.own false (.lst []))) x9 x10) rfl).trans ((gSeq_e ((gFor_e (iRange_n (n := L) rfl (by omega))).trans e2)).trans ((gSeq_e (gApp_e (ds := (rowsK L S ls p).map nsD) (ds' := (rowsK L S ls p).map nsD) (d := nsD ((List.range L).map (Ma.stp ls S p))) rfl rfl rfl (by rw [List.length_map, rl]; omega))).trans ((gIf_f (sT_e (tAn_f (tB_e (fOp_e (a := .non) (b := .non) (d := .bl false) rfl rfl rfl))))).trans ?_))), ls, some (.sh (nsD ((List.range L).map (Ma.stp ls S p)))), y9, y10, hB2.up, hp2, rfl⟩
    show some (Out.nx _) = some (Out.nx [some (.sh (nD 0)), some (.sh (nD L)), some (.sh (.raw (.ref fa))), some (.sh .non), some (.sh .non), some (.own false (.dic (plD 0 ls))), some (.own false (.lst (ls.map nD))), some (.own false (.lst ((rowsK L S ls (p + 1)).map nsD))), _, y9, y10])
    rw [show rowsK L S ls (p + 1) = rowsK L S ls p ++ [(List.range L).map (Ma.stp ls S p)] by unfold rowsK; rw [List.range_succ, List.map_append]; rfl, List.map_append]
    rfl)
    (by
    rintro j ρ ⟨ks, x8, x9, x10, hB, hj, rfl⟩ ht
    rw [lt, rl] at ht
    have := of_decide_eq_true (Option.some.inj ht)
    have hle : ks.length ≤ n := Ma.nodup_le ks n hB.nd hB.lt
    omega)
  rw [lt, rl] at hf
  have hf := of_decide_eq_false (Option.some.inj hf)
  have hjk : j = ks.length := by omega
  subst hjk
  refine ⟨ks, reach_of g hB, ?_⟩
  have q1 : gPar [5, 6, 7] [.N (nDic1 (fShr 0) (fC (.int 0))), .N (nLstI (saCons (sFrz 0) saNil)), .N (nLstI saNil)] (init 11 5 [.sh (nD 0), .sh (nD L), .sh (.raw (.ref fa)), .sh .non, .sh .non]) = some (.nx (XE L fa [0] [] none none none)) := rfl
  exact runP_e rfl ((gSeq_e q1).trans ((gSeq_e e).trans (gRet_e (sTup_e (saC rfl (saC rfl rfl)) (by show 2 ≤ 100000; omega)))))
end
end
end Dv

/-! W1 -/
namespace Dv
noncomputable section
open PySem PySem.Spec PyProof.Rows L2 Evl LamX
/-! W1: the program's least form, by values. -/
theorem valD_some (k : Key) (ds : List (Key × D)) : (valD ds k).isSome = ds.any fun kv => decide (kv.1 = k) := by
  unfold valD
  rw [Option.isSome_map]
  induction ds with
  | nil => rfl
  | cons x xs ih =>
    rw [List.any_cons]
    by_cases h : x.1 = k
    · rw [List.find?_cons_of_pos (by simpa using h), decide_eq_true h]; rfl
    · rw [List.find?_cons_of_neg (by simpa using h), decide_eq_false h, Bool.false_or, ih]
theorem putKD_len (ds : List (Key × D)) (k : Key) (d : D) : (putKD ds k d).length ≤ ds.length + 1 := by
  unfold putKD
  split
  · rw [List.length_map]; omega
  · rw [List.length_append]; exact Nat.le_refl _
theorem putKD_val (ds : List (Key × D)) (k k' : Key) (d : D) : (valD (putKD ds k d) k').isSome = ((valD ds k').isSome || decide (k' = k)) := by
  rw [valD_some, valD_some]
  unfold putKD
  split
  · rename_i h
    have e : (ds.map fun kv => if kv.1 = k then (kv.1, d) else kv).any (fun kv => decide (kv.1 = k')) = ds.any fun kv => decide (kv.1 = k') := by
      rw [List.any_map]
      congr 1
      funext kv
      show decide ((if kv.1 = k then (kv.1, d) else kv).1 = k') = decide (kv.1 = k')
      split <;> rfl
    rw [e]
    by_cases q : k' = k
    · subst q
      rw [h]; rfl
    · rw [decide_eq_false q, Bool.or_false]
  · rw [List.any_append]
    congr 1
    rw [List.any_cons, List.any_nil, Bool.or_false]
    by_cases q : k' = k
    · subst q; simp
    · have q2 : ¬ k = k' := fun e => q e.symm
      simp [q, q2]
theorem dcGo_ends {tg : Tg} {fk fv : PF} {ρ : En} (h : ∀ x : Nat, ∃ ρ1, tg.asg (nD x) ρ = some ρ1 ∧ fk ρ1 = some (nD x) ∧ fv ρ1 = some (.bl true)) : ∀ (e : List Nat) (acc : List (Key × D)), acc.length + e.length ≤ 100000 → ∃ kvs, dcGo tg fk fv ρ acc (e.map nD) = some kvs ∧ ∀ x : Nat, (valD kvs (.inl (x : Int))).isSome = ((valD acc (.inl (x : Int))).isSome || decide (x ∈ e))
  | [], acc, _ => ⟨acc, rfl, fun x => by simp⟩
  | y :: e, acc, hl => by
    rw [List.length_cons] at hl
    obtain ⟨ρ1, a1, a2, a3⟩ := h y
    have hp := putKD_len acc (.inl (y : Int)) (.bl true)
    obtain ⟨kvs, g1, g2⟩ := dcGo_ends h e (putKD acc (.inl (y : Int)) (.bl true)) (by omega)
    refine ⟨kvs, ?_, fun x => ?_⟩
    · rw [List.map_cons]
      unfold dcGo
      rw [a1]
      show (match fk ρ1, fv ρ1 with | some kd, some y => (match keyD kd with | some k => if szOk (acc.length + 1) = true then dcGo tg fk fv ρ (putKD acc k y) (e.map nD) else none | none => none) | _, _ => none) = _
      rw [a2, a3]
      show (if szOk (acc.length + 1) = true then dcGo tg fk fv ρ (putKD acc (.inl (y : Int)) (.bl true)) (e.map nD) else none) = _
      rw [szOk_of (by omega), if_pos rfl, g1]
    · rw [g2, putKD_val, Bool.or_assoc]
      congr 1
      have : decide ((Sum.inl (x : Int) : Key) = Sum.inl (y : Int)) = decide (x = y) := by
        by_cases q : x = y
        · subst q; simp
        · rw [decide_eq_false q, decide_eq_false (fun e => q (by injection e with e; omega))]
      rw [this]
      by_cases q : x = y
      · subst q; simp
      · by_cases r : x ∈ e <;> simp [q, r]
theorem numGo_num {κ : Type} [DecidableEq κ] : ∀ (seen xs : List κ), numGo seen xs = Ma.num seen xs
  | _, [] => by rw [numGo, Ma.num]
  | seen, x :: xs => by rw [numGo, Ma.num, numGo_num seen xs, numGo_num (seen ++ [x]) xs]
theorem blsD_is : ∀ l : List Bool, blsD (l.map .bl) = some l
  | [] => rfl
  | b :: l => by rw [List.map_cons, blsD, blsD_is l]
theorem tupsD_is : ∀ l : List (List Nat), tupsD (l.map fun r => .tup (r.map nD)) = some (l.map fun r => r.map fun n => ((n : Nat) : Int))
  | [] => rfl
  | r :: l => by rw [List.map_cons, tupsD, intsD_ns, tupsD_is l]; rfl
theorem numd_bl {l : List Bool} (h : l.length ≤ 100000) : semNumd [.lst (l.map .bl)] = some (.sh (nsD (Ma.num [] l))) := by
  show (if (l.map D.bl).length ≤ 100000 then (match blsD (l.map .bl) with | some bs => some (RV.sh (natsD (numGo [] bs))) | none => (match tupsD (l.map .bl) with | some ts => some (.sh (natsD (numGo [] ts))) | none => none)) else none) = _
  rw [List.length_map, if_pos h, blsD_is]
  show some (RV.sh (natsD (numGo [] l))) = _
  rw [numGo_num]
  rfl
theorem numd_tup {l : List (List Nat)} (h : l.length ≤ 100000) (h0 : l ≠ []) : semNumd [.lst (l.map fun r => .tup (r.map nD))] = some (.sh (nsD (Ma.num [] l))) := by
  show (if (l.map fun r => D.tup (r.map nD)).length ≤ 100000 then (match blsD (l.map fun r => D.tup (r.map nD)) with | some bs => some (RV.sh (natsD (numGo [] bs))) | none => (match tupsD (l.map fun r => D.tup (r.map nD)) with | some ts => some (.sh (natsD (numGo [] ts))) | none => none)) else none) = _
  have hb : blsD (l.map fun r => D.tup (r.map nD)) = none := by
    cases l with
    | nil => exact absurd rfl h0
    | cons r l => rfl
  rw [List.length_map, if_pos h, hb, tupsD_is]
  letI : Nm := ⟨[], [], fun _ => True, fun _ _ => trivial⟩
  have := numGo_map (f := fun r : List Nat => r.map fun n => ((n : Nat) : Int)) (fun a b e => by
    have : ∀ (a b : List Nat), (a.map fun n => ((n : Nat) : Int)) = (b.map fun n => ((n : Nat) : Int)) → a = b := by
      intro a
      induction a with
      | nil => intro b e; cases b with
        | nil => rfl
        | cons y b => cases e
      | cons x a ih => intro b e; cases b with
        | nil => cases e
        | cons y b =>
          rw [List.map_cons, List.map_cons] at e
          injection e with e1 e2
          rw [ih b e2, show x = y by omega]
    exact this a b e) l []
  show some (RV.sh (natsD (numGo [] (l.map fun r => r.map fun n => ((n : Nat) : Int))))) = _
  rw [List.map_nil] at this
  rw [this, numGo_num]
  rfl
theorem maxI_ns : ∀ (l : List Nat) (m : Nat), ∃ r : Nat, maxI (m : Int) (l.map fun n => ((n : Nat) : Int)) = (r : Int) ∧ (r = m ∨ r ∈ l) ∧ m ≤ r ∧ ∀ x ∈ l, x ≤ r
  | [], m => ⟨m, rfl, .inl rfl, Nat.le_refl _, by simp⟩
  | y :: l, m => by
    rw [List.map_cons, maxI]
    by_cases h : ((y : Nat) : Int) > (m : Int)
    · rw [if_pos h]
      obtain ⟨r, e, a, b, c⟩ := maxI_ns l y
      refine ⟨r, e, ?_, by omega, fun x hx => ?_⟩
      · rcases a with a | a
        · exact .inr (by rw [a]; exact List.mem_cons_self)
        · exact .inr (List.mem_cons_of_mem _ a)
      · rcases List.mem_cons.mp hx with q | q
        · omega
        · exact c x q
    · rw [if_neg h]
      obtain ⟨r, e, a, b, c⟩ := maxI_ns l m
      refine ⟨r, e, ?_, b, fun x hx => ?_⟩
      · rcases a with a | a
        · exact .inl a
        · exact .inr (List.mem_cons_of_mem _ a)
      · rcases List.mem_cons.mp hx with q | q
        · omega
        · exact c x q
theorem gMax_blk {B : List Nat} {N : Nat} (bk : Ma.Blk B.length N (Ma.at0 B)) (h0 : 0 < B.length) : ∃ m, gMaxL [nsD B] = some (nD m) ∧ m + 1 = N := by
  cases B with
  | nil => exact absurd h0 (Nat.lt_irrefl 0)
  | cons y l =>
    obtain ⟨r, e, a, b, c⟩ := maxI_ns l y
    refine ⟨r, ?_, ?_⟩
    · show (match intsD ((y :: l).map nD) with | some (i :: is) => some (D.int (maxI i is)) | _ => none) = _
      rw [intsD_ns]
      show some (D.int (maxI (y : Int) (l.map fun n => ((n : Nat) : Int)))) = _
      rw [e]
      rfl
    · have mem : r ∈ y :: l := by
        rcases a with a | a
        · rw [a]; exact List.mem_cons_self
        · exact List.mem_cons_of_mem _ a
      obtain ⟨i, hi, e2⟩ := List.getElem_of_mem mem
      have h1 := bk.lt i hi
      unfold Ma.at0 at h1
      rw [List.getD_eq_getElem?_getD, List.getElem?_eq_getElem hi, Option.getD_some, e2] at h1
      have h2 : N ≤ r + 1 := by
        rcases Nat.lt_or_ge (r + 1) N with q | q
        · exfalso
          obtain ⟨j, hj, e3⟩ := bk.on (r + 1) q
          unfold Ma.at0 at e3
          rw [List.getD_eq_getElem?_getD, List.getElem?_eq_getElem hj, Option.getD_some] at e3
          have : (y :: l)[j] ∈ y :: l := List.getElem_mem hj
          rw [e3] at this
          rcases List.mem_cons.mp this with z | z
          · omega
          · have := c _ z; omega
        · exact q
      omega
theorem blk_mem {B : List Nat} {N b : Nat} (bk : Ma.Blk B.length N (Ma.at0 B)) (h : b < N) : b ∈ B := by
  obtain ⟨i, hi, e⟩ := bk.on b h
  unfold Ma.at0 at e
  rw [List.getD_eq_getElem?_getD, List.getElem?_eq_getElem hi, Option.getD_some] at e
  rw [← e]
  exact List.getElem_mem hi
theorem zip_snd {α β : Type} (l : List α) (F : Nat → β) : l.zipIdx.map (fun p => F p.2) = (List.range l.length).map F := by
  rw [List.range_eq_range', ← List.zipIdx_map_snd 0 l, List.map_map]
  rfl
theorem mem_zip {α : Type} {l : List α} {p : α × Nat} (h : p ∈ l.zipIdx) : l[p.2]? = some p.1 := by
  have := (List.mk_mem_zipIdx_iff_getElem? (i := p.2) (x := p.1) (l := l)).mp h
  exact this
section
variable {L n : Nat} {S : Ma.Steps} {t : Bool} {e : List Nat}
def lfE (fa : Addr) (L : Nat) (t : Bool) (S : Ma.Steps) (e : List Nat) (kvs : List (Key × D)) (K : List Nat) (B : List Nat) (m : Nat) (x9 x12 x13 x14 : Option DV) : En :=
  [some (.sh (nD L)), some (.sh (stT t S)), some (.sh (rowT t e)), some (.sh (.raw (.ref fa))), some (.own false (.dic kvs)), some (.sh (nsD K)), some (.sh (stD (rowsK L S K K.length))), some (.sh (nsD B)), some (.sh (nD m)), x9, none, none, x12, x13, x14, none, none]
theorem rowsK_at {K : List Nat} {i p : Nat} (h : i < p) : (rowsK L S K p).getD i [] = rowK L S K i := by
  unfold rowsK
  rw [List.getD_eq_getElem?_getD, List.getElem?_map, List.getElem?_range h]
  rfl
theorem rowsK_len {K : List Nat} {p : Nat} : (rowsK L S K p).length = p := by unfold rowsK; rw [List.length_map, List.length_range]
abbrev gLfTurn : SS := gSeq (gSet 8 (sP (fOp gAdd (fCb gMaxL (aCons (fVar 7) aNil)) (fC (.int 1))))) (gSeq (gIf (sT (tB' (fOp gGt (fVar 8) (fC (.int 60))))) gNever gNil') (gSet 7 (sP (fCall semNumd (aCons (fLc (iEn (fVar 6)) (.tp [12, 13]) tYs (fTup (aCons (fOp gIx (fVar 7) (fVar 12)) (aStar (fLc (iSeq (fVar 13)) (.nm 14) tYs (fOp gIx (fVar 7) (fVar 14)) [14]) aNil))) [12, 13]) aNil)))))
abbrev tLf : TF := tB' (fOp gNeA (fVar 8) (fOp gAdd (fCb gMaxL (aCons (fVar 7) aNil)) (fC (.int 1))))
theorem at0_ix {B : List Nat} {i : Nat} (h : i < B.length) : gIx (nsD B) (nD i) = some (nD (Ma.at0 B i)) := gIx_ns h
theorem lf_turn {fa : Addr} (h3 : L ≤ 3) (hn : n ≤ 60) {kvs : List (Key × D)} {K : List Nat} (R : Ma.Reach L n S K) (k : Nat) (m : Nat) (x12 x13 x14 : Option DV) :
    gLfTurn (lfE fa L t S e kvs K (Ma.PB L S e K k) m none x12 x13 x14) = some (.nx (lfE fa L t S e kvs K (Ma.PB L S e K (k + 1)) (Ma.PN L S e K k) none x12 x13 x14)) := by
  have hlen := Ma.PB_len (L := L) (S := S) (ends := e) (K := K) k
  have bk := Ma.PB_blk (L := L) (S := S) (ends := e) (K := K) k
  have hle := Ma.PN_le (ends := e) R k
  have hKn := R.le
  have hKp := R.pos
  have hrow : Ma.PB L S e K (k + 1) = Ma.num [] ((List.range K.length).map (Ma.rowP L S (Ma.at0 (Ma.PB L S e K k)) K)) := by rw [Ma.PB]
  rw [hrow]
  generalize hB : Ma.PB L S e K k = B at *
  generalize hN : Ma.PN L S e K k = N at *
  rw [← hlen] at bk
  obtain ⟨mx, e1, e2⟩ := gMax_blk bk (by omega)
  have a1 : gSet 8 (sP (fOp gAdd (fCb gMaxL (aCons (fVar 7) aNil)) (fC (.int 1)))) (lfE fa L t S e kvs K B m none x12 x13 x14) = some (.nx (lfE fa L t S e kvs K B N none x12 x13 x14)) := by
    refine (gSet_e (sP_e (fOp_e (a := nD mx) (b := nD 1) (fCb_e (aC rfl aN) e1) rfl (gAdd_n _ _))) (by show 8 < 17; omega)).trans ?_
    rw [e2]
    rfl
  have a2 : gIf (sT (tB' (fOp gGt (fVar 8) (fC (.int 60))))) gNever gNil' (lfE fa L t S e kvs K B N none x12 x13 x14) = some (.nx (lfE fa L t S e kvs K B N none x12 x13 x14)) :=
    (gIf_f (sT_e (tB_e (fOp_e (a := nD N) (b := nD 60) rfl rfl ((gGt_n _ _).trans (by rw [decide_eq_false (by omega)])))))).trans rfl
  refine (gSeq_e a1).trans ((gSeq_e a2).trans ((gSet_e (ρ1 := lfE fa L t S e kvs K B N none x12 x13 x14) (sP_e (fCall_e (ds := [.lst (((List.range K.length).map (Ma.rowP L S (Ma.at0 B) K)).map fun r => .tup (r.map nD))]) (aC ?_ aN) (numd_tup (by rw [List.length_map, List.length_range]; omega) (fun z => ?_)))) (by show 7 < 17; omega)).trans rfl))
  · refine (fLc_map (xs := (rowsK L S K K.length).zipIdx) (G := fun p => .tup [nD p.2, nsD p.1]) (F := fun p => .tup ((Ma.rowP L S (Ma.at0 B) K p.2).map nD)) (iEn_l rfl) (by rw [List.length_zipIdx, rowsK_len]; omega) fun p hp => ?_).trans ?_
    · have hx := mem_zip hp
      have hi : p.2 < K.length := by
        have := (List.getElem?_eq_some_iff.mp hx).1
        rw [rowsK_len] at this
        exact this
      have hx2 : p.1 = rowK L S K p.2 := by
        have := rowsK_at (L := L) (S := S) (K := K) hi
        rw [List.getD_eq_getElem?_getD, hx] at this
        exact this
      refine ⟨_, rfl, rfl, fTup_e (ds := (Ma.rowP L S (Ma.at0 B) K p.2).map nD) (aC (fOp_e (a := nsD B) (b := nD p.2) rfl rfl (at0_ix (by omega))) ?_) (by rw [List.length_map]; unfold Ma.rowP; rw [List.length_cons, List.length_map, List.length_range]; omega)⟩
      unfold aStar
      rw [fLc_map (xs := rowK L S K p.2) (G := nD) (F := fun x => nD (Ma.at0 B x)) (iSeq_l (by rw [← hx2]; rfl)) (by unfold rowK; rw [List.length_map, List.length_range]; omega) fun x hx3 => ?_]
      · show some ((rowK L S K p.2).map (fun x => nD (Ma.at0 B x)) ++ []) = some (((List.range L).map fun a => Ma.at0 B (Ma.stp K S p.2 a)).map nD)
        rw [List.append_nil]
        unfold rowK
        rw [List.map_map, List.map_map]
        rfl
      · have hx4 : x < K.length := by
          unfold rowK at hx3
          obtain ⟨a, ha, rfl⟩ := List.mem_map.mp hx3
          exact R.can.cl p.2 a hi (List.mem_range.mp ha)
        exact ⟨_, rfl, rfl, fOp_e (a := nsD B) (b := nD x) rfl rfl (at0_ix (by omega))⟩
    · rw [zip_snd (rowsK L S K K.length) (fun i => D.tup ((Ma.rowP L S (Ma.at0 B) K i).map nD)), rowsK_len, List.map_map]
      rfl
  · have := congrArg List.length z
    rw [List.length_map, List.length_range, List.length_nil] at this
    omega
end
end
end Dv

/-! W2 -/
namespace Dv
noncomputable section
open PySem PySem.Spec PyProof.Rows L2 Evl LamX
theorem nDc_e {it : AF} {tg : Tg} {fk fv : PF} {ow : List Nat} {ρ : En} {ds : List D} {kvs : List (Key × D)} (h1 : it ρ = some ds) (h2 : dcGo tg fk fv (wipeE ρ ow) [] ds = some kvs) : nDc it tg fk fv ow ρ = some (.dic kvs, ρ) := by
  unfold nDc
  rw [h1]
  simp only [h2]
theorem gTgt_e {tg : Tg} {f : SF} {ρ ρ1 ρ2 : En} {d : D} (h1 : f ρ = some (d, ρ1)) (h2 : tg.asg d ρ1 = some ρ2) : gTgt tg f ρ = some (.nx ρ2) := by
  unfold gTgt
  rw [h1]
  simp only [h2]
theorem fCallC_e {js : List Nat} {semOf : List D → SemP} {af : AF} {ρ : En} {cds ds : List D} {rv : RV} (h1 : shAll ρ js = some cds) (h2 : af ρ = some ds) (h3 : semOf cds ds = some rv) : fCallC js semOf af ρ = some (rvD rv) := by
  unfold fCallC
  rw [h1]
  exact fCall_e h2 h3
theorem fFl_n {f : PF} {ρ : En} {x : Nat} (h : f ρ = some (nD x)) : fFl f ρ = some (nD x) := by
  unfold fFl
  rw [h]
  rfl
theorem gSetRet_e {i : Nat} {f1 f2 : PF} {ρ : En} {d1 d2 : D} (h1 : f1 ρ = some d1) (hi : i < ρ.length) (h2 : f2 (ρ.set i (some (.sh d1))) = some d2) : gSetRet i f1 f2 ρ = some (.rt (.sh (.tup [d1, d2])) (ρ.set i (some (.sh d1)))) := by
  unfold gSetRet
  rw [h1]
  simp only [hi, if_true, h2]
theorem map_at {α : Type} (K : List Nat) (f : Nat → α) : K.map f = (List.range K.length).map fun i => f (K.getD i 0) := by
  refine List.ext_getElem (by simp) fun i h1 h2 => ?_
  rw [List.length_map] at h1
  rw [List.getElem_map, List.getElem_map, List.getElem_range, List.getD_eq_getElem?_getD, List.getElem?_eq_getElem h1]
  rfl
section
variable {L n : Nat} {S : Ma.Steps} {t : Bool} {e : List Nat}
theorem lfD_ok (g : Ma.Good L n S) (h3 : L ≤ 3) (hn : n ≤ 60) (he : e.length ≤ 1000) (fa : Addr) : ∃ S' e' ρ', Ma.IsLeast L n S e S' e' ∧ g_lfD fa ((init 17 3 [.sh (nD L), .sh (stT t S), .sh (rowT t e)]).set 3 (some (.sh (.raw (.ref fa))))) = some (.rt (.sh (.tup [stD S', nsD e'])) ρ') := by
  obtain ⟨K, R, ex⟩ := explored_ok (t := t) g (by omega) h3 fa
  have hKn := R.le
  have hKp := R.pos
  let ρ0 : En := [some (.sh (nD L)), some (.sh (stT t S)), some (.sh (rowT t e)), some (.sh (.raw (.ref fa))), none, none, none, none, none, none, none, none, none, none, none, none, none]
  obtain ⟨kvs, d1, d2⟩ := dcGo_ends (tg := .nm 11) (fk := fShr 11) (fv := fC (.bl true)) (ρ := wipeE ρ0 [11]) (fun x => ⟨_, rfl, rfl, rfl⟩) e [] (by rw [List.length_nil]; omega)
  have hk : ∀ s : Nat, (valD kvs (.inl (s : Int))).isSome = decide (s ∈ e) := fun s => by rw [d2]; rfl
  have a1 : gSetN 4 (nDc (iSeq (fVar 2)) (.nm 11) (fShr 11) (fC (.bl true)) [11]) ρ0 = some (.nx [some (.sh (nD L)), some (.sh (stT t S)), some (.sh (rowT t e)), some (.sh (.raw (.ref fa))), some (.own false (.dic kvs)), none, none, none, none, none, none, none, none, none, none, none, none]) :=
    gSetN_e (nDc_e (iSeq_s (t := t) rfl) d1) (by show 4 < 17; omega)
  have a2 : gTgt (.tp [5, 6]) (sP (fCallC [1] (fun cs ds => m_explored fa cs (ds ++ [.non, .non])) (aCons (fC (.int 0)) (aCons (fShr 0) (aCons (fShr 3) aNil))))) [some (.sh (nD L)), some (.sh (stT t S)), some (.sh (rowT t e)), some (.sh (.raw (.ref fa))), some (.own false (.dic kvs)), none, none, none, none, none, none, none, none, none, none, none, none] = some (.nx [some (.sh (nD L)), some (.sh (stT t S)), some (.sh (rowT t e)), some (.sh (.raw (.ref fa))), some (.own false (.dic kvs)), some (.sh (nsD K)), some (.sh (stD (rowsK L S K K.length))), none, none, none, none, none, none, none, none, none, none]) :=
    gTgt_e (sP_e (fCallC_e (cds := [stT t S]) (ds := [nD 0, nD L, .raw (.ref fa)]) (rv := .sh (.tup [nsD K, stD (rowsK L S K K.length)])) rfl rfl ex)) rfl
  have kin : ∀ (s : Nat), gInD (nD s) (.dic kvs) = some (.bl (decide (s ∈ e))) := fun s => by rw [← hk s]; rfl
  have a3 : fCall semNumd (aCons (fLc (iSeq (fVar 5)) (.nm 11) tYs (fOp gInD (fShr 11) (fVar 4)) [11]) aNil) [some (.sh (nD L)), some (.sh (stT t S)), some (.sh (rowT t e)), some (.sh (.raw (.ref fa))), some (.own false (.dic kvs)), some (.sh (nsD K)), some (.sh (stD (rowsK L S K K.length))), none, none, none, none, none, none, none, none, none, none] = some (nsD (Ma.PB L S e K 0)) := by
    rw [Ma.PB]
    refine fCall_e (rv := .sh (nsD _)) (aC ((fLc_map (xs := K) (G := nD) (F := fun s => .bl (decide (s ∈ e))) (iSeq_l rfl) (by omega) fun s hs => ⟨_, rfl, rfl, fOp_e (a := nD s) (b := .dic kvs) rfl rfl (kin s)⟩).trans ?_) aN) (numd_bl (l := (List.range K.length).map (Ma.accP e K)) (by rw [List.length_map, List.length_range]; omega))
    rw [map_at K (fun s => D.bl (decide (s ∈ e))), List.map_map]
    rfl
  have a4 : gPar [7, 8] [.I (sP (fCall semNumd (aCons (fLc (iSeq (fVar 5)) (.nm 11) tYs (fOp gInD (fShr 11) (fVar 4)) [11]) aNil))), .I (sP (fC (.int 0)))] [some (.sh (nD L)), some (.sh (stT t S)), some (.sh (rowT t e)), some (.sh (.raw (.ref fa))), some (.own false (.dic kvs)), some (.sh (nsD K)), some (.sh (stD (rowsK L S K K.length))), none, none, none, none, none, none, none, none, none, none] = some (.nx (lfE fa L t S e kvs K (Ma.PB L S e K 0) 0 none none none none)) := by
    unfold gPar mGo
    rw [sP_e a3]
    rfl
  let mm : Nat → Nat := fun i => match i with | 0 => 0 | k + 1 => Ma.PN L S e K k
  have tst : ∀ i m x12 x13 x14, tLf (lfE fa L t S e kvs K (Ma.PB L S e K i) m none x12 x13 x14) = some (!decide (m = Ma.PN L S e K i)) := fun i m x12 x13 x14 => by
    have hlen := Ma.PB_len (L := L) (S := S) (ends := e) (K := K) i
    have bk := Ma.PB_blk (L := L) (S := S) (ends := e) (K := K) i
    rw [← hlen] at bk
    obtain ⟨mx, e1, e2⟩ := gMax_blk bk (by omega)
    refine tB_e (fOp_e (a := nD m) rfl (fOp_e (a := nD mx) (b := nD 1) (fCb_e (aC rfl aN) e1) rfl (gAdd_n _ _)) ?_)
    rw [e2]
    exact gNe_n _ _
  have mle : ∀ i, mm i ≤ n := fun i => by
    cases i with
    | zero => exact Nat.zero_le n
    | succ k => exact Ma.PN_le R k
  obtain ⟨j, ρ', w, ⟨x12, x13, x14, hj, rfl⟩, hf⟩ := gWh_inv (t := tLf) (g := gLfTurn) (ρ := lfE fa L t S e kvs K (Ma.PB L S e K 0) 0 none none none none) (fun i ρ => ∃ x12 x13 x14 : Option DV, i ≤ mm i ∧ ρ = lfE fa L t S e kvs K (Ma.PB L S e K i) (mm i) none x12 x13 x14) (n + 1) ⟨none, none, none, Nat.le_refl 0, rfl⟩ (by
    rintro i ρ ⟨x12, x13, x14, hi, rfl⟩
    refine ⟨_, tst i (mm i) x12 x13 x14, fun hb => ⟨_, lf_turn h3 hn R i (mm i) x12 x13 x14, x12, x13, x14, ?_, rfl⟩⟩
    have hne : mm i ≠ Ma.PN L S e K i := fun z => by rw [decide_eq_true z] at hb; cases hb
    show i + 1 ≤ Ma.PN L S e K i
    cases i with
    | zero => exact Ma.PN_pos R 0
    | succ k =>
      have h1 : Ma.PN L S e K k ≠ Ma.PN L S e K (k + 1) := hne
      have h2 := Ma.PN_mono (ends := e) R k
      have h4 : k + 1 ≤ Ma.PN L S e K k := hi
      omega)
    (by
    rintro j ρ ⟨x12, x13, x14, hj, rfl⟩ _
    have := mle j
    omega)
  rw [tst] at hf
  have hmm : mm j = Ma.PN L S e K j := by
    rcases Nat.decEq (mm j) (Ma.PN L S e K j) with q | q
    · rw [decide_eq_false q] at hf; cases hf
    · exact q
  cases j with
  | zero =>
    have h1 : 0 = Ma.PN L S e K 0 := hmm
    have := Ma.PN_pos (ends := e) R 0
    omega
  | succ k =>
    have hst : Ma.PN L S e K k = Ma.PN L S e K (k + 1) := hmm
    have lf := Ma.isLF R hst
    have hNn := Ma.PN_le (ends := e) R (k + 1)
    have hw : mm (k + 1) = Ma.PN L S e K (k + 1) := hmm
    rw [hw] at w
    generalize hB : Ma.PB L S e K (k + 1) = B at *
    generalize hN : Ma.PN L S e K (k + 1) = N at *
    have hlen := lf.len
    have bk : Ma.Blk B.length N (Ma.at0 B) := by rw [hlen]; exact lf.blk
    have hix : ∀ b, b < N → B.idxOf b < K.length := fun b hb => by rw [← hlen]; exact List.idxOf_lt_length_of_mem (blk_mem bk hb)
    refine ⟨Ma.LFs L N S K B, Ma.LFe N e K B, (lfE fa L t S e kvs K B N (some (.sh (nsD ((List.range N).map fun b => B.idxOf b)))) x12 x13 x14).set 10 (some (.sh (stD (Ma.LFs L N S K B)))), ⟨⟨N, K, B, lf, rfl, rfl, hNn⟩⟩, ?_⟩
    have b1 : gSet 9 (sP (fLc (iRange (fShr 8)) (.nm 15) tYs (fMt gIdxL (fVar 7) (aCons (fVar 15) aNil)) [15])) (lfE fa L t S e kvs K B N none x12 x13 x14) = some (.nx (lfE fa L t S e kvs K B N (some (.sh (nsD ((List.range N).map fun b => B.idxOf b)))) x12 x13 x14)) := by
      refine (gSet_e (sP_e (fLc_map (xs := List.range N) (G := nD) (F := fun b => nD (B.idxOf b)) (iRange_n (n := N) rfl (by omega)) (by rw [List.length_range]; omega) fun b hb => ⟨_, rfl, rfl, fMt_e (a := nsD B) rfl (aC rfl aN) (gIdx_n (blk_mem bk (List.mem_range.mp hb)))⟩)) (by show 9 < 17; omega)).trans ?_
      show some (Out.nx _) = some (Out.nx [some (.sh (nD L)), some (.sh (stT t S)), some (.sh (rowT t e)), some (.sh (.raw (.ref fa))), some (.own false (.dic kvs)), some (.sh (nsD K)), some (.sh (stD (rowsK L S K K.length))), some (.sh (nsD B)), some (.sh (nD N)), some (.sh (.lst (((List.range N).map fun b => B.idxOf b).map nD))), none, none, x12, x13, x14, none, none])
      rw [List.map_map]
      rfl
    refine (gSeqD_e a1).trans ((gSeqD_e a2).trans ((gSeqD_e a4).trans ((gSeqD_e w).trans ((gSeqD_e b1).trans (gSetRet_e ?_ (by show 10 < 17; omega) ?_)))))
    · refine (fLc_map (xs := (List.range N).map fun b => B.idxOf b) (G := nD) (F := fun f => nsD ((rowK L S K f).map (Ma.at0 B))) (iSeq_l rfl) (by rw [List.length_map, List.length_range]; omega) fun f hf => ⟨_, rfl, rfl, ?_⟩).trans ?_
      · obtain ⟨b, hb, rfl⟩ := List.mem_map.mp hf
        have hb := hix b (List.mem_range.mp hb)
        refine (fLc_map (xs := rowK L S K (B.idxOf b)) (G := nD) (F := fun x => nD (Ma.at0 B x)) (iSeq_l ((fOp_e (a := stD (rowsK L S K K.length)) (b := nD (B.idxOf b)) rfl rfl (gIx_st (by rw [rowsK_len]; exact hb))).trans (by rw [rowsK_at hb]; rfl))) (by unfold rowK; rw [List.length_map, List.length_range]; omega) fun x hx => ⟨_, rfl, rfl, fFl_n (fOp_e (a := nsD B) (b := nD x) rfl rfl (at0_ix ?_))⟩).trans ?_
        · unfold rowK at hx
          obtain ⟨a, ha, rfl⟩ := List.mem_map.mp hx
          rw [hlen]
          exact R.can.cl _ a hb (List.mem_range.mp ha)
        · show _ = some (D.lst (((rowK L S K (B.idxOf b)).map (Ma.at0 B)).map nD))
          rw [List.map_map]
          rfl
      · show _ = some (D.lst ((Ma.LFs L N S K B).map nsD))
        unfold Ma.LFs
        rw [List.map_map, List.map_map]
        congr 2
        refine List.map_congr_left fun b hb => ?_
        show nsD ((rowK L S K (B.idxOf b)).map (Ma.at0 B)) = nsD _
        unfold rowK
        rw [List.map_map]
        rfl
    · refine (fLc_filter (xs := ((List.range N).map fun b => B.idxOf b).zipIdx) (G := fun p => .tup [nD p.2, nD p.1]) (F := fun p => nD p.2) (p := fun p => decide (K.getD p.1 0 ∈ e)) (iEn_l rfl) (by rw [List.length_zipIdx, List.length_map, List.length_range]; omega) fun p hp => ⟨_, rfl, ?_, fun _ => fFl_n rfl⟩).trans ?_
      · have hx := mem_zip hp
        have hm : p.1 ∈ (List.range N).map fun b => B.idxOf b := List.mem_of_getElem? hx
        obtain ⟨b, hb, hbe⟩ := List.mem_map.mp hm
        have hb := hix b (List.mem_range.mp hb)
        rw [hbe] at hb
        exact tB_e (fOp_e (a := nD (K.getD p.1 0)) (b := .dic kvs) (fOp_e (a := nsD K) (b := nD p.1) rfl rfl (gIx_ns hb)) rfl (kin _))
      · have := Ma.zip_filter (p := fun f => decide (K.getD f 0 ∈ e)) ((List.range N).map fun b => B.idxOf b)
        show some (D.lst _) = some (D.lst ((Ma.LFe N e K B).map nD))
        rw [show ((((List.range N).map fun b => B.idxOf b).zipIdx.filter fun p => decide (K.getD p.1 0 ∈ e)).map fun p => nD p.2) = (((((List.range N).map fun b => B.idxOf b).zipIdx.filter fun p => decide (K.getD p.1 0 ∈ e)).map (·.2)).map nD) by rw [List.map_map]; rfl, this, List.length_map, List.length_range]
        unfold Ma.LFe
        congr 3
        refine List.filter_congr fun b hb => ?_
        have hb := List.mem_range.mp hb
        rw [List.getD_eq_getElem?_getD (l := (List.range N).map fun b => B.idxOf b), List.getElem?_map, List.getElem?_range hb]
        rfl
theorem least_form_ok (g : Ma.Good L n S) (h3 : L ≤ 3) (hn : n ≤ 60) (he : e.length ≤ 1000) : ∃ S' e', Ma.IsLeast L n S e S' e' ∧ m_least_form [nD L, stT t S, rowT t e] = some (.sh (.tup [stD S', nsD e'])) := by
  obtain ⟨S', e', ρ', h, _⟩ := lfD_ok (t := t) g h3 hn he 0
  refine ⟨S', e', h, indSem_eq rfl fun fa => ?_⟩
  obtain ⟨S2, e2, ρ2, h2, q⟩ := lfD_ok (t := t) g h3 hn he fa
  obtain ⟨rfl, rfl⟩ := h.uniq h2
  exact ⟨ρ2, q⟩
/-- the constructor -/
theorem iSeqI_e {g : SS} {h : IS} {ρ ρ1 : En} (h1 : g ρ = some (.nx ρ1)) : iSeqI g h ρ = h ρ1 := by
  unfold iSeqI
  rw [h1]
theorem fCallD_e {sem : SemP} {af : AF} {ρ : En} {ds : List D} {d : D} (h1 : af ρ = some ds) (h2 : sem ds = some (.sh d)) : fCallD sem af ρ = some d := by
  unfold fCallD
  rw [h1]
  simp only [h2]
theorem gIfN_e {s : STF} {h : SS} {ρ : En} (h1 : s ρ = some (false, ρ)) : gIf s h gNil' ρ = some (.nx ρ) := (gIf_f h1).trans rfl
theorem init_ok (g : Ma.Good L n S) (h1 : 1 ≤ L) (h3 : L ≤ 3) (hn : n ≤ 12) (hd : e.Nodup) (hl : ∀ x ∈ e, x < n) : ∃ S' e', Ma.IsLeast L n S e S' e' ∧ mI_Machine [nD L, stT t S, rowT t e] = some ([("_letters", nD L), ("_steps", stD S'), ("_ends", nsD e')] : List (Str × D)) ∧ m_Machine [nD L, stT t S, rowT t e] = some (.sh (mD L S' e')) := by
  have he : e.length ≤ n := Ma.nodup_le e n hd hl
  obtain ⟨S', e', h, q⟩ := least_form_ok (t := t) (e := e) g h3 (by omega) (by omega)
  refine ⟨S', e', h, ?_, ?_⟩
  all_goals
    let ρ0 : En := [some (.own true (.ins "Machine" [])), some (.sh (nD L)), some (.sh (stT t S)), some (.sh (rowT t e))]
    let ρ1 : En := [some (.own true (.ins "Machine" [("_letters", nD L)])), some (.sh (nD L)), some (.sh (stT t S)), some (.sh (rowT t e))]
    have a1 : gDrop (sP (fCall m_check_letters (aCons (fShr 1) aNil))) ρ0 = some (.nx ρ0) := gDrop_e (sP_e (fCall_e (aC rfl aN) (check_letters_ok h1 h3)))
    have a2 : gIf (sT (tNt (tTr (fCall m_are_steps (aCons (fShr 1) (aCons (fShr 2) aNil)))))) gNever gNil' ρ0 = some (.nx ρ0) := gIfN_e (sT_e (tNt_e (x := true) (tTr_e (fCall_e (aC rfl (aC rfl aN)) (are_steps_ok g h3 hn)) rfl)))
    have a3 : gIf (sT (tNt (tTr (fCall m_are_unlike_below (aCons (fShr 3) (aCons (fCb gLen (aCons (fVar 2) aNil)) aNil)))))) gNever gNil' ρ0 = some (.nx ρ0) := gIfN_e (sT_e (tNt_e (x := true) (tTr_e (fCall_e (ds := [rowT t e, nD n]) (aC rfl (aC (fCb_e (aC rfl aN) ((gLen_s t _).trans (by rw [List.length_map, g.len]))) aN)) (unlike_ok hd (by omega) hl)) rfl)))
    have a4 : gFld "Machine" "_letters" 0 (sFrz 1) ρ0 = some (.nx ρ1) := rfl
  · have a5 : fCallD m_least_form (aCons (fShr 1) (aCons (fShr 2) (aCons (fShr 3) aNil))) ρ1 = some (.tup [stD S', nsD e']) := fCallD_e (ds := [nD L, stT t S, rowT t e]) rfl q
    show gI_Machine ρ0 = _
    refine (iSeqI_e a1).trans ((iSeqI_e a2).trans ((iSeqI_e a3).trans ((iSeqI_e a4).trans ?_)))
    unfold iLast
    rw [a5]
    rfl
  · have a5 : fCall m_least_form (aCons (fShr 1) (aCons (fShr 2) (aCons (fShr 3) aNil))) ρ1 = some (.tup [stD S', nsD e']) := fCall_e (rv := .sh (.tup [stD S', nsD e'])) (ds := [nD L, stT t S, rowT t e]) rfl q
    have a6 : g_Machine___init__ ρ0 = some (.nx [some (.own true (.ins "Machine" [("_letters", nD L), ("_steps", stD S'), ("_ends", nsD e')])), some (.sh (nD L)), some (.sh (stT t S)), some (.sh (rowT t e))]) := by
      refine (gSeq_e a1).trans ((gSeq_e a2).trans ((gSeq_e a3).trans ((gSeq_e a4).trans ?_)))
      unfold gFld2
      rw [sP_e a5]
      rfl
    have a7 : m_Machine___init__ (.ins "Machine" []) [nD L, stT t S, rowT t e] = some (.sh .non, .ins "Machine" [("_letters", nD L), ("_steps", stD S'), ("_ends", nsD e')]) := by
      unfold m_Machine___init__ runB
      rw [if_pos (show [nD L, stT t S, rowT t e].length + 1 = 4 from rfl), show init 4 4 (DV.own true (.ins "Machine" []) :: [nD L, stT t S, rowT t e].map DV.sh) = ρ0 from rfl, a6]
      rfl
    unfold m_Machine mkSem
    rw [a7]
    rfl
end
end
end Dv

/-! W3 -/
namespace Dv
noncomputable section
open PySem PySem.Spec PyProof.Rows L2 Evl LamX
/-! W3: what is shown; the law's look at a machine. -/
structure Sh (d : D) (p : PyData) (k w : Nat) : Prop where
  py : toPy d = some p
  sh : p.showable = true
  nd : p.hasDict = false
  dp : p.depth ≤ k
  ls : p.leavesShort 8 = true
  wt : p.weight ≤ w
structure ShA (ds : List D) (ps : List PyData) (k w : Nat) : Prop where
  py : toPys ds = some ps
  sh : PyData.showableAll ps = true
  nd : PyData.hasDictAll ps = false
  dp : PyData.depthAll ps ≤ k
  ls : PyData.leavesShortAll 8 ps = true
  wt : PyData.weightAll ps ≤ w
theorem ShA.nil {k : Nat} : ShA [] [] k 0 := ⟨by simp [toPys], by simp [PyData.showableAll], by simp [PyData.hasDictAll], by simp [PyData.depthAll], by simp [PyData.leavesShortAll], by simp [PyData.weightAll]⟩
theorem ShA.cons {d : D} {p : PyData} {ds : List D} {ps : List PyData} {k w v : Nat} (h : Sh d p k w) (g : ShA ds ps k v) : ShA (d :: ds) (p :: ps) k (w + 1 + v) :=
  ⟨by simp [toPys, h.py, g.py], by simp [PyData.showableAll, h.sh, g.sh], by simp [PyData.hasDictAll, h.nd, g.nd], by simp only [PyData.depthAll]; have := h.dp; have := g.dp; omega, by simp [PyData.leavesShortAll, h.ls, g.ls], by simp only [PyData.weightAll]; have := h.wt; have := g.wt; omega⟩
theorem ShA.map {α : Type} {f : α → D} {g : α → PyData} {k w : Nat} : ∀ (l : List α), (∀ x ∈ l, Sh (f x) (g x) k w) → ShA (l.map f) (l.map g) k (l.length * (w + 1))
  | [], _ => by rw [List.length_nil, Nat.zero_mul]; exact .nil
  | x :: l, h => by
    have := ShA.cons (h x List.mem_cons_self) (ShA.map l fun y hy => h y (List.mem_cons_of_mem _ hy))
    rw [List.length_cons, Nat.add_mul, Nat.one_mul, Nat.add_comm]
    exact this
theorem Sh.mono {d : D} {p : PyData} {k w k' w' : Nat} (h : Sh d p k w) (hk : k ≤ k') (hw : w ≤ w') : Sh d p k' w' := ⟨h.py, h.sh, h.nd, Nat.le_trans h.dp hk, h.ls, Nat.le_trans h.wt hw⟩
theorem Sh.lst {ds : List D} {ps : List PyData} {k w : Nat} (g : ShA ds ps k w) : Sh (.lst ds) (.list ps) (k + 1) w :=
  ⟨by simp [toPy, g.py], by simp [PyData.showable, g.sh], by simp [PyData.hasDict, g.nd], by simp only [PyData.depth]; have := g.dp; omega, by simp [PyData.leavesShort, g.ls], by simp only [PyData.weight]; exact g.wt⟩
theorem Sh.tup {ds : List D} {ps : List PyData} {k w : Nat} (g : ShA ds ps k w) : Sh (.tup ds) (.tuple ps) (k + 1) w :=
  ⟨by simp [toPy, g.py], by simp [PyData.showable, g.sh], by simp [PyData.hasDict, g.nd], by simp only [PyData.depth]; have := g.dp; omega, by simp [PyData.leavesShort, g.ls], by simp only [PyData.weight]; exact g.wt⟩
theorem small : ∀ n : Fin 128, (PyData.int ((n.val : Nat) : Int)).showable = true ∧ (PyData.int ((n.val : Nat) : Int)).leavesShort 8 = true ∧ (PyData.int ((n.val : Nat) : Int)).weight ≤ 8 := by decide +kernel
theorem Sh.n {n : Nat} (h : n < 128) : Sh (nD n) (pyN n) 0 8 :=
  have s := small ⟨n, h⟩
  ⟨by simp [nD, pyN, toPy], s.1, by simp [pyN, PyData.hasDict], by simp [pyN, PyData.depth], s.2.1, s.2.2⟩
theorem Sh.ns {l : List Nat} (h : ∀ x ∈ l, x < 128) : Sh (nsD l) (pyNs l) 1 (l.length * 9) := .lst (.map l fun x hx => .n (h x hx))
theorem Sh.st {S : List (List Nat)} (h : ∀ r ∈ S, r.length ≤ 3 ∧ ∀ x ∈ r, x < 128) : Sh (stD S) (pySt S) 2 (S.length * 28) := .lst (.map S fun r hr => (Sh.ns (h r hr).2).mono (Nat.le_refl 1) (by have := (h r hr).1; omega))
theorem gRepr_l {ds : List D} {p : PyData} {k w : Nat} (h : Sh (.lst ds) p k w) (hk : k ≤ 64) (hw : w ≤ 9000) : gRepr [.lst ds] = some (.str p.shown) := by
  have l := PyData.shown_le 8 (by omega) p h.ls
  have := h.wt
  have hz : (8 + 2) * p.weight ≤ 10 * 9000 := Nat.mul_le_mul (Nat.le_refl _) (by omega)
  show (match toPy (.lst ds) with | some p => if p.showable && (!p.hasDict && (decide (p.depth ≤ 64) && szOk p.shown.length)) then some (D.str p.shown) else none | none => none) = _
  rw [h.py]
  simp only [h.sh, h.nd, decide_eq_true (Nat.le_trans h.dp hk), szOk_of (show p.shown.length ≤ 100000 by omega)]
  rfl
theorem gRepr_t {ds : List D} {p : PyData} {k w : Nat} (h : Sh (.tup ds) p k w) (hk : k ≤ 64) (hw : w ≤ 9000) : gRepr [.tup ds] = some (.str p.shown) := by
  have l := PyData.shown_le 8 (by omega) p h.ls
  have := h.wt
  have hz : (8 + 2) * p.weight ≤ 10 * 9000 := Nat.mul_le_mul (Nat.le_refl _) (by omega)
  show (match toPy (.tup ds) with | some p => if p.showable && (!p.hasDict && (decide (p.depth ≤ 64) && szOk p.shown.length)) then some (D.str p.shown) else none | none => none) = _
  rw [h.py]
  simp only [h.sh, h.nd, decide_eq_true (Nat.le_trans h.dp hk), szOk_of (show p.shown.length ≤ 100000 by omega)]
  rfl
theorem gEq_str (x : Str) : gEqA (.str x) (.str x) = some (.bl true) := by
  show some (D.bl (decide (x = x))) = _
  rw [decide_eq_true rfl]
theorem gNe_str (x : Str) : gNeA (.str x) (.str x) = some (.bl false) := by
  show some (D.bl (!decide (x = x))) = _
  rw [decide_eq_true rfl]
  rfl
/-- small enough to be shown -/
structure Sml (S : List (List Nat)) (e : List Nat) : Prop where
  sl : S.length ≤ 100
  row : ∀ r ∈ S, r.length ≤ 3 ∧ ∀ x ∈ r, x < 128
  el : e.length ≤ 100
  en : ∀ x ∈ e, x < 128
theorem repr_pair {S : List (List Nat)} {e : List Nat} (h : Sml S e) : ∃ x, gRepr [.tup [stD S, nsD e]] = some (.str x) :=
  ⟨_, gRepr_t (k := 3) (w := 9000) ((Sh.tup (ShA.cons (k := 2) (Sh.st h.row) (ShA.cons ((Sh.ns h.en).mono (by omega) (Nat.le_refl _)) ShA.nil))).mono (Nat.le_refl _) (by have := h.sl; have := h.el; omega)) (by omega) (Nat.le_refl _)⟩
theorem law_is_ok {L : Nat} {S : List (List Nat)} {e : List Nat} (hL : L < 128) (h : Sml S e) : m_law_is [mD L S e, nD L, .tup [stD S, nsD e]] = some (.sh (.bl true)) := by
  have hT : Sh (.lst [nD L, nD S.length, stD S, nsD e]) _ 3 9000 := (Sh.lst (ShA.cons (k := 2) ((Sh.n hL).mono (by omega) (Nat.le_refl _)) (ShA.cons ((Sh.n (n := S.length) (by have := h.sl; omega)).mono (by omega) (Nat.le_refl _)) (ShA.cons (Sh.st h.row) (ShA.cons ((Sh.ns h.en).mono (by omega) (Nat.le_refl _)) ShA.nil))))).mono (Nat.le_refl _) (by have := h.sl; have := h.el; omega)
  have hR := gRepr_l hT (by omega) (Nat.le_refl _)
  let ρ0 : En := [some (.sh (mD L S e)), some (.sh (nD L)), some (.sh (.tup [stD S, nsD e])), none]
  let ρ1 : En := [some (.sh (mD L S e)), some (.sh (nD L)), some (.sh (.tup [stD S, nsD e])), some (.sh (.lst [nD L, nD S.length, stD S, nsD e]))]
  have a1 : gSet 3 (sP (fLst (aCons (fMeth m_Machine_letters "Machine" "letters" (fShr 0)) (aCons (fMeth m_Machine_states "Machine" "states" (fShr 0)) (aCons (fMeth m_Machine_steps "Machine" "steps" (fShr 0)) (aCons (fMeth m_Machine_ends "Machine" "ends" (fShr 0)) aNil)))))) ρ0 = some (.nx ρ1) :=
    gSet_e (sP_e (fLst_e (ds := [nD L, nD S.length, stD S, nsD e]) (aC (meth_e rfl rfl letters_ok) (aC (meth_e rfl rfl states_ok) (aC (meth_e rfl rfl (steps_ok (by have := h.sl; omega))) (aC (meth_e rfl rfl ends_ok) aN)))) (by show 4 ≤ 100000; omega))) (by show 3 < 4; omega)
  have i0 : fOp gIx (fVar 2) (fC (.int 0)) ρ1 = some (stD S) := fOp_e (a := .tup [stD S, nsD e]) (b := nD 0) rfl rfl (atD rfl)
  have i1 : fOp gIx (fVar 2) (fC (.int 1)) ρ1 = some (nsD e) := fOp_e (a := .tup [stD S, nsD e]) (b := nD 1) rfl rfl (atD rfl)
  have a2 : fLst (aCons (fShr 1) (aCons (fCb gLen (aCons (fOp gIx (fVar 2) (fC (.int 0))) aNil)) (aCons (fOp gIx (fVar 2) (fC (.int 0))) (aCons (fOp gIx (fVar 2) (fC (.int 1))) aNil)))) ρ1 = some (.lst [nD L, nD S.length, stD S, nsD e]) :=
    fLst_e (aC rfl (aC (fCb_e (aC i0 aN) (by rw [stD, gLen_l, List.length_map])) (aC i0 (aC i1 aN)))) (by show 4 ≤ 100000; omega)
  exact runP_e rfl ((gSeq_e a1).trans (gRet_e (sP_e (fOp_e (fCb_e (aC rfl aN) hR) (fCb_e (aC a2 aN) hR) (gEq_str _)))))
end
end Dv

/-! W4 -/
namespace Dv
noncomputable section
open PySem PySem.Spec PyProof.Rows L2 Evl LamX
/-! W4: first words that lead to states; the first word let. -/
theorem zip_abc : ∀ row : List Nat, row.length ≤ 3 → zipSD "abc" (row.map nD) = (List.range row.length).map fun a => .tup [wD [a], nD (row.getD a 0)]
  | [], _ => rfl
  | [_], _ => rfl
  | [_, _], _ => rfl
  | [_, _, _], _ => rfl
  | _ :: _ :: _ :: _ :: _, h => by simp only [List.length_cons] at h; omega
def dW (ws : List (List Nat)) : List (Key × D) := ws.zipIdx.map fun p => ((.inl (p.2 : Int) : Key), wD p.1)
theorem dW_app (ws : List (List Nat)) (w : List Nat) : dW (ws ++ [w]) = dW ws ++ [((.inl (ws.length : Int) : Key), wD w)] := by
  unfold dW
  rw [List.zipIdx_append, List.map_append]
  show _ ++ [((.inl ((0 + ws.length : Nat) : Int) : Key), wD w)] = _
  rw [Nat.zero_add]
theorem dW_len (ws : List (List Nat)) : (dW ws).length = ws.length := by unfold dW; rw [List.length_map, List.length_zipIdx]
theorem dW_find (x : Nat) : ∀ (ws : List (List Nat)) (k : Nat), ((ws.zipIdx k).map fun p => ((.inl (p.2 : Int) : Key), wD p.1)).find? (fun kv => decide (kv.1 = (.inl (x : Int) : Key))) = if k ≤ x ∧ x < k + ws.length then some (.inl (x : Int), wD (ws.getD (x - k) [])) else none
  | [], k => by
    rw [if_neg (by simp)]
    rfl
  | w :: ws, k => by
    rw [List.zipIdx_cons, List.map_cons]
    by_cases h : k = x
    · subst h
      rw [List.find?_cons_of_pos (by simp), if_pos ⟨Nat.le_refl _, by rw [List.length_cons]; omega⟩, Nat.sub_self]
      rfl
    · have hk : ¬ ((Sum.inl (k : Int) : Key) = Sum.inl (x : Int)) := fun e => h (by injection e with e; omega)
      rw [List.find?_cons_of_neg (by simpa using hk), dW_find x ws (k + 1), List.length_cons]
      by_cases q : k ≤ x ∧ x < k + (ws.length + 1)
      · rw [if_pos q, if_pos (by omega), show x - k = (x - (k + 1)) + 1 by omega, List.getD_cons_succ]
      · rw [if_neg q, if_neg (by omega)]
theorem dW_val (ws : List (List Nat)) (x : Nat) : valD (dW ws) (.inl (x : Int)) = if x < ws.length then some (wD (ws.getD x [])) else none := by
  unfold valD dW
  rw [dW_find x ws 0]
  by_cases h : x < ws.length
  · rw [if_pos (by omega), if_pos h]
    rfl
  · rw [if_neg (by omega), if_neg h]
    rfl
theorem dW_put (ws : List (List Nat)) (w : List Nat) : putKD (dW ws) (.inl (ws.length : Int)) (wD w) = dW (ws ++ [w]) := by
  unfold putKD
  rw [← valD_some, dW_val, if_neg (Nat.lt_irrefl _), dW_app]
  rfl
theorem gSetd_in {i : Nat} {fk fv : PF} {ρ : En} {k d : D} {b : Bool} {ds : List (Key × D)} {k' : Key} {y : D} (h1 : fk ρ = some k) (h2 : fv ρ = some d) (h3 : ownD ρ i = some (b, ds)) (h4 : keyD k = some k') (h5 : ds.length + 1 ≤ 100000) (h6 : valD ds k' = some y) : gSetd i fk fv ρ = some (.nx ρ) := by
  unfold gSetd
  rw [h1, h2, h3]
  simp only [h4, szOk_of h5, if_true, h6]
theorem gSetd_out {i : Nat} {fk fv : PF} {ρ : En} {k d : D} {b : Bool} {ds : List (Key × D)} {k' : Key} (h1 : fk ρ = some k) (h2 : fv ρ = some d) (h3 : ownD ρ i = some (b, ds)) (h4 : keyD k = some k') (h5 : ds.length + 1 ≤ 100000) (h6 : valD ds k' = none) : gSetd i fk fv ρ = some (.nx (ρ.set i (some (.own b (.dic (putKD ds k' d)))))) := by
  unfold gSetd
  rw [h1, h2, h3]
  simp only [h4, szOk_of h5, if_true, h6]
/-- what is known of the words when the places ahead of (p, q) have been looked at -/
structure FInv (L n : Nat) (d : Nat → Nat → Nat) (p q : Nat) (ws : List (List Nat)) : Prop where
  pos : 0 < ws.length
  le : ws.length ≤ n
  zero : ws.getD 0 [] = []
  par : ∀ j, 0 < j → j < ws.length → ∃ i a, i < j ∧ a < L ∧ d i a = j ∧ (∀ i' a', a' < L → (i' < i ∨ (i' = i ∧ a' < a)) → d i' a' < j) ∧ ws.getD j [] = ws.getD i [] ++ [a]
  cl : ∀ i a, a < L → (i < p ∨ (i = p ∧ a < q)) → d i a < ws.length
  len : ∀ j, j < ws.length → (ws.getD j []).length ≤ j
section
variable {L n : Nat} {d : Nat → Nat → Nat} {p q : Nat} {ws : List (List Nat)}
theorem FInv.there (I : FInv L n d p q ws) (C : Ma.Can L n d) (hp : p < n) : p < ws.length := by
  rcases Nat.eq_zero_or_pos p with h | h
  · rw [h]; exact I.pos
  · obtain ⟨i, a, h1, h2, h3, _⟩ := C.bf p h hp
    have := I.cl i a h2 (.inl h1)
    rw [h3] at this
    exact this
theorem FInv.old (I : FInv L n d p q ws) (C : Ma.Can L n d) (hp : p < n) (hq : q < L) (h : d p q < ws.length) : FInv L n d p (q + 1) ws :=
  ⟨I.pos, I.le, I.zero, I.par, fun i a ha hi => by
    rcases hi with hi | ⟨rfl, hi⟩
    · exact I.cl i a ha (.inl hi)
    · rcases Nat.lt_succ_iff_lt_or_eq.mp hi with z | z
      · exact I.cl i a ha (.inr ⟨rfl, z⟩)
      · rw [z]; exact h, I.len⟩
theorem FInv.new (I : FInv L n d p q ws) (C : Ma.Can L n d) (hp : p < n) (hq : q < L) (h : ¬ d p q < ws.length) : d p q = ws.length ∧ FInv L n d p (q + 1) (ws ++ [ws.getD p [] ++ [q]]) := by
  have hx := C.cl p q hp hq
  have hpw := I.there C hp
  have hc : ∀ i' a', a' < L → (i' < p ∨ (i' = p ∧ a' < q)) → d i' a' < ws.length := fun i' a' ha' hl => I.cl i' a' ha' hl
  have e : d p q = ws.length := by
    obtain ⟨i, a, h1, h2, h3, h4⟩ := C.bf ws.length I.pos (by omega)
    have hn : ¬ (i < p ∨ (i = p ∧ a < q)) := fun z => by
      have := I.cl i a h2 z
      omega
    by_cases hl : p < i ∨ (p = i ∧ q < a)
    · have := h4 p q hq hl
      omega
    · have e1 : i = p := by omega
      have e2 : a = q := by omega
      rw [← e1, ← e2]
      exact h3
  have gl : ∀ j, j < ws.length → (ws ++ [ws.getD p [] ++ [q]]).getD j [] = ws.getD j [] := fun j hj => by
    simp only [List.getD_eq_getElem?_getD, List.getElem?_append_left hj]
  have gn : (ws ++ [ws.getD p [] ++ [q]]).getD ws.length [] = ws.getD p [] ++ [q] := by
    rw [List.getD_eq_getElem?_getD, List.getElem?_append_right (Nat.le_refl _), Nat.sub_self]
    rfl
  have hl : (ws ++ [ws.getD p [] ++ [q]]).length = ws.length + 1 := by rw [List.length_append]; rfl
  refine ⟨e, ⟨by omega, by omega, by rw [gl 0 I.pos]; exact I.zero, fun j h0 hj => ?_, fun i a ha hi => ?_, fun j hj => ?_⟩⟩
  · rw [hl] at hj
    rcases Nat.lt_succ_iff_lt_or_eq.mp hj with z | z
    · obtain ⟨i, a, h1, h2, h3, h4, h5⟩ := I.par j h0 z
      exact ⟨i, a, h1, h2, h3, h4, by rw [gl j z, gl i (by omega), h5]⟩
    · subst z
      exact ⟨p, q, hpw, hq, e, hc, by rw [gn, gl p hpw]⟩
  · rw [hl]
    rcases hi with hi | ⟨rfl, hi⟩
    · have := I.cl i a ha (.inl hi)
      omega
    · rcases Nat.lt_succ_iff_lt_or_eq.mp hi with z | z
      · have := I.cl i a ha (.inr ⟨rfl, z⟩)
        omega
      · rw [z, e]; omega
  · rw [hl] at hj
    rcases Nat.lt_succ_iff_lt_or_eq.mp hj with z | z
    · rw [gl j z]; exact I.len j z
    · subst z
      rw [gn, List.length_append]
      have := I.len p hpw
      show (ws.getD p []).length + 1 ≤ _
      omega
theorem FInv.up (I : FInv L n d p L ws) : FInv L n d (p + 1) 0 ws :=
  ⟨I.pos, I.le, I.zero, I.par, fun i a ha hi => by
    rcases hi with hi | ⟨_, hi⟩
    · rcases Nat.lt_succ_iff_lt_or_eq.mp hi with z | z
      · exact I.cl i a ha (.inl z)
      · exact I.cl i a ha (.inr ⟨z, ha⟩)
    · omega, I.len⟩
theorem FInv.fw (I : FInv L n d n 0 ws) (C : Ma.Can L n d) : Ma.FW L n d ws := by
  have hl : ws.length = n := by
    rcases Nat.lt_or_ge ws.length n with h | h
    · exfalso
      obtain ⟨i, a, h1, h2, h3, _⟩ := C.bf ws.length I.pos h
      have := I.cl i a h2 (.inl (by omega))
      omega
    · have := I.le
      omega
  exact ⟨hl, I.zero, fun j h0 hj => I.par j h0 (by omega)⟩
theorem FInv.start (hn : 0 < n) : FInv L n d 0 0 [[]] := ⟨by simp, hn, rfl, fun j h0 hj => by simp at hj; omega, fun i a ha hi => by omega, fun j hj => by simp at hj; subst hj; exact Nat.le_refl 0⟩
end
def fwE (S : Ma.Steps) (ws : List (List Nat)) (x2 x3 x4 x5 : Option DV) : En := [some (.sh (stD S)), some (.own false (.dic (dW ws))), x2, x3, x4, x5]
theorem first_words_to_ok {L n : Nat} {S : Ma.Steps} (g : Ma.Good L n S) (C : Ma.Can L n (Ma.nx S)) (hn : n ≤ 1000) (h3 : L ≤ 3) : ∃ ws, Ma.FW L n (Ma.nx S) ws ∧ m_first_words_to [stD S] = some (.sh (wsD ws)) ∧ ∀ j, j < n → (ws.getD j []).length ≤ j := by
  have hin := forGo_inv (tg := .tp [2, 3]) (G := fun p : List Nat × Nat => .tup [nD p.2, nsD p.1]) (g := gFor (iZs (fC (.str "abc")) (fShr 3)) (.tp [4, 5]) (gSetd 1 (fShr 5) (fOp gAdd (fOp gGetD (fVar 1) (fShr 2)) (fVar 4))))
    (fun p ρ => ∃ (ws : List (List Nat)) (x2 x3 x4 x5 : Option DV), FInv L n (Ma.nx S) p 0 ws ∧ ρ = fwE S ws x2 x3 x4 x5) S.zipIdx 0 (fwE S [[]] none none none none) ⟨[[]], none, none, none, none, FInv.start g.pos, rfl⟩ (by
    rintro p hp ρ ⟨ws, x2, x3, x4, x5, I, rfl⟩
    rw [Nat.zero_add] at I ⊢
    rw [List.length_zipIdx] at hp
    have hpn : p < n := by rw [← g.len]; exact hp
    rw [List.getElem_zipIdx, Nat.zero_add]
    have hrow : S[p] = S.getD p [] := by rw [List.getD_eq_getElem?_getD, List.getElem?_eq_getElem hp]; rfl
    have hL : S[p].length = L := by rw [hrow]; exact (g.at hpn).1
    have hloop := forGo_inv (tg := .tp [4, 5]) (G := fun a => .tup [wD [a], nD (S[p].getD a 0)]) (g := gSetd 1 (fShr 5) (fOp gAdd (fOp gGetD (fVar 1) (fShr 2)) (fVar 4)))
      (fun q ρ => ∃ (ws : List (List Nat)) (x4 x5 : Option DV), FInv L n (Ma.nx S) p q ws ∧ ρ = fwE S ws (some (.sh (nD p))) (some (.sh (nsD S[p]))) x4 x5) (List.range L) 0 (fwE S ws (some (.sh (nD p))) (some (.sh (nsD S[p]))) x4 x5) ⟨ws, x4, x5, I, rfl⟩ (by
      rintro q hq ρ ⟨ws, x4, x5, I, rfl⟩
      rw [Nat.zero_add] at I ⊢
      rw [List.length_range] at hq
      rw [List.getElem_range]
      have hpw := I.there C hpn
      have hx : S[p].getD q 0 = Ma.nx S p q := by rw [hrow]; rfl
      rw [hx]
      let ρ1 : En := fwE S ws (some (.sh (nD p))) (some (.sh (nsD S[p]))) (some (.sh (wD [q]))) (some (.sh (nD (Ma.nx S p q))))
      have hlen := I.len p hpw
      have hle := I.le
      have e1 : fOp gAdd (fOp gGetD (fVar 1) (fShr 2)) (fVar 4) ρ1 = some (wD (ws.getD p [] ++ [q])) :=
        fOp_e (fOp_e (a := .dic (dW ws)) (b := nD p) rfl rfl (show valD (dW ws) (.inl (p : Int)) = _ by rw [dW_val, if_pos hpw])) rfl (gAdd_w (by show (ws.getD p []).length + 1 ≤ 100000; omega))
      by_cases h : Ma.nx S p q < ws.length
      · exact ⟨ρ1, ρ1, rfl, gSetd_in (k := nD (Ma.nx S p q)) (k' := .inl ((Ma.nx S p q : Nat) : Int)) rfl e1 rfl rfl (by rw [dW_len]; omega) (by rw [dW_val, if_pos h]), ws, _, _, I.old C hpn hq h, rfl⟩
      · obtain ⟨e, I'⟩ := I.new C hpn hq h
        refine ⟨ρ1, _, rfl, gSetd_out (k := nD (Ma.nx S p q)) (k' := .inl ((Ma.nx S p q : Nat) : Int)) rfl e1 rfl rfl (by rw [dW_len]; omega) (by rw [dW_val, if_neg h]), ws ++ [ws.getD p [] ++ [q]], some (.sh (wD [q])), some (.sh (nD (Ma.nx S p q))), I', ?_⟩
        rw [e, dW_put]
        show fwE S _ _ _ _ _ = fwE S _ _ _ _ _
        rw [← e])
    obtain ⟨ρ2, e2, ws2, y4, y5, I2, rfl⟩ := hloop
    rw [List.length_range, Nat.zero_add] at I2
    refine ⟨_, _, rfl, (gFor_e (ds := (List.range L).map fun a => .tup [wD [a], nD (S[p].getD a 0)]) ?_).trans e2, ws2, _, _, _, _, I2.up, rfl⟩
    show some (zipSD "abc" (S[p].map nD)) = _
    rw [zip_abc _ (by omega), hL])
  obtain ⟨ρ', e, ws, x2, x3, x4, x5, I, rfl⟩ := hin
  rw [List.length_zipIdx, Nat.zero_add, g.len] at I
  have F := I.fw C
  have hl := F.len
  refine ⟨ws, F, ?_, fun j hj => I.len j (by omega)⟩
  refine runP_e rfl ((gSeq_e (ρ1 := fwE S [[]] none none none none) rfl).trans ((gSeq_e ((gFor_e (iEn_l rfl)).trans e)).trans (gRet_e (sP_e ((fLc_map (xs := List.range n) (G := nD) (F := fun j => wD (ws.getD j [])) (iRange_n (fCb_e (aC rfl aN) (by rw [stD, gLen_l, List.length_map, g.len])) (by omega)) (by rw [List.length_range]; omega) fun j hj => ⟨_, rfl, rfl, fOp_e (a := .dic (dW ws)) (b := nD j) rfl rfl (show valD (dW ws) (.inl (j : Int)) = _ by rw [dW_val, if_pos (by have := List.mem_range.mp hj; omega)])⟩).trans ?_)))))
  show some (D.lst _) = some (D.lst (ws.map wD))
  congr 2
  refine List.ext_getElem (by simp [hl]) fun i h1 h2 => ?_
  rw [List.length_map] at h2
  rw [List.getElem_map, List.getElem_map, List.getElem_range, List.getD_eq_getElem?_getD, List.getElem?_eq_getElem h2]
  rfl
def fstD (e : List Nat) (ws : List (List Nat)) : D := match e with
  | [] => .non
  | x :: _ => wD (ws.getD x [])
theorem shortest_ok {L n : Nat} {S : Ma.Steps} {e : List Nat} (g : Ma.Good L n S) (C : Ma.Can L n (Ma.nx S)) (hn : n ≤ 1000) (h3 : L ≤ 3) (he : ∀ x ∈ e, x < n) : ∃ ws, Ma.FW L n (Ma.nx S) ws ∧ (∀ j, j < n → (ws.getD j []).length ≤ j) ∧ m_shortest [mD L S e] = some (.sh (fstD e ws)) := by
  obtain ⟨ws, F, q, hl⟩ := first_words_to_ok g C hn h3
  refine ⟨ws, F, hl, runP_e (ρ1 := [some (.sh (mD L S e)), some (.sh (nsD e))]) rfl ((gSeq_e (gDrop_e (sP_e (fCall_e (aC rfl aN) check_machine_ok)))).trans ((gSeq_e (gSet_e (sP_e (meth_e (rv := .sh (nsD e)) rfl rfl ends_ok)) (by show 1 < 2; omega))).trans (gRet_e (sP_e ?_))))⟩
  cases e with
  | nil => exact fIf_f rfl
  | cons x e =>
    have hx := he x List.mem_cons_self
    refine (fIf_t rfl).trans (fOp_e (a := wsD ws) (b := nD x) (fCall_e (ds := [stD S]) (rv := .sh (wsD ws)) (aC (meth_e (rv := .sh (stD S)) (L := L) (S := S) (e := x :: e) rfl rfl (steps_ok (by rw [g.len]; omega))) aN) q) (fOp_e (a := nsD (x :: e)) (b := nD 0) rfl rfl (gIx_ns (by simp))) ?_)
    have hlt : x < ws.length := by rw [F.len]; exact hx
    show gIx (.lst (ws.map wD)) (nD x) = _
    rw [gIx_map hlt]
    show _ = some (wD (ws.getD x []))
    rw [List.getD_eq_getElem?_getD, List.getElem?_eq_getElem hlt]
    rfl
end
end Dv

/-! W5 -/
namespace Dv
noncomputable section
open PySem PySem.Spec PyProof.Rows L2 Evl LamX
/-! W5: the law's look at the words. -/
theorem can_word {L n : Nat} {d : Nat → Nat → Nat} (C : Ma.Can L n d) : ∀ j, j < n → ∃ w, Ma.Ok L w ∧ Ma.run d 0 w = j := by
  intro j
  induction j using Nat.strongRecOn with
  | _ j ih =>
    intro hj
    by_cases h0 : j = 0
    · subst h0; exact ⟨[], Ma.Ok.nil, rfl⟩
    · obtain ⟨i, a, h1, h2, h3, _⟩ := C.bf j (Nat.pos_of_ne_zero h0) hj
      obtain ⟨w, w1, w2⟩ := ih i h1 (Nat.lt_trans h1 hj)
      exact ⟨w ++ [a], w1.app h2, by rw [Ma.run_snoc, w2, h3]⟩
theorem ok3 {L : Nat} (h3 : L ≤ 3) {w : List Nat} (h : Ma.Ok L w) : Ma.Ok 3 w := fun a ha => Nat.lt_of_lt_of_le (h a ha) h3
theorem gNe_bb (a : Bool) : gNeA (.bl a) (.bl a) = some (.bl false) := by cases a <;> exact (gNeA_py (Py.bl _) (Py.bl _) rfl (by omega) (by omega)).trans (by simp [PyData.eqv])
theorem aPick_e {is : List Nat} {af : AF} {ρ : En} {ds es : List D} (h : af ρ = some ds) (he : pick is ds = es) : aPick is af ρ = some es := by
  unfold aPick
  rw [h]
  exact congrArg some he
theorem fSl_to {f fo : PF} {ρ : En} {ds : List D} {k : Nat} (h : f ρ = some (.lst ds)) (ho : fo ρ = some (nD k)) (hk : k ≤ ds.length) : fSl f oNo (oAt fo) ρ = some (.lst (ds.take k)) := by
  have e : oAt fo ρ = some (some (k : Int)) := by
    unfold oAt
    rw [ho]
    rfl
  unfold fSl
  rw [h, e]
  show some (D.lst (cutD ds none (some (k : Int)))) = _
  unfold cutD
  rw [HT.sIx_none, HT.sIx_nat, List.drop_zero, Nat.sub_zero, Nat.min_eq_left hk]
theorem fSl_from {f fo : PF} {ρ : En} {ds : List D} {k : Nat} (h : f ρ = some (.lst ds)) (ho : fo ρ = some (nD k)) (hk : k ≤ ds.length) : fSl f (oAt fo) oNo ρ = some (.lst (ds.drop k)) := by
  have e : oAt fo ρ = some (some (k : Int)) := by
    unfold oAt
    rw [ho]
    rfl
  unfold fSl
  rw [h, e]
  show some (D.lst (cutD ds (some (k : Int)) none)) = _
  unfold cutD
  rw [HT.sIx_none, HT.sIx_nat, Nat.min_eq_left hk, ← List.length_drop, List.take_length]
theorem tOr_ff {t u : TF} {ρ : En} (h1 : t ρ = some false) (h2 : u ρ = some false) : tOr' t u ρ = some false := (tOr_f h1).trans h2
section
variable {L n : Nat} {S S' : Ma.Steps} {e e' : List Nat}
theorem reach_word (g : Ma.Good L n S) {k : Nat} (hk : k ∈ Ma.keys n S) : ∃ w, Ma.Ok L w ∧ Ma.run (Ma.nx S) 0 w = k := by
  have R := Ma.keys_ok g
  obtain ⟨j, hj, e⟩ := List.getElem_of_mem hk
  obtain ⟨w, w1, w2⟩ := can_word R.can j hj
  refine ⟨w, w1, ?_⟩
  have := (Ma.run_key R w 0 R.pos w1).1
  rw [R.hd, w2, List.getD_eq_getElem?_getD, List.getElem?_eq_getElem hj] at this
  rw [this]
  exact e
theorem word_reach (g : Ma.Good L n S) {w : List Nat} (hw : Ma.Ok L w) : Ma.run (Ma.nx S) 0 w ∈ Ma.keys n S := by
  have R := Ma.keys_ok g
  have := Ma.run_key R w 0 R.pos hw
  rw [R.hd] at this
  rw [this.1]
  exact Ma.key_mem this.2
theorem empty_iff (g : Ma.Good L n S) (h : Ma.IsLeast L n S e S' e') : decide (e' = []) = decide ((Ma.keys n S).filter (fun s => decide (s ∈ e)) = []) := by
  have key : e' = [] ↔ (Ma.keys n S).filter (fun s => decide (s ∈ e)) = [] := by
    rw [List.filter_eq_nil_iff]
    constructor
    · intro h0 k hk
      obtain ⟨w, w1, w2⟩ := reach_word g hk
      have := h.lets w1
      rw [h0, w2] at this
      unfold Ma.accS at this
      rw [← this]
      simp
    · intro h0
      cases he : e' with
      | nil => rfl
      | cons x r =>
        exfalso
        have hx : x ∈ e' := by rw [he]; exact List.mem_cons_self
        have hlt := h.rise.2 x hx
        obtain ⟨w, w1, w2⟩ := can_word h.can x hlt
        have h1 := h.lets w1
        unfold Ma.accS at h1
        rw [w2, decide_eq_true hx] at h1
        exact h0 _ (word_reach g w1) h1.symm
  by_cases q : e' = []
  · rw [decide_eq_true q, decide_eq_true (key.mp q)]
  · rw [decide_eq_false q, decide_eq_false (fun z => q (key.mpr z))]
def wrE (L : Nat) (S : Ma.Steps) (e : List Nat) (S' : Ma.Steps) (e' : List Nat) (x5 x6 x7 x8 : Option DV) : En := [some (.sh (.tup [stD S, nsD e])), some (.sh (nD L)), some (.sh (mD L S' e')), some (.sh (stD S)), some (.sh (nsD e)), x5, x6, x7, x8, none, none]
theorem words_right_ok (g : Ma.Good L n S) (h1 : 1 ≤ L) (h3 : L ≤ 3) (hn : n ≤ 12) (h : Ma.IsLeast L n S e S' e') : m_law_words_right [.tup [stD S, nsD e], nD L, mD L S' e'] = some (.sh (.bl true)) := by
  obtain ⟨g', hn'⟩ := h.good
  have hK : (Ma.keys n S).length ≤ n := (Ma.keys_ok g).le
  let p : List Nat → Bool := fun w => decide (Ma.run (Ma.nx S) 0 w ∈ e)
  let p' : List Nat → Bool := fun w => decide (Ma.run (Ma.nx S') 0 w ∈ e')
  have hp : ∀ w, Ma.Ok L w → p' w = p w := fun w hw => h.lets hw
  have l4 := Ma.WT_len h3 4 (by omega)
  have okW : ∀ k, ∀ w ∈ Ma.WT L k, Ma.Ok L w := fun k w hw => ((Ma.mem_WT k w).mp hw).1
  have fc : ∀ k, (Ma.WT L k).filter p' = (Ma.WT L k).filter p := fun k => List.filter_congr fun w hw => hp w (okW k w hw)
  let due : List (List Nat) := (Ma.WT L 4).filter p
  have dl : due.length ≤ 100000 := Nat.le_trans (List.length_filter_le _ _) (by omega)
  have okD : ∀ w ∈ due, Ma.Ok 3 w := fun w hw => ok3 h3 (okW 4 w (List.mem_filter.mp hw).1)
  have okWT : ∀ k, ∀ w ∈ Ma.WT L k, Ma.Ok 3 w := fun k w hw => ok3 h3 (okW k w hw)
  have ne_same : ∀ (T : List (List Nat)), (∀ w ∈ T, Ma.Ok 3 w) → gNeA (wsD T) (wsD T) = some (.bl false) := fun T hT => (gNe_ws hT hT).trans (by rw [decide_eq_true rfl]; rfl)
  let E := wrE L S e S' e'
  have a1 : gTgt (.tp [3, 4]) (sFrz 0) (init 11 3 [.sh (.tup [stD S, nsD e]), .sh (nD L), .sh (mD L S' e')]) = some (.nx (E none none none none)) := rfl
  have a2 : gSet 5 (sP (fCall m_law_words (aCons (fShr 1) (aCons (fC (.int 4)) aNil)))) (E none none none none) = some (.nx (E (some (.sh (wsD (Ma.WT L 4)))) none none none)) :=
    gSet_e (sP_e (fCall_e (ds := [nD L, nD 4]) rfl (law_words_ok h3 (by omega)))) (by show 5 < 11; omega)
  have a3 : gSet 6 (sP (fLc (iSeq (fVar 5)) (.nm 9) (tB' (fOp gIn (fCall m_law_led (aCons (fShr 3) (aCons (fShr 9) aNil))) (fVar 4))) (fShr 9) [9])) (E (some (.sh (wsD (Ma.WT L 4)))) none none none) = some (.nx (E (some (.sh (wsD (Ma.WT L 4)))) (some (.sh (wsD due))) none none)) :=
    gSet_e (sP_e (fLc_filter (xs := Ma.WT L 4) (G := wD) (F := wD) (p := p) (iSeq_l rfl) (by omega) fun w hw => ⟨_, rfl, tB_e (fOp_e (fCall_e (aC rfl (aC rfl aN)) (law_led_ok g h3 (okW 4 w hw))) rfl (gIn_n _ _)), fun _ => rfl⟩)) (by show 6 < 11; omega)
  let ρ1 : En := E (some (.sh (wsD (Ma.WT L 4)))) (some (.sh (wsD due))) none none
  have b1 : tB' (fOp gNeA (fLc (iSeq (fVar 5)) (.nm 9) (tTr (fCall m_lets (aCons (fShr 2) (aCons (fShr 9) aNil)))) (fShr 9) [9]) (fVar 6)) ρ1 = some false := by
    refine tB_e (fOp_e (a := wsD due) (b := wsD due) ((fLc_filter (xs := Ma.WT L 4) (G := wD) (F := wD) (p := p') (iSeq_l rfl) (by omega) fun w hw => ⟨_, rfl, tTr_e (fCall_e (aC rfl (aC rfl aN)) (lets_ok g' (by omega) h3 (okW 4 w hw) (by have := ((Ma.mem_WT 4 w).mp hw).2; omega))) rfl, fun _ => rfl⟩).trans ?_) rfl (ne_same due okD))
    rw [fc 4]
    rfl
  have b2 : tB' (fOp gNeA (fCall m_words_of (aCons (fShr 2) (aCons (fC (.int 4)) aNil))) (fVar 6)) ρ1 = some false := by
    refine tB_e (fOp_e (a := wsD due) (b := wsD due) ((fCall_e (ds := [mD L S' e', nD 4]) rfl (words_of_ok g' (by omega) h1 h3 (by omega))).trans ?_) rfl (ne_same due okD))
    show some (wsD ((Ma.WT L 4).filter p')) = _
    rw [fc 4]
  have a4 : gIf (sT (tOr' (tB' (fOp gNeA (fLc (iSeq (fVar 5)) (.nm 9) (tTr (fCall m_lets (aCons (fShr 2) (aCons (fShr 9) aNil)))) (fShr 9) [9]) (fVar 6))) (tB' (fOp gNeA (fCall m_words_of (aCons (fShr 2) (aCons (fC (.int 4)) aNil))) (fVar 6))))) (gRet (sP (fC (.bl false)))) gNil' ρ1 = some (.nx ρ1) := (gIf_f (sT_e (tOr_ff b1 b2))).trans rfl
  have hd2 : due.filter (fun w => decide (w.length < 3)) = (Ma.WT L 2).filter p := by
    have f1 : ∀ k, 3 ≤ k → ((Ma.WL L k).filter p).filter (fun w => decide (w.length < 3)) = [] := fun k hk => List.filter_eq_nil_iff.mpr fun w hw => by
      have := ((Ma.mem_WL k w).mp (List.mem_filter.mp hw).1).2
      simp
      omega
    have f2 : ((Ma.WT L 2).filter p).filter (fun w => decide (w.length < 3)) = (Ma.WT L 2).filter p := List.filter_eq_self.mpr fun w hw => by
      have := ((Ma.mem_WT 2 w).mp (List.mem_filter.mp hw).1).2
      simp
      omega
    show ((Ma.WT L 2 ++ Ma.WL L 3 ++ Ma.WL L 4).filter p).filter (fun w => decide (w.length < 3)) = _
    rw [List.filter_append, List.filter_append, List.filter_append, List.filter_append, f1 3 (by omega), f1 4 (by omega), f2, List.append_nil, List.append_nil]
  have b3 : tB' (fOp gNeA (fCall m_words_of (aPick [1, 0] (aCons (fC (.int 2)) (aCons (fShr 2) aNil)))) (fLc (iSeq (fVar 6)) (.nm 9) (tB' (fOp gLt (fCb gLen (aCons (fVar 9) aNil)) (fC (.int 3)))) (fShr 9) [9])) ρ1 = some false := by
    refine tB_e (fOp_e (a := wsD ((Ma.WT L 2).filter p)) (b := wsD ((Ma.WT L 2).filter p)) ((fCall_e (ds := [mD L S' e', nD 2]) rfl (words_of_ok g' (by omega) h1 h3 (by omega))).trans ?_) ((fLc_filter (xs := due) (G := wD) (F := wD) (p := fun w => decide (w.length < 3)) (iSeq_l rfl) dl fun w hw => ⟨_, rfl, tB_e (fOp_e (a := nD w.length) (b := nD 3) (fCb_e (aC rfl aN) (gLen_w ?_)) rfl (gLt_n _ _)), fun _ => rfl⟩).trans ?_) (ne_same _ fun w hw => okWT 2 w (List.mem_filter.mp hw).1))
    · show some (wsD ((Ma.WT L 2).filter p')) = _
      rw [fc 2]
    · have := ((Ma.mem_WT 4 w).mp (List.mem_filter.mp hw).1).2
      omega
    · rw [hd2]
      rfl
  have a5 : gIf (sT (tB' (fOp gNeA (fCall m_words_of (aPick [1, 0] (aCons (fC (.int 2)) (aCons (fShr 2) aNil)))) (fLc (iSeq (fVar 6)) (.nm 9) (tB' (fOp gLt (fCb gLen (aCons (fVar 9) aNil)) (fC (.int 3)))) (fShr 9) [9])))) (gRet (sP (fC (.bl false)))) gNil' ρ1 = some (.nx ρ1) := (gIf_f (sT_e b3)).trans rfl
  have hw1 : (Ma.WT L 4).take (L + 1) = Ma.WT L 1 ∧ L + 1 ≤ (Ma.WT L 4).length := by
    have e1 : (Ma.WT L 1).length = L + 1 := by
      show ([[]] ++ [[]].flatMap fun w => (List.range L).map fun a => w ++ [a]).length = L + 1
      simp
    have e2 : Ma.WT L 4 = Ma.WT L 1 ++ (Ma.WL L 2 ++ Ma.WL L 3 ++ Ma.WL L 4) := by
      show Ma.WT L 1 ++ Ma.WL L 2 ++ Ma.WL L 3 ++ Ma.WL L 4 = _
      simp only [List.append_assoc]
    rw [e2]
    refine ⟨?_, by rw [List.length_append, e1]; omega⟩
    rw [← e1, List.take_left]
  have b4 : tB' (fOp gNeA (fCall m_first_words (aCons (fShr 1) (aCons (fC (.int 4)) aNil))) (fVar 5)) ρ1 = some false :=
    tB_e (fOp_e (a := wsD (Ma.WT L 4)) (b := wsD (Ma.WT L 4)) (fCall_e (ds := [nD L, nD 4]) rfl (first_words_ok h1 h3 (by omega))) rfl (ne_same _ (okWT 4)))
  have b5 : tB' (fOp gNeA (fCall m_first_words (aPick [1, 0] (aCons (fC (.int 1)) (aCons (fShr 1) aNil)))) (fSl (fVar 5) oNo (oAt (fOp gAdd (fVar 1) (fC (.int 1)))))) ρ1 = some false := by
    refine tB_e (fOp_e (a := wsD (Ma.WT L 1)) (b := wsD (Ma.WT L 1)) (fCall_e (ds := [nD L, nD 1]) rfl (first_words_ok h1 h3 (by omega))) ((fSl_to (k := L + 1) (ds := (Ma.WT L 4).map wD) rfl (fOp_e (a := nD L) (b := nD 1) rfl rfl (gAdd_n _ _)) (by rw [List.length_map]; exact hw1.2)).trans ?_) (ne_same _ (okWT 1)))
    rw [← List.map_take, hw1.1]
    rfl
  have a6 : gIf (sT (tOr' (tB' (fOp gNeA (fCall m_first_words (aCons (fShr 1) (aCons (fC (.int 4)) aNil))) (fVar 5))) (tB' (fOp gNeA (fCall m_first_words (aPick [1, 0] (aCons (fC (.int 1)) (aCons (fShr 1) aNil)))) (fSl (fVar 5) oNo (oAt (fOp gAdd (fVar 1) (fC (.int 1))))))))) (gRet (sP (fC (.bl false)))) gNil' ρ1 = some (.nx ρ1) := (gIf_f (sT_e (tOr_ff b4 b5))).trans rfl
  let ρ2 : En := E (some (.sh (wsD (Ma.WT L 4)))) (some (.sh (wsD due))) (some (.sh (nsD (Ma.keys n S)))) none
  have a7 : gSet 7 (sP (fCall m_law_reached (aCons (fShr 3) aNil))) ρ1 = some (.nx ρ2) := gSet_e (sP_e (fCall_e (ds := [stD S]) rfl (law_reached_ok g (by omega) h3))) (by show 7 < 11; omega)
  have b6 : tB' (fOp gNeA (fCall m_is_empty (aCons (fShr 2) aNil)) (fOp gEqA (fLc (iSeq (fVar 7)) (.nm 10) (tB' (fOp gIn (fVar 10) (fVar 4))) (fShr 10) [10]) (fLst aNil))) ρ2 = some false := by
    refine tB_e (fOp_e (fCall_e (ds := [mD L S' e']) rfl is_empty_ok) (fOp_e (a := nsD ((Ma.keys n S).filter fun s => decide (s ∈ e))) (b := nsD []) (fLc_filter (xs := Ma.keys n S) (G := nD) (F := nD) (p := fun s => decide (s ∈ e)) (iSeq_l rfl) (by omega) fun s hs => ⟨_, rfl, tB_e (fOp_e (a := nD s) (b := nsD e) rfl rfl (gIn_n _ _)), fun _ => rfl⟩) rfl (gEq_ns _ _)) ?_)
    rw [← empty_iff g h]
    exact gNe_bb _
  have a8 : gIf (sT (tB' (fOp gNeA (fCall m_is_empty (aCons (fShr 2) aNil)) (fOp gEqA (fLc (iSeq (fVar 7)) (.nm 10) (tB' (fOp gIn (fVar 10) (fVar 4))) (fShr 10) [10]) (fLst aNil))))) (gRet (sP (fC (.bl false)))) gNil' ρ2 = some (.nx ρ2) := (gIf_f (sT_e b6)).trans rfl
  obtain ⟨ws, F, wl, sh⟩ := shortest_ok (e := e') g' h.can (by omega) h3 h.rise.2
  let ρ3 : En := E (some (.sh (wsD (Ma.WT L 4)))) (some (.sh (wsD due))) (some (.sh (nsD (Ma.keys n S)))) (some (.sh (fstD e' ws)))
  have a9 : gSet 8 (sP (fCall m_shortest (aPick [0] (aCons (fShr 2) aNil)))) ρ2 = some (.nx ρ3) := gSet_e (sP_e (fCall_e (ds := [mD L S' e']) rfl sh)) (by show 8 < 11; omega)
  have c1 : tB' (fOp gNeA (fVar 6) (fLst aNil)) ρ3 = some (!decide (due = [])) := tB_e (fOp_e (a := wsD due) (b := wsD []) rfl rfl (gNe_ws okD (by simp)))
  refine runP_e (rv := .sh (.bl true)) (ρ1 := ρ3) rfl ((gSeq_e a1).trans ((gSeq_e a2).trans ((gSeq_e a3).trans ((gSeq_e a4).trans ((gSeq_e a5).trans ((gSeq_e a6).trans ((gSeq_e a7).trans ((gSeq_e a8).trans ((gSeq_e a9).trans ?_)))))))))
  -- the first word that is let
  have fstW : ∀ x r, e' = x :: r → Ma.Ok L (ws.getD x []) ∧ Ma.run (Ma.nx S') 0 (ws.getD x []) = x ∧ p (ws.getD x []) = true ∧ (ws.getD x []).length ≤ 12 ∧ ∀ u, Ma.Ok L u → p u = true → Ma.val L (ws.getD x []) ≤ Ma.val L u := by
    intro x r he
    have hx : x ∈ e' := by rw [he]; exact List.mem_cons_self
    have hlt := h.rise.2 x hx
    obtain ⟨o1, o2⟩ := F.run x hlt
    refine ⟨o1, o2, ?_, by have := wl x hlt; omega, fun u hu pu => ?_⟩
    · rw [← hp _ o1]
      show decide (Ma.run (Ma.nx S') 0 (ws.getD x []) ∈ e') = true
      rw [o2]
      exact decide_eq_true hx
    · rw [← hp u hu] at pu
      have pu := of_decide_eq_true pu
      obtain ⟨u1, u2⟩ := F.least h.can.cl h.can.pos u hu
      have hr := h.rise.1
      rw [he] at hr pu
      have hle : x ≤ Ma.run (Ma.nx S') 0 u := by
        rcases List.mem_cons.mp pu with z | z
        · omega
        · exact Nat.le_of_lt ((List.pairwise_cons.mp hr).1 _ z)
      rcases Nat.lt_or_ge x (Ma.run (Ma.nx S') 0 u) with z | z
      · have := F.mono _ u1 x z
        omega
      · rw [show Ma.run (Ma.nx S') 0 u = x by omega] at u2
        exact u2
  by_cases hd : due = []
  · rw [decide_eq_true hd] at c1
    refine (gSeq_e ((gIf_f (sT_e c1)).trans rfl)).trans ?_
    have c2 : tTr (fCall m_is_empty (aPick [0] (aCons (fShr 2) aNil))) ρ3 = some (decide (e' = [])) := tTr_e (fCall_e (ds := [mD L S' e']) rfl is_empty_ok) rfl
    by_cases he : e' = []
    · rw [decide_eq_true he] at c2
      refine (gSeq_r ((gIf_t (sT_e c2)).trans (gRet_e (sP_e (fOp_e (a := .non) (b := .non) ?_ rfl rfl)))))
      show some (fstD e' ws) = _
      rw [he]
      rfl
    · rw [decide_eq_false he] at c2
      refine (gSeq_e ((gIf_f (sT_e c2)).trans rfl)).trans ?_
      cases hc : e' with
      | nil => exact absurd hc he
      | cons x r =>
        obtain ⟨o1, o2, o3, o4, o5⟩ := fstW x r hc
        have v8 : fVar 8 ρ3 = some (wD (ws.getD x [])) := by
          show some (fstD e' ws) = _
          rw [hc]
          rfl
        have s8 : fShr 8 ρ3 = some (wD (ws.getD x [])) := v8
        have hlen : 4 < (ws.getD x []).length := by
          rcases Nat.lt_or_ge 4 (ws.getD x []).length with z | z
          · exact z
          · exfalso
            have : ws.getD x [] ∈ due := List.mem_filter.mpr ⟨(Ma.mem_WT 4 _).mpr ⟨o1, z⟩, o3⟩
            rw [hd] at this
            exact nomatch this
        refine gRet_e (sP_e ((fAn_e (x := true) (y := true) ((fOp_e (fCb_e (aC v8 aN) (gLen_w (by omega))) (b := nD 4) rfl (gGt_n _ _)).trans (by rw [decide_eq_true hlen])) fun _ => (fOp_e (fCall_e (aC rfl (aC s8 aN)) (law_led_ok g h3 o1)) rfl (gIn_n _ _)).trans ?_).trans rfl))
        have : decide (Ma.run (Ma.nx S) 0 (ws.getD x []) ∈ e) = true := o3
        rw [this]
  · rw [decide_eq_false hd] at c1
    cases hdu : due with
    | nil => exact absurd hdu hd
    | cons u us =>
      have hu : u ∈ due := by rw [hdu]; exact List.mem_cons_self
      have hu1 := List.mem_filter.mp hu
      have hu2 := (Ma.mem_WT 4 u).mp hu1.1
      cases hc : e' with
      | nil =>
        exfalso
        have := hp u hu2.1
        have pu : p u = true := hu1.2
        rw [pu] at this
        have := of_decide_eq_true this
        rw [hc] at this
        exact nomatch this
      | cons x r =>
        obtain ⟨o1, o2, o3, o4, o5⟩ := fstW x r hc
        have hv := o5 u hu2.1 hu1.2
        have hl : (ws.getD x []).length ≤ 4 := by
          rcases Nat.lt_or_ge 4 (ws.getD x []).length with z | z
          · exfalso
            have := Ma.val_short h1 u hu2.1 (ws.getD x []) o1 (by omega)
            omega
          · exact z
        have hin : ws.getD x [] ∈ due := List.mem_filter.mpr ⟨(Ma.mem_WT 4 _).mpr ⟨o1, hl⟩, o3⟩
        have hs : due.Pairwise fun u v => Ma.val L u < Ma.val L v := (Ma.WT_sorted h1 4).filter p
        have hle : Ma.val L u ≤ Ma.val L (ws.getD x []) := by
          rw [hdu] at hs hin
          rcases List.mem_cons.mp hin with z | z
          · rw [z]; exact Nat.le_refl _
          · exact Nat.le_of_lt ((List.pairwise_cons.mp hs).1 _ z)
        have heq : ws.getD x [] = u := Ma.val_inj _ o1 _ hu2.1 (by omega)
        have v8 : fVar 8 ρ3 = some (wD u) := by
          show some (fstD e' ws) = _
          rw [hc, ← heq]
          rfl
        have i6 : fOp gIx (fVar 6) (fC (.int 0)) ρ3 = some (wD u) := by
          refine fOp_e (a := wsD due) (b := nD 0) rfl rfl ?_
          rw [hdu]
          exact gIx_map (f := wD) (l := u :: us) (i := 0) (by simp)
        refine gSeq_r ((gIf_t (sT_e c1)).trans (gRet_e (sP_e ((fOp_e v8 i6 (gEq_w u u)).trans (by rw [decide_eq_true rfl])))))
end
end
end Dv

/-! W6 -/
namespace Dv
noncomputable section
open PySem PySem.Spec PyProof.Rows L2 Evl LamX
/-! W6: the states named otherwise, doubled, with one that no word leads to. -/
theorem gSub_n {m n : Nat} (h : n ≤ m) : Dv.gSub (nD m) (nD n) = some (nD (m - n)) := by
  show some (D.int ((m : Int) - (n : Int))) = some (D.int ((m - n : Nat) : Int))
  rw [Int.ofNat_sub h]
theorem sPop_e {i : Nat} {s : SF} {ρ ρ1 : En} {c c' : Bool} {ds ds' : List D} {k : Nat} {d : D} (h0 : ownL ρ i = some (c, ds)) (h1 : s ρ = some (nD k, ρ1)) (h2 : ownL ρ1 i = some (c', ds')) (hk : k ≤ 100000) (h3 : ds'[k]? = some d) : sPop i s ρ = some (d, ρ1.set i (some (.own c' (.lst (ds'.eraseIdx k))))) := by
  unfold sPop
  rw [h0]
  simp only [h1, nD, h2]
  rw [if_pos ⟨Int.natCast_nonneg k, by omega⟩]
  simp only [Int.toNat_natCast, h3]
theorem gForF_e {i : Nat} {tg : Tg} {g : SS} {ρ ρ1 : En} {ds : List D} (h : sFrz i ρ = some (.lst ds, ρ1)) : gForF i tg g ρ = forGo tg g ds ρ1 := by
  unfold gForF
  rw [h]
theorem sIf_t {t : STF} {fa fb : SF} {ρ ρ1 : En} (h : t ρ = some (true, ρ1)) : sIf t fa fb ρ = fa ρ1 := by
  unfold sIf
  rw [h]
theorem sIf_f {t : STF} {fa fb : SF} {ρ ρ1 : En} (h : t ρ = some (false, ρ1)) : sIf t fa fb ρ = fb ρ1 := by
  unfold sIf
  rw [h]
theorem sAn_t {t u : STF} {ρ ρ1 : En} (h : t ρ = some (true, ρ1)) : sAn t u ρ = u ρ1 := by
  unfold sAn
  rw [h]
theorem sAn_f {t u : STF} {ρ ρ1 : En} (h : t ρ = some (false, ρ1)) : sAn t u ρ = some (false, ρ1) := by
  unfold sAn
  rw [h]
theorem gIf_some {s : STF} {g h : SS} {ρ ρ1 : En} {b : Bool} {o : Out} (h1 : s ρ = some (b, ρ1)) (ht : b = true → g ρ1 = some o) (hf : b = false → h ρ1 = some o) : gIf s g h ρ = some o := by
  cases b with
  | true => exact (gIf_t h1).trans (ht rfl)
  | false => exact (gIf_f h1).trans (hf rfl)
theorem getD_at {α : Type} {l : List α} {x : α} {i : Nat} (h : i < l.length) : l.getD i x = l[i] := by
  rw [List.getD_eq_getElem?_getD, List.getElem?_eq_getElem h]
  rfl
theorem getD_app1 {α : Type} {l t : List α} {x : α} {i : Nat} (h : i < l.length) : (l ++ t).getD i x = l.getD i x := by
  simp only [List.getD_eq_getElem?_getD, List.getElem?_append_left h]
theorem getD_app2 {α : Type} {l : List α} {x y : α} : (l ++ [y]).getD l.length x = y := by
  simp only [List.getD_eq_getElem?_getD, List.getElem?_append_right (Nat.le_refl _), Nat.sub_self]
  rfl
def nmE (o : Ob) (S : Ma.Steps) (e : List Nat) (n : Nat) (x5 x6 x7 x8 x9 x10 x11 x12 x13 : Option DV) : En := [some (.own true o), some (.sh (.tup [stD S, nsD e])), some (.sh (stD S)), some (.sh (nsD e)), some (.sh (nD n)), x5, x6, x7, x8, x9, x10, x11, x12, x13]
abbrev ow (l : List Nat) : Option DV := some (.own false (.lst (l.map nD)))
abbrev owS (l : List (List Nat)) : Option DV := some (.own false (.lst (l.map nsD)))
structure RowOk (n T L : Nat) (S : Ma.Steps) (od : List Nat) (rows : List (List Nat)) : Prop where
  at' : ∀ s, s < rows.length → (rows.getD s []).length = L ∧ ∀ a, a < L → (rows.getD s []).getD a 0 < T * n ∧ od.getD ((rows.getD s []).getD a 0 % n) 0 = Ma.nx S (od.getD (s % n) 0) a
structure LateOk (n : Nat) (e od : List Nat) (many : Nat) (late : List Nat) : Prop where
  nd : late.Nodup
  iff : ∀ s, s ∈ late ↔ s < many ∧ od.getD (s % n) 0 ∈ e
  len : late.length ≤ many
section
variable {L n : Nat} {S : Ma.Steps} {e : List Nat}
abbrev gNmRow : SS := gApp 12 (sOp gAdd (sP (fOp gIx (fVar 7) (fVar 13))) (sIf (sAn (sT (tB' (fOp gLt (fVar 4) (fC (.int 6))))) (sB (sOp gEqA (sCallB 0 m_law_draw (saCons (sP (fC (.int 2))) saNil)) (sP (fC (.int 1)))))) (sFrz 4) (sP (fC (.int 0)))))
abbrev gNmSt : SS := gSeq (gSetN 12 (nLstI saNil)) (gSeq (gFor (iSeq (fOp gIx (fVar 2) (fVar 11))) (.nm 13) gNmRow) (gSeq (gApp 8 (sFrz 12)) (gIf (sT (tB' (fOp gIn (fVar 11) (fVar 3)))) (gApp 9 (sP (fOp Dv.gSub (fCb gLen (aCons (fVar 8) aNil)) (fC (.int 1))))) gNil')))
/-- a step's new number -/
theorem nm_step {o : Ob} (hp : IsPot o) (hn : n ≤ 6) (h0 : 0 < n) {od : List Nat} (hod : od.Perm (List.range n)) {there : Nat} (ht : there < n) (x5 x6 x8 x9 x10 x11 : Option DV) {row : List Nat} (hr : row.length ≤ 100) :
    ∃ o' v, IsPot o' ∧ v < (if n < 6 then 2 else 1) * n ∧ od.getD (v % n) 0 = there ∧ gNmRow (nmE o S e n x5 x6 (some (.sh (nsD ((List.range n).map od.idxOf)))) x8 x9 x10 x11 (ow row) (some (.sh (nD there)))) = some (.nx (nmE o' S e n x5 x6 (some (.sh (nsD ((List.range n).map od.idxOf)))) x8 x9 x10 x11 (ow (row ++ [v])) (some (.sh (nD there))))) := by
  have hm : there ∈ od := hod.mem_iff.mpr (List.mem_range.mpr ht)
  have hl : od.length = n := by rw [hod.length_eq, List.length_range]
  have hi : od.idxOf there < n := by rw [← hl]; exact List.idxOf_lt_length_of_mem hm
  have hg : od.getD (od.idxOf there) 0 = there := Ma.key_idx hm
  have fin : ∀ (o' : Ob) (v : Nat), sOp gAdd (sP (fOp gIx (fVar 7) (fVar 13))) (sIf (sAn (sT (tB' (fOp gLt (fVar 4) (fC (.int 6))))) (sB (sOp gEqA (sCallB 0 m_law_draw (saCons (sP (fC (.int 2))) saNil)) (sP (fC (.int 1)))))) (sFrz 4) (sP (fC (.int 0)))) (nmE o S e n x5 x6 (some (.sh (nsD ((List.range n).map od.idxOf)))) x8 x9 x10 x11 (ow row) (some (.sh (nD there)))) = some (nD v, nmE o' S e n x5 x6 (some (.sh (nsD ((List.range n).map od.idxOf)))) x8 x9 x10 x11 (ow row) (some (.sh (nD there)))) → gNmRow (nmE o S e n x5 x6 (some (.sh (nsD ((List.range n).map od.idxOf)))) x8 x9 x10 x11 (ow row) (some (.sh (nD there)))) = some (.nx (nmE o' S e n x5 x6 (some (.sh (nsD ((List.range n).map od.idxOf)))) x8 x9 x10 x11 (ow (row ++ [v])) (some (.sh (nD there))))) := fun o' v h => by
    refine (gApp_e (ds := row.map nD) (ds' := row.map nD) rfl h rfl (by rw [List.length_map]; omega)).trans ?_
    show some (Out.nx [_, _, _, _, _, _, _, _, _, _, _, _, some (DV.own false (.lst (row.map nD ++ [nD v]))), _]) = some (Out.nx [_, _, _, _, _, _, _, _, _, _, _, _, some (DV.own false (.lst ((row ++ [v]).map nD))), _])
    rw [List.map_append]
    rfl
  have pl : sP (fOp gIx (fVar 7) (fVar 13)) (nmE o S e n x5 x6 (some (.sh (nsD ((List.range n).map od.idxOf)))) x8 x9 x10 x11 (ow row) (some (.sh (nD there)))) = some (nD (od.idxOf there), nmE o S e n x5 x6 (some (.sh (nsD ((List.range n).map od.idxOf)))) x8 x9 x10 x11 (ow row) (some (.sh (nD there)))) := by
    refine sP_e (fOp_e (a := nsD ((List.range n).map od.idxOf)) (b := nD there) rfl rfl ((gIx_ns (by rw [List.length_map, List.length_range]; exact ht)).trans ?_))
    rw [List.getD_eq_getElem?_getD, List.getElem?_map, List.getElem?_range ht]
    rfl
  have t6 : ∀ o, sT (tB' (fOp gLt (fVar 4) (fC (.int 6)))) (nmE o S e n x5 x6 (some (.sh (nsD ((List.range n).map od.idxOf)))) x8 x9 x10 x11 (ow row) (some (.sh (nD there)))) = some (decide (n < 6), nmE o S e n x5 x6 (some (.sh (nsD ((List.range n).map od.idxOf)))) x8 x9 x10 x11 (ow row) (some (.sh (nD there)))) := fun o => sT_e (tB_e (fOp_e (a := nD n) (b := nD 6) rfl rfl (gLt_n _ _)))
  by_cases h6 : n < 6
  · have t6 := t6 o
    rw [decide_eq_true h6] at t6
    obtain ⟨k, o', hk, hp', e'⟩ := law_draw_ok hp (m := 2) (by omega) (by omega)
    have t2 : sB (sOp gEqA (sCallB 0 m_law_draw (saCons (sP (fC (.int 2))) saNil)) (sP (fC (.int 1)))) (nmE o S e n x5 x6 (some (.sh (nsD ((List.range n).map od.idxOf)))) x8 x9 x10 x11 (ow row) (some (.sh (nD there)))) = some (decide (k = 1), nmE o' S e n x5 x6 (some (.sh (nsD ((List.range n).map od.idxOf)))) x8 x9 x10 x11 (ow row) (some (.sh (nD there)))) :=
      sB_e (sOp_e (b := nD 1) (sCallB_e (i := 0) (sem := m_law_draw) (fa := saCons (sP (fC (.int 2))) saNil) rfl rfl rfl e') rfl (gEq_n k 1))
    rw [if_pos h6]
    by_cases q : k = 1
    · rw [decide_eq_true q] at t2
      refine ⟨o', od.idxOf there + n, hp', by omega, by rw [Nat.add_mod_right, Nat.mod_eq_of_lt hi]; exact hg, fin o' _ (sOp_e pl ((sIf_t ((sAn_t t6).trans t2)).trans rfl) (gAdd_n _ _))⟩
    · rw [decide_eq_false q] at t2
      refine ⟨o', od.idxOf there, hp', by omega, by rw [Nat.mod_eq_of_lt hi]; exact hg, fin o' _ (sOp_e (b := nD 0) pl ((sIf_f ((sAn_t t6).trans t2)).trans rfl) (gAdd_n _ _))⟩
  · have t6 := t6 o
    rw [decide_eq_false h6] at t6
    rw [if_neg h6]
    exact ⟨o, od.idxOf there, hp, by omega, by rw [Nat.mod_eq_of_lt hi]; exact hg, fin o _ (sOp_e (b := nD 0) pl ((sIf_f (sAn_f t6)).trans rfl) (gAdd_n _ _))⟩
/-- one state's row -/
theorem nm_state (g : Ma.Good L n S) (h3 : L ≤ 3) (hn : n ≤ 6) {od : List Nat} (hod : od.Perm (List.range n)) (T : Nat) (hT : T = if n < 6 then 2 else 1) {o : Ob} (hp : IsPot o) {st : Nat} (hst : st < n) {rows : List (List Nat)} {late : List Nat} (hs : od.getD (rows.length % n) 0 = st) (hl : rows.length ≤ 100) (R : RowOk n T L S od rows) (Q : LateOk n e od rows.length late) (x5 x6 x10 x12 x13 : Option DV) :
    ∃ (o' : Ob) (rows' : List (List Nat)) (late' : List Nat) (y12 y13 : Option DV), IsPot o' ∧ rows'.length = rows.length + 1 ∧ RowOk n T L S od rows' ∧ LateOk n e od rows'.length late' ∧ gNmSt (nmE o S e n x5 x6 (some (.sh (nsD ((List.range n).map od.idxOf)))) (owS rows) (ow late) x10 (some (.sh (nD st))) x12 x13) = some (.nx (nmE o' S e n x5 x6 (some (.sh (nsD ((List.range n).map od.idxOf)))) (owS rows') (ow late') x10 (some (.sh (nD st))) y12 y13)) := by
  have hrow := g.at hst
  have hin := forGo_inv (tg := .nm 13) (G := nD) (g := gNmRow) (fun q ρ => ∃ (o : Ob) (row : List Nat) (x13 : Option DV), IsPot o ∧ row.length = q ∧ (∀ a, a < q → row.getD a 0 < T * n ∧ od.getD (row.getD a 0 % n) 0 = Ma.nx S st a) ∧ ρ = nmE o S e n x5 x6 (some (.sh (nsD ((List.range n).map od.idxOf)))) (owS rows) (ow late) x10 (some (.sh (nD st))) (ow row) x13) (S.getD st []) 0
    (nmE o S e n x5 x6 (some (.sh (nsD ((List.range n).map od.idxOf)))) (owS rows) (ow late) x10 (some (.sh (nD st))) (ow []) x13) ⟨o, [], x13, hp, rfl, fun a ha => absurd ha (Nat.not_lt_zero a), rfl⟩ (by
    rintro q hq ρ ⟨o, row, x13, hp, hq0, hr, rfl⟩
    rw [Nat.zero_add] at hq0 hr ⊢
    have ht : (S.getD st [])[q] < n := hrow.2 _ (List.getElem_mem hq)
    obtain ⟨o', v, hp', v1, v2, ev⟩ := nm_step (S := S) (e := e) hp hn g.pos hod ht x5 x6 (owS rows) (ow late) x10 (some (.sh (nD st))) (row := row) (by omega)
    refine ⟨_, _, rfl, ev, o', row ++ [v], _, hp', by rw [List.length_append, hq0]; rfl, fun a ha => ?_, rfl⟩
    rcases Nat.lt_succ_iff_lt_or_eq.mp ha with z | z
    · rw [getD_app1 (by omega)]
      exact hr a z
    · rw [z, ← hq0, getD_app2]
      refine ⟨by rw [hT]; exact v1, ?_⟩
      rw [v2]
      unfold Ma.nx
      rw [hq0]
      exact (getD_at hq).symm)
  obtain ⟨ρ2, e2, o2, row, y13, hp2, hl2, hr2, rfl⟩ := hin
  rw [Nat.zero_add, hrow.1] at hl2 hr2
  have e1 : iSeq (fOp gIx (fVar 2) (fVar 11)) (nmE o S e n x5 x6 (some (.sh (nsD ((List.range n).map od.idxOf)))) (owS rows) (ow late) x10 (some (.sh (nD st))) (ow []) x13) = some ((S.getD st []).map nD) :=
    iSeq_l (fOp_e (a := stD S) (b := nD st) rfl rfl (gIx_st (by rw [g.len]; exact hst)))
  have e3 : gApp 8 (sFrz 12) (nmE o2 S e n x5 x6 (some (.sh (nsD ((List.range n).map od.idxOf)))) (owS rows) (ow late) x10 (some (.sh (nD st))) (ow row) y13) = some (.nx (nmE o2 S e n x5 x6 (some (.sh (nsD ((List.range n).map od.idxOf)))) (owS (rows ++ [row])) (ow late) x10 (some (.sh (nD st))) (some (.sh (nsD row))) y13)) := by
    refine (gApp_e (ds := rows.map nsD) (ds' := rows.map nsD) (d := nsD row) rfl rfl rfl (by rw [List.length_map]; omega)).trans ?_
    show some (Out.nx [_, _, _, _, _, _, _, _, some (DV.own false (.lst (rows.map nsD ++ [nsD row]))), _, _, _, _, _]) = some (Out.nx [_, _, _, _, _, _, _, _, some (DV.own false (.lst ((rows ++ [row]).map nsD))), _, _, _, _, _])
    rw [List.map_append]
    rfl
  have hlen : (rows ++ [row]).length = rows.length + 1 := by rw [List.length_append]; rfl
  have R' : RowOk n T L S od (rows ++ [row]) := ⟨fun s h => by
    rw [hlen] at h
    rcases Nat.lt_succ_iff_lt_or_eq.mp h with z | z
    · rw [getD_app1 z]
      exact R.at' s z
    · rw [z, getD_app2, hs]
      exact ⟨hl2, hr2⟩⟩
  have t1 : sT (tB' (fOp gIn (fVar 11) (fVar 3))) (nmE o2 S e n x5 x6 (some (.sh (nsD ((List.range n).map od.idxOf)))) (owS (rows ++ [row])) (ow late) x10 (some (.sh (nD st))) (some (.sh (nsD row))) y13) = some (decide (st ∈ e), nmE o2 S e n x5 x6 (some (.sh (nsD ((List.range n).map od.idxOf)))) (owS (rows ++ [row])) (ow late) x10 (some (.sh (nD st))) (some (.sh (nsD row))) y13) := sT_e (tB_e (fOp_e (a := nD st) (b := nsD e) rfl rfl (gIn_n _ _)))
  by_cases q : st ∈ e
  · rw [decide_eq_true q] at t1
    refine ⟨o2, rows ++ [row], late ++ [rows.length], some (.sh (nsD row)), y13, hp2, hlen, R', ?_, (gSeq_e (ρ1 := nmE o S e n x5 x6 (some (.sh (nsD ((List.range n).map od.idxOf)))) (owS rows) (ow late) x10 (some (.sh (nD st))) (ow []) x13) rfl).trans ((gSeq_e ((gFor_e e1).trans e2)).trans ((gSeq_e e3).trans ((gIf_t t1).trans ((gApp_e (ds := late.map nD) (ds' := late.map nD) (d := nD rows.length) rfl (sP_e (fOp_e (a := nD (rows.length + 1)) (b := nD 1) (fCb_e (aC rfl aN) ((gLen_l _).trans (by rw [List.length_map, hlen]))) rfl (gSub_n (by omega)))) rfl (by rw [List.length_map]; have := Q.len; omega)).trans ?_))))⟩
    · refine ⟨?_, fun s => ?_, by rw [hlen, List.length_append]; have := Q.len; show late.length + 1 ≤ _; omega⟩
      · rw [List.nodup_append]
        refine ⟨Q.nd, by simp, fun a ha b hb => ?_⟩
        rw [List.mem_singleton] at hb
        have := ((Q.iff a).mp ha).1
        omega
      · rw [hlen, List.mem_append, List.mem_singleton, Q.iff s]
        constructor
        · rintro (⟨z1, z2⟩ | z)
          · exact ⟨by omega, z2⟩
          · rw [z, hs]; exact ⟨by omega, q⟩
        · rintro ⟨z1, z2⟩
          rcases Nat.lt_succ_iff_lt_or_eq.mp z1 with z | z
          · exact .inl ⟨z, z2⟩
          · exact .inr z
    · show some (Out.nx [_, _, _, _, _, _, _, _, _, some (DV.own false (.lst (late.map nD ++ [nD rows.length]))), _, _, _, _]) = some (Out.nx [_, _, _, _, _, _, _, _, _, some (DV.own false (.lst ((late ++ [rows.length]).map nD))), _, _, _, _])
      rw [List.map_append]
      rfl
  · rw [decide_eq_false q] at t1
    refine ⟨o2, rows ++ [row], late, some (.sh (nsD row)), y13, hp2, hlen, R', ⟨Q.nd, fun s => ?_, by rw [hlen]; have := Q.len; omega⟩, (gSeq_e (ρ1 := nmE o S e n x5 x6 (some (.sh (nsD ((List.range n).map od.idxOf)))) (owS rows) (ow late) x10 (some (.sh (nD st))) (ow []) x13) rfl).trans ((gSeq_e ((gFor_e e1).trans e2)).trans ((gSeq_e e3).trans ((gIf_f t1).trans rfl)))⟩
    rw [hlen, Q.iff s]
    constructor
    · rintro ⟨z1, z2⟩; exact ⟨by omega, z2⟩
    · rintro ⟨z1, z2⟩
      rcases Nat.lt_succ_iff_lt_or_eq.mp z1 with z | z
      · exact ⟨z, z2⟩
      · rw [z, hs] at z2
        exact absurd z2 q
end
end
end Dv

/-! W7 -/
namespace Dv
noncomputable section
open PySem PySem.Spec PyProof.Rows L2 Evl LamX
/-! W7: the machine named otherwise. -/
section
variable {L n : Nat} {S : Ma.Steps} {e : List Nat}
abbrev plE (n : Nat) (od : List Nat) : Option DV := some (.sh (nsD ((List.range n).map od.idxOf)))
theorem nm_turn (g : Ma.Good L n S) (h3 : L ≤ 3) (hn : n ≤ 6) {od : List Nat} (hod : od.Perm (List.range n)) (T : Nat) (hT : T = if n < 6 then 2 else 1) (k : Nat) (hk : k < T) {o : Ob} (hp : IsPot o) {rows : List (List Nat)} {late : List Nat} (hl : rows.length = k * n) (R : RowOk n T L S od rows) (Q : LateOk n e od rows.length late) (x5 x6 x10 x11 x12 x13 : Option DV) (h6 : x6 = ow od ∨ x6 = some (.sh (nsD od))) :
    ∃ (o' : Ob) (rows' : List (List Nat)) (late' : List Nat) (y11 y12 y13 : Option DV), IsPot o' ∧ rows'.length = (k + 1) * n ∧ RowOk n T L S od rows' ∧ LateOk n e od rows'.length late' ∧ gForF 6 (.nm 11) gNmSt (nmE o S e n x5 x6 (plE n od) (owS rows) (ow late) x10 x11 x12 x13) = some (.nx (nmE o' S e n x5 (some (.sh (nsD od))) (plE n od) (owS rows') (ow late') x10 y11 y12 y13)) := by
  have hlen : od.length = n := by rw [hod.length_eq, List.length_range]
  have hfr : sFrz 6 (nmE o S e n x5 x6 (plE n od) (owS rows) (ow late) x10 x11 x12 x13) = some (nsD od, nmE o S e n x5 (some (.sh (nsD od))) (plE n od) (owS rows) (ow late) x10 x11 x12 x13) := by
    rcases h6 with rfl | rfl <;> rfl
  have hT2 : T ≤ 2 := by rw [hT]; split <;> omega
  have hin := forGo_inv (tg := .nm 11) (G := nD) (g := gNmSt) (fun i ρ => ∃ (o : Ob) (rows : List (List Nat)) (late : List Nat) (x11 x12 x13 : Option DV), IsPot o ∧ rows.length = k * n + i ∧ RowOk n T L S od rows ∧ LateOk n e od rows.length late ∧ ρ = nmE o S e n x5 (some (.sh (nsD od))) (plE n od) (owS rows) (ow late) x10 x11 x12 x13) od 0
    (nmE o S e n x5 (some (.sh (nsD od))) (plE n od) (owS rows) (ow late) x10 x11 x12 x13) ⟨o, rows, late, x11, x12, x13, hp, hl, R, Q, rfl⟩ (by
    rintro i hi ρ ⟨o, rows, late, x11, x12, x13, hp, hl, R, Q, rfl⟩
    rw [Nat.zero_add] at hl ⊢
    rw [hlen] at hi
    have hst : od[i] < n := List.mem_range.mp (hod.mem_iff.mp (List.getElem_mem _))
    have hmod : rows.length % n = i := by rw [hl, Nat.mul_comm, Nat.mul_add_mod, Nat.mod_eq_of_lt hi]
    have hkn : k * n ≤ 2 * 6 := Nat.mul_le_mul (by omega) hn
    obtain ⟨o', rows', late', y12, y13, hp', hl', R', Q', ev⟩ := nm_state (e := e) g h3 hn hod T hT hp hst (rows := rows) (late := late) (by rw [hmod]; exact getD_at _) (by omega) R Q x5 (some (.sh (nsD od))) x10 x12 x13
    exact ⟨_, _, rfl, ev, o', rows', late', _, _, _, hp', by omega, R', Q', rfl⟩)
  obtain ⟨ρ2, e2, o', rows', late', y11, y12, y13, hp', hl', R', Q', rfl⟩ := hin
  rw [Nat.zero_add, hlen] at hl'
  exact ⟨o', rows', late', y11, y12, y13, hp', by rw [hl', Nat.add_mul, Nat.one_mul], R', Q', (gForF_e (ds := od.map nD) hfr).trans e2⟩
/-- the same words -/
theorem named_eq (g : Ma.Good L n S) {T : Nat} (hT : 0 < T) {od : List Nat} (hod : od.Perm (List.range n)) (h0 : od.getD 0 0 = 0) {rows : List (List Nat)} {late : List Nat} (hl : rows.length = T * n) (R : RowOk n T L S od rows) (Q : LateOk n e od rows.length late) {d : Nat} (hd : d < T * n) :
    Ma.Good L (T * n + 1) (rows ++ [List.replicate L d]) ∧ (late ++ [T * n]).Nodup ∧ (∀ x ∈ late ++ [T * n], x < T * n + 1) ∧ Ma.Eq2 L (Ma.nx S) (Ma.accS e) (Ma.nx (rows ++ [List.replicate L d])) (Ma.accS (late ++ [T * n])) 0 0 := by
  have hn := g.pos
  have hTn : 0 < T * n := Nat.mul_pos hT hn
  refine ⟨⟨by rw [List.length_append, hl]; rfl, Nat.succ_pos _, fun r hr => ?_⟩, ?_, fun x hx => ?_, ?_⟩
  · rcases List.mem_append.mp hr with h | h
    · obtain ⟨s, hs, rfl⟩ := List.getElem_of_mem h
      have := R.at' s hs
      rw [getD_at hs] at this
      refine ⟨this.1, fun x hx => ?_⟩
      obtain ⟨a, ha, rfl⟩ := List.getElem_of_mem hx
      have h2 := (this.2 a (by rw [← this.1]; exact ha)).1
      rw [getD_at ha] at h2
      omega
    · rw [List.mem_singleton] at h
      rw [h]
      refine ⟨List.length_replicate, fun x hx => ?_⟩
      have := List.eq_of_mem_replicate hx
      omega
  · rw [List.nodup_append]
    refine ⟨Q.nd, by simp, fun a ha b hb => ?_⟩
    rw [List.mem_singleton] at hb
    have := ((Q.iff a).mp ha).1
    omega
  · rcases List.mem_append.mp hx with h | h
    · have := ((Q.iff x).mp h).1
      omega
    · rw [List.mem_singleton] at h
      omega
  · have key : ∀ (w : List Nat) (s s' : Nat), s' < T * n → od.getD (s' % n) 0 = s → Ma.Ok L w → Ma.accS e (Ma.run (Ma.nx S) s w) = Ma.accS (late ++ [T * n]) (Ma.run (Ma.nx (rows ++ [List.replicate L d])) s' w) := by
      intro w
      induction w with
      | nil =>
        intro s s' hs' hs _
        show decide (s ∈ e) = decide (s' ∈ late ++ [T * n])
        have : s' ∈ late ++ [T * n] ↔ s ∈ e := by
          rw [List.mem_append, List.mem_singleton, Q.iff, hs, hl]
          constructor
          · rintro (⟨_, z⟩ | z)
            · exact z
            · omega
          · intro z; exact .inl ⟨hs', z⟩
        by_cases q : s ∈ e
        · rw [decide_eq_true q, decide_eq_true (this.mpr q)]
        · rw [decide_eq_false q, decide_eq_false (fun z => q (this.mp z))]
      | cons a w ih =>
        intro s s' hs' hs hw
        have hr := (R.at' s' (by omega)).2 a hw.head
        have hx : Ma.nx (rows ++ [List.replicate L d]) s' a = (rows.getD s' []).getD a 0 := by
          unfold Ma.nx
          rw [getD_app1 (by omega)]
        refine ih (Ma.nx S s a) (Ma.nx (rows ++ [List.replicate L d]) s' a) ?_ ?_ hw.tail
        · rw [hx]; exact hr.1
        · rw [hx, hr.2, hs]
    intro w hw
    exact key w 0 0 hTn (by rw [Nat.zero_mod]; exact h0) hw
theorem gRepL_e {d : Nat} {L : Nat} (h3 : L ≤ 3) : gMulA (.lst [nD d]) (nD L) = some (nsD (List.replicate L d)) := by
  show gRepL (.lst [nD d]) (nD L) = _
  show (if (L : Int) ≤ 1000 ∧ [nD d].length ≤ 100 ∧ -1000 ≤ (L : Int) then some (D.lst (List.replicate (L : Int).toNat [nD d]).flatten) else none) = _
  rw [if_pos ⟨by omega, by show 1 ≤ 100; omega, by omega⟩, Int.toNat_natCast, List.flatten_replicate_singleton]
  unfold nsD
  rw [List.map_replicate]
theorem erase_map {α β : Type} (f : α → β) : ∀ (l : List α) (k : Nat), (l.map f).eraseIdx k = (l.eraseIdx k).map f
  | [], _ => rfl
  | _ :: _, 0 => rfl
  | x :: l, k + 1 => by
    show f x :: (l.map f).eraseIdx k = f x :: (l.eraseIdx k).map f
    rw [erase_map f l k]
theorem erase_perm {α : Type} : ∀ (l : List α) (k : Nat) (h : k < l.length), (l[k] :: l.eraseIdx k).Perm l
  | [], k, h => absurd h (Nat.not_lt_zero k)
  | x :: l, 0, _ => List.Perm.refl _
  | x :: l, k + 1, h => (List.Perm.swap x (l[k]'(Nat.lt_of_succ_lt_succ h)) (l.eraseIdx k)).trans ((erase_perm l k (Nat.lt_of_succ_lt_succ h)).cons x)
theorem law_named_ok (g : Ma.Good L n S) (h1 : 1 ≤ L) (h3 : L ≤ 3) (hn : n ≤ 6) {o : Ob} (hp : IsPot o) : ∃ m R F o', Ma.Good L m R ∧ m ≤ 12 ∧ F.Nodup ∧ (∀ x ∈ F, x < m) ∧ Ma.Eq2 L (Ma.nx S) (Ma.accS e) (Ma.nx R) (Ma.accS F) 0 0 ∧ IsPot o' ∧ m_law_named o [.tup [stD S, nsD e]] = some (.sh (.tup [stD R, nsD F]), o') := by
  have h0 := g.pos
  have a1 : gTgt (.tp [2, 3]) (sFrz 1) (init 14 2 [.own true o, .sh (.tup [stD S, nsD e])]) = some (.nx [some (.own true o), some (.sh (.tup [stD S, nsD e])), some (.sh (stD S)), some (.sh (nsD e)), none, none, none, none, none, none, none, none, none, none]) := rfl
  have a2 : gSet 4 (sP (fCb gLen (aCons (fVar 2) aNil))) [some (.own true o), some (.sh (.tup [stD S, nsD e])), some (.sh (stD S)), some (.sh (nsD e)), none, none, none, none, none, none, none, none, none, none] = some (.nx (nmE o S e n none none none none none none none none none)) :=
    gSet_e (sP_e (fCb_e (aC rfl aN) (by rw [stD, gLen_l, List.length_map, g.len]))) (by show 4 < 14; omega)
  have hrg : (List.range ((n : Int) - 1).toNat).map (fun (k : Nat) => D.int (1 + (k : Int))) = ((List.range (n - 1)).map Nat.succ).map nD := by
    rw [show ((n : Int) - 1).toNat = n - 1 by omega, List.map_map]
    refine List.map_congr_left fun k _ => ?_
    show D.int (1 + (k : Int)) = D.int ((k + 1 : Nat) : Int)
    rw [Int.add_comm]
    rfl
  have a3 : gPar [5, 6] [.N (nRng 1 (fShr 4)), .N (nLstI (saCons (sP (fC (.int 0))) saNil))] (nmE o S e n none none none none none none none none none) = some (.nx (nmE o S e n (ow ((List.range (n - 1)).map Nat.succ)) (ow [0]) none none none none none none none)) := by
    have : nRng 1 (fShr 4) (nmE o S e n none none none none none none none none none) = some (.lst (((List.range (n - 1)).map Nat.succ).map nD), nmE o S e n none none none none none none none none none) := by
      unfold nRng
      show (if (0 : Int) ≤ 1 ∧ (1 : Int) ≤ 1000 ∧ 0 ≤ (n : Int) ∧ (n : Int) ≤ 1000 then some (Ob.lst ((List.range ((n : Int) - 1).toNat).map fun (k : Nat) => D.int (1 + (k : Int))), _) else none) = _
      rw [if_pos ⟨by omega, by omega, by omega, by omega⟩, hrg]
    unfold gPar mGo
    rw [this]
    rfl
  obtain ⟨j, ρ', w, ⟨o2, lf, od, hp2, hod, hz, hpos, hlen, rfl⟩, hf⟩ := gWh_inv (ρ := nmE o S e n (ow ((List.range (n - 1)).map Nat.succ)) (ow [0]) none none none none none none none) (t := tB' (fOp gNeA (fVar 5) (fLst aNil))) (g := gApp 6 (sPop 5 (sCallB 0 m_law_draw (saCons (sP (fCb gLen (aCons (fVar 5) aNil))) saNil))))
    (fun i ρ => ∃ (o : Ob) (lf od : List Nat), IsPot o ∧ (lf ++ od).Perm (List.range n) ∧ od.getD 0 0 = 0 ∧ 0 < od.length ∧ od.length = i + 1 ∧ ρ = nmE o S e n (ow lf) (ow od) none none none none none none none) n ⟨o, _, [0], hp, by
      obtain ⟨m, rfl⟩ : ∃ m, n = m + 1 := ⟨n - 1, by omega⟩
      rw [Nat.add_sub_cancel, List.range_succ_eq_map]
      exact List.perm_append_comm, rfl, by simp, rfl, rfl⟩ (by
    rintro i ρ ⟨o, lf, od, hp, hod, hz, hpos, hlen, rfl⟩
    refine ⟨!decide (lf = []), tB_e (fOp_e (a := nsD lf) (b := nsD []) rfl rfl (gNe_ns lf [])), fun hb => ?_⟩
    have hne : lf ≠ [] := fun z => by rw [decide_eq_true z] at hb; cases hb
    have hl : 0 < lf.length := List.length_pos_iff.mpr hne
    have htot : lf.length + od.length = n := by rw [← List.length_append, hod.length_eq, List.length_range]
    obtain ⟨k, o', hk, hp', ev⟩ := law_draw_ok hp (m := lf.length) hl (by omega)
    have hx : (lf.map nD)[k]? = some (nD lf[k]) := by rw [List.getElem?_map, List.getElem?_eq_getElem hk]; rfl
    have ev2 : sCallB 0 m_law_draw (saCons (sP (fCb gLen (aCons (fVar 5) aNil))) saNil) (nmE o S e n (ow lf) (ow od) none none none none none none none) = some (nD k, nmE o' S e n (ow lf) (ow od) none none none none none none none) :=
      sCallB_e (ρ := nmE o S e n (ow lf) (ow od) none none none none none none none) (ρ1 := nmE o S e n (ow lf) (ow od) none none none none none none none) (i := 0) (sem := m_law_draw) (c := true) (c' := true) (rv := .sh (nD k)) (ds := [nD lf.length]) rfl (saC (sP_e (fCb_e (aC rfl aN) ((gLen_l (lf.map nD)).trans (by rw [List.length_map])))) rfl) rfl ev
    refine ⟨_, gApp_e (ds := od.map nD) (ds' := od.map nD) rfl (sPop_e (c := false) (c' := false) (ds := lf.map nD) (ds' := lf.map nD) rfl ev2 rfl (by omega) hx) rfl (by rw [List.length_map]; omega), o', lf.eraseIdx k, od ++ [lf[k]], hp', ?_, ?_, ?_, ?_, ?_⟩
    · have p1 : (lf[k] :: lf.eraseIdx k).Perm lf := erase_perm lf k hk
      refine List.Perm.trans ?_ hod
      have p2 : (lf.eraseIdx k ++ (od ++ [lf[k]])).Perm (lf[k] :: (lf.eraseIdx k ++ od)) := by
        rw [← List.append_assoc]
        exact List.perm_append_singleton _ _
      exact p2.trans (p1.append_right od)
    · rw [getD_app1 hpos]; exact hz
    · rw [List.length_append]; omega
    · rw [List.length_append, hlen]; rfl
    · show nmE o' S e n (some (.own false (.lst ((lf.map nD).eraseIdx k)))) (some (.own false (.lst (od.map nD ++ [nD lf[k]])))) none none none none none none none = nmE o' S e n (some (.own false (.lst ((lf.eraseIdx k).map nD)))) (some (.own false (.lst ((od ++ [lf[k]]).map nD)))) none none none none none none none
      rw [List.map_append, erase_map]
      rfl)
    (by
    rintro j ρ ⟨o, lf, od, hp, hod, hz, hpos, hlen, rfl⟩ ht
    have htot : lf.length + od.length = n := by rw [← List.length_append, hod.length_eq, List.length_range]
    have h2 : tB' (fOp gNeA (fVar 5) (fLst aNil)) (nmE o S e n (ow lf) (ow od) none none none none none none none) = some (!decide (lf = [])) := tB_e (fOp_e (a := nsD lf) (b := nsD []) rfl rfl (gNe_ns lf []))
    rw [h2] at ht
    have hne : lf ≠ [] := fun z => by rw [decide_eq_true z] at ht; cases ht
    have hl : 0 < lf.length := List.length_pos_iff.mpr hne
    omega)
  have h2 : tB' (fOp gNeA (fVar 5) (fLst aNil)) (nmE o2 S e n (ow lf) (ow od) none none none none none none none) = some (!decide (lf = [])) := tB_e (fOp_e (a := nsD lf) (b := nsD []) rfl rfl (gNe_ns lf []))
  rw [h2] at hf
  have hlf : lf = [] := by
    rcases Classical.em (lf = []) with z | z
    · exact z
    · rw [decide_eq_false z] at hf; cases hf
  subst hlf
  rw [List.nil_append] at hod
  have hol : od.length = n := by rw [hod.length_eq, List.length_range]
  have b1 : gSet 7 (sP (fLc (iRange (fShr 4)) (.nm 11) tYs (fMt gIdxL (fVar 6) (aCons (fVar 11) aNil)) [11])) (nmE o2 S e n (ow []) (ow od) none none none none none none none) = some (.nx (nmE o2 S e n (ow []) (ow od) (plE n od) none none none none none none)) := by
    refine (gSet_e (sP_e (fLc_map (xs := List.range n) (G := nD) (F := fun s => nD (od.idxOf s)) (iRange_n (n := n) rfl (by omega)) (by rw [List.length_range]; omega) fun s hs => ⟨_, rfl, rfl, fMt_e (a := nsD od) rfl (aC rfl aN) (gIdx_n (hod.mem_iff.mpr hs))⟩)) (by show 7 < 14; omega)).trans ?_
    show some (Out.nx [_, _, _, _, _, _, _, some (.sh (.lst _)), _, _, _, _, _, _]) = some (Out.nx [_, _, _, _, _, _, _, some (.sh (.lst (((List.range n).map od.idxOf).map nD))), _, _, _, _, _, _])
    rw [List.map_map]
    rfl
  have b2 : gPar [8, 9] [.N (nLstI saNil), .N (nLstI saNil)] (nmE o2 S e n (ow []) (ow od) (plE n od) none none none none none none) = some (.nx (nmE o2 S e n (ow []) (ow od) (plE n od) (owS []) (ow []) none none none none)) := rfl
  obtain ⟨T, hT⟩ : ∃ T, T = if n < 6 then 2 else 1 := ⟨_, rfl⟩
  have hT0 : 0 < T ∧ T ≤ 2 := by rw [hT]; split <;> omega
  have hrange : iRange (fIf (tB' (fOp gLt (fVar 4) (fC (.int 6)))) (fC (.int 2)) (fC (.int 1))) (nmE o2 S e n (ow []) (ow od) (plE n od) (owS []) (ow []) none none none none) = some ((List.range T).map nD) := by
    refine iRange_n ?_ (by omega)
    have t6 : tB' (fOp gLt (fVar 4) (fC (.int 6))) (nmE o2 S e n (ow []) (ow od) (plE n od) (owS []) (ow []) none none none none) = some (decide (n < 6)) := tB_e (fOp_e (a := nD n) (b := nD 6) rfl rfl (gLt_n _ _))
    rw [hT]
    by_cases q : n < 6
    · rw [decide_eq_true q] at t6
      rw [if_pos q]
      exact (fIf_t t6).trans rfl
    · rw [decide_eq_false q] at t6
      rw [if_neg q]
      exact (fIf_f t6).trans rfl
  have hin := forGo_inv (tg := .nm 10) (G := nD) (g := gForF 6 (.nm 11) gNmSt) (fun k ρ => ∃ (o : Ob) (rows : List (List Nat)) (late : List Nat) (x6 x10 x11 x12 x13 : Option DV), IsPot o ∧ (x6 = ow od ∨ x6 = some (.sh (nsD od))) ∧ rows.length = k * n ∧ RowOk n T L S od rows ∧ LateOk n e od rows.length late ∧ ρ = nmE o S e n (ow []) x6 (plE n od) (owS rows) (ow late) x10 x11 x12 x13) (List.range T) 0
    (nmE o2 S e n (ow []) (ow od) (plE n od) (owS []) (ow []) none none none none) ⟨o2, [], [], _, none, none, none, none, hp2, .inl rfl, by simp, ⟨fun s hs => nomatch hs⟩, ⟨List.nodup_nil, fun s => by simp, Nat.le_refl 0⟩, rfl⟩ (by
    rintro k hk ρ ⟨o, rows, late, x6, x10, x11, x12, x13, hp, h6, hl, R, Q, rfl⟩
    rw [Nat.zero_add] at hl ⊢
    rw [List.length_range] at hk
    rw [List.getElem_range]
    obtain ⟨o', rows', late', y11, y12, y13, hp', hl', R', Q', ev⟩ := nm_turn (e := e) g h3 hn hod T hT k hk hp hl R Q (ow []) x6 (some (.sh (nD k))) x11 x12 x13 h6
    exact ⟨_, _, rfl, ev, o', rows', late', _, _, _, _, _, hp', .inr rfl, hl', R', Q', rfl⟩)
  obtain ⟨ρ3, b3, o3, rows, late, x6, x10, x11, x12, x13, hp3, h6, hl, R, Q, rfl⟩ := hin
  rw [List.length_range, Nat.zero_add] at hl
  have hTn : 0 < T * n := Nat.mul_pos hT0.1 h0
  have hTn2 : T * n ≤ 11 := by
    rcases Nat.lt_or_ge n 6 with q | q
    · have := Nat.mul_le_mul hT0.2 (show n ≤ 5 by omega)
      omega
    · rw [if_neg (by omega)] at hT
      rw [hT]
      omega
  obtain ⟨d, o4, hd, hp4, ev⟩ := law_draw_ok hp3 (m := T * n) hTn (by omega)
  obtain ⟨G, nd, lt, eq⟩ := named_eq (e := e) g hT0.1 hod hz hl R Q hd
  have ev2 : sCallB 0 m_law_draw (saCons (sP (fCb gLen (aCons (fVar 8) aNil))) saNil) (nmE o3 S e n (ow []) x6 (plE n od) (owS rows) (ow late) x10 x11 x12 x13) = some (nD d, nmE o4 S e n (ow []) x6 (plE n od) (owS rows) (ow late) x10 x11 x12 x13) :=
    sCallB_e (ρ := nmE o3 S e n (ow []) x6 (plE n od) (owS rows) (ow late) x10 x11 x12 x13) (ρ1 := nmE o3 S e n (ow []) x6 (plE n od) (owS rows) (ow late) x10 x11 x12 x13) (i := 0) (sem := m_law_draw) (c := true) (c' := true) (rv := .sh (nD d)) (ds := [nD (T * n)]) rfl (saC (sP_e (fCb_e (aC rfl aN) ((gLen_l (rows.map nsD)).trans (by rw [List.length_map, hl])))) rfl) rfl ev
  have hS0 : 0 < S.length := by rw [g.len]; exact h0
  have e0 : fCb gLen (aCons (fOp gIx (fVar 2) (fC (.int 0))) aNil) (nmE o4 S e n (ow []) x6 (plE n od) (owS rows) (ow late) x10 x11 x12 x13) = some (nD L) :=
    fCb_e (aC (fOp_e (a := stD S) (b := nD 0) rfl rfl (gIx_st hS0)) aN) (by rw [nsD, gLen_l, List.length_map, (g.at h0).1])
  have ev3 : sOp gMulA (sNew (nLstI (saCons (sCallB 0 m_law_draw (saCons (sP (fCb gLen (aCons (fVar 8) aNil))) saNil)) saNil))) (sP (fCb gLen (aCons (fOp gIx (fVar 2) (fC (.int 0))) aNil))) (nmE o3 S e n (ow []) x6 (plE n od) (owS rows) (ow late) x10 x11 x12 x13) = some (nsD (List.replicate L d), nmE o4 S e n (ow []) x6 (plE n od) (owS rows) (ow late) x10 x11 x12 x13) := by
    refine sOp_e (a := .lst [nD d]) (b := nD L) ?_ (sP_e e0) (gRepL_e h3)
    unfold sNew
    rw [nLstI_e (saC ev2 rfl) (by show 1 ≤ 100000; omega)]
    rfl
  have b4 : gApp 8 (sOp gMulA (sNew (nLstI (saCons (sCallB 0 m_law_draw (saCons (sP (fCb gLen (aCons (fVar 8) aNil))) saNil)) saNil))) (sP (fCb gLen (aCons (fOp gIx (fVar 2) (fC (.int 0))) aNil)))) (nmE o3 S e n (ow []) x6 (plE n od) (owS rows) (ow late) x10 x11 x12 x13) = some (.nx (nmE o4 S e n (ow []) x6 (plE n od) (owS (rows ++ [List.replicate L d])) (ow late) x10 x11 x12 x13)) := by
    refine (gApp_e (ds := rows.map nsD) (ds' := rows.map nsD) rfl ev3 rfl (by rw [List.length_map]; omega)).trans ?_
    show some (Out.nx [_, _, _, _, _, _, _, _, some (DV.own false (.lst (rows.map nsD ++ [nsD (List.replicate L d)]))), _, _, _, _, _]) = some (Out.nx [_, _, _, _, _, _, _, _, some (DV.own false (.lst ((rows ++ [List.replicate L d]).map nsD))), _, _, _, _, _])
    rw [List.map_append]
    rfl
  have hR : (rows ++ [List.replicate L d]).length = T * n + 1 := by rw [List.length_append, hl]; rfl
  have hlate : late.length ≤ 100 := by have := Q.len; omega
  have hA : (late.map nD).length + [nD (T * n)].length ≤ 100000 := by
    rw [List.length_map]
    show late.length + 1 ≤ 100000
    omega
  refine ⟨T * n + 1, rows ++ [List.replicate L d], late ++ [T * n], o4, G, by omega, nd, lt, eq, hp4, ?_⟩
  refine runB_sh (ρ1 := nmE o4 S e n (ow []) x6 (plE n od) (some (.sh (stD (rows ++ [List.replicate L d])))) (ow late) x10 x11 x12 x13) rfl ((gSeq_e a1).trans ((gSeq_e a2).trans ((gSeq_e a3).trans ((gSeq_e w).trans ((gSeq_e b1).trans ((gSeq_e b2).trans ((gSeq_e ((gFor_e hrange).trans b3)).trans ((gSeq_e b4).trans (gRet_e (sTup_e (ds := [stD (rows ++ [List.replicate L d]), nsD (late ++ [T * n])]) (saC rfl (saC (sP_e ?_) rfl)) (by show 2 ≤ 100000; omega))))))))))) rfl
  have hd1 : fOp Dv.gSub (fCb gLen (aCons (fVar 8) aNil)) (fC (.int 1)) (nmE o4 S e n (ow []) x6 (plE n od) (some (.sh (stD (rows ++ [List.replicate L d])))) (ow late) x10 x11 x12 x13) = some (nD (T * n)) := fOp_e (a := nD (T * n + 1)) (b := nD 1) (fCb_e (aC rfl aN) ((gLen_l ((rows ++ [List.replicate L d]).map nsD)).trans (by rw [List.length_map, hR]))) rfl (gSub_n (Nat.le_add_left 1 _))
  refine (fOp_e (a := .lst (late.map nD)) (b := .lst [nD (T * n)]) rfl (fLst_e (ds := [nD (T * n)]) (aC hd1 aN) (by show 1 ≤ 100000; omega)) (gAdd_l hA)).trans ?_
  show _ = some (D.lst ((late ++ [T * n]).map nD))
  rw [List.map_append]
  rfl
end
end
end Dv

/-! W8 -/
namespace Dv
noncomputable section
open PySem PySem.Spec PyProof.Rows L2 Evl LamX
/-! W8: the law's value. -/
theorem Py.pair (S : List (List Nat)) (e : List Nat) : Py (.tup [stD S, nsD e]) (.tuple [pySt S, pyNs e]) 3 :=
  ⟨by simp [toPy, toPys, (Py.st S).to, (Py.ns e).to], by simp [PyData.canLay0, PyData.canLayAll0, (Py.st S).can, (Py.ns e).can], by
    have h1 := (Py.st S).dep
    have h2 := (Py.ns e).dep
    simp only [PyData.depth, PyData.depthAll]
    omega⟩
theorem gEq_pair (S S' : List (List Nat)) (e e' : List Nat) : gEqA (.tup [stD S, nsD e]) (.tup [stD S', nsD e']) = some (.bl (decide (S = S') && decide (e = e'))) := by
  refine (gEqA_py (Py.pair S e) (Py.pair S' e') rfl (by omega) (by omega)).trans ?_
  have : PyData.eqv (.tuple [pySt S, pyNs e]) (.tuple [pySt S', pyNs e']) = (PyData.eqv (pySt S) (pySt S') && PyData.eqv (pyNs e) (pyNs e')) := by simp [PyData.eqv, PyData.eqvAll]
  rw [this, eqv_st, eqv_ns]
theorem gEqO_mm {L L' : Nat} {S S' : List (List Nat)} {e e' : List Nat} : gEqO "Machine" m_Machine___eq__ (mD L S e) (mD L' S' e') = some (.bl (decide (L = L') && (decide (S = S') && decide (e = e')))) := by
  have h := eq_ok (L := L) (L' := L') (S := S) (S' := S') (e := e) (e' := e')
  unfold mD at h ⊢
  unfold gEqO
  simp only [and_self, if_true, h]
  rfl
theorem gEqO_mt {L : Nat} {S : List (List Nat)} {e : List Nat} {ds : List D} : gEqO "Machine" m_Machine___eq__ (mD L S e) (.tup ds) = some (.bl false) := by
  have h := eq_tup (L := L) (S := S) (e := e) (ds := ds)
  unfold mD at h ⊢
  unfold gEqO
  simp only [if_true, h]
  rfl
theorem fListF_e {f : PF} {ρ : En} {l : List Nat} (h : f ρ = some (nsD l)) : fListF f ρ = some (nsD l) := by
  have hf : flatD (l.map nD) = true := by
    unfold flatD
    rw [List.all_eq_true]
    intro d hd
    obtain ⟨x, _, rfl⟩ := List.mem_map.mp hd
    rfl
  unfold fListF
  rw [h]
  show (if flatD (l.map nD) = true then some (D.lst (l.map nD)) else none) = _
  rw [hf, if_pos rfl]
  rfl
theorem runD_e {n m : Nat} {g : SS} {ds : List D} {d : D} {ρ1 : En} (hl : ds.length = m) (h1 : g (init n m (ds.map .sh)) = some (.rt (.sh d) ρ1)) : runD n m g ds = some (.sh d) := by
  unfold runD
  rw [if_pos hl, h1]
section
variable {L n : Nat} {S S' : Ma.Steps} {e e' : List Nat}
theorem stepsD_ok (h : S.length ≤ 100000) : mD_steps [mD L S e] = some (.sh (stD S)) :=
  runD_e rfl (gRet_e (sP_e (fLc_map (G := nsD) (F := nsD) (iSeq_l (fld_s rfl)) h fun r hr => ⟨_, rfl, rfl, fListF_e rfl⟩)))
theorem endsD_ok : mD_ends [mD L S e] = some (.sh (nsD e)) := runD_e rfl (gRet_e (sP_e (fListF_e (fld_e rfl))))
theorem rows_flat (h : ∀ r ∈ S, r.length ≤ 1000) : rowsF (S.map nsD) = true := by
  unfold rowsF
  rw [List.all_eq_true]
  intro d hd
  obtain ⟨r, hr, rfl⟩ := List.mem_map.mp hd
  show (flatD (r.map nD) && decide ((r.map nD).length ≤ 1000)) = true
  have hf : flatD (r.map nD) = true := by
    unfold flatD
    rw [List.all_eq_true]
    intro d hd
    obtain ⟨x, _, rfl⟩ := List.mem_map.mp hd
    rfl
  rw [hf, List.length_map, decide_eq_true (h r hr)]
  rfl
theorem least_sml (h : Ma.IsLeast L n S e S' e') (h3 : L ≤ 3) (hn : n ≤ 12) : Sml S' e' := by
  obtain ⟨g, hl⟩ := h.good
  obtain ⟨r1, r2⟩ := h.rise
  have hd : e'.Nodup := r1.imp fun h => Nat.ne_of_lt h
  have he := Ma.nodup_le e' S'.length hd r2
  exact ⟨by omega, fun r hr => ⟨by rw [(g.row r hr).1]; exact h3, fun x hx => by have := (g.row r hr).2 x hx; omega⟩, by omega, fun x hx => by have := r2 x hx; omega⟩
theorem drawn_sml (d : Drawn L n S e) (h3 : L ≤ 3) (hn : n ≤ 12) : Sml S e :=
  ⟨by rw [d.good.len]; omega, fun r hr => ⟨by rw [(d.good.row r hr).1]; exact h3, fun x hx => by have := (d.good.row r hr).2 x hx; omega⟩, by have := Ma.nodup_le e n d.nd d.lt; omega, fun x hx => by have := d.lt x hx; omega⟩
theorem copied_ok (d : Drawn L n S e) (h1 : 1 ≤ L) (h3 : L ≤ 3) (hn : n ≤ 12) (h : Ma.IsLeast L n S e S' e') : m_law_copied_right [.tup [stD S, nsD e], nD L, mD L S' e', .tup [stD S', nsD e']] = some (.sh (.bl true)) := by
  have g := d.good
  have hs := least_sml h h3 hn
  have he := Ma.nodup_le e n d.nd d.lt
  obtain ⟨S2, e2, h2, q, _⟩ := init_ok (t := false) g h1 h3 hn d.nd d.lt
  obtain ⟨rfl, rfl⟩ := h.uniq h2
  letI : Nm := ⟨[], [], fun _ => True, fun _ _ => trivial⟩
  refine semCop_eq ⟨rfl, ?_⟩
  cases hS : S with
  | nil =>
    have := g.len
    rw [hS] at this
    have := g.pos
    simp at *
    omega
  | cons r rest =>
    have hr : r.length = L := (g.row r (by rw [hS]; exact List.mem_cons_self)).1
    refine ⟨r.map nD, rest.map nsD, e.map nD, S'.map nsD, e'.map nD, [("_letters", nD L), ("_steps", stD S'), ("_ends", nsD e')], ?_, ?_, ?_, by rw [List.length_map]; omega, ?_, stepsD_ok (by have := hs.sl; omega), rows_flat fun r hr => by have := (hs.row r hr).1; omega, by rw [List.length_map]; have := hs.sl; omega, endsD_ok, by rw [List.length_map]; have := hs.el; omega, rfl, rfl, ?_⟩
    · refine (fLc_map (xs := r :: rest) (G := nsD) (F := nsD) (iSeq_l (fOp_e (a := .tup [stD (r :: rest), nsD e]) (b := nD 0) rfl rfl (atD rfl))) (by rw [← hS, g.len]; omega) fun r hr => ⟨_, rfl, rfl, fListF_e rfl⟩).trans rfl
    · intro z
      have := congrArg List.length z
      rw [List.length_map, List.length_nil] at this
      omega
    · exact fListF_e (fOp_e (a := .tup [stD (r :: rest), nsD e]) (b := nD 1) rfl rfl (atD rfl))
    · unfold fm_cop fMkD
      rw [hS] at q
      have q' : mI_Machine [nD L, .lst (D.lst (r.map nD) :: rest.map nsD), .lst (e.map nD)] = some ([("_letters", nD L), ("_steps", stD S'), ("_ends", nsD e')] : List (Str × D)) := q
      show (match mI_Machine [nD L, .lst (D.lst (r.map nD) :: rest.map nsD), .lst (e.map nD)] with | some fs => some (D.ins "Machine" fs) | none => none) = _
      rw [q']
    · intro v4 v5
      have e6 : fShr 6 (rhoCop [.tup [stD (r :: rest), nsD e], nD L, mD L S' e', .tup [stD S', nsD e']] v4 v5 [("_letters", nD L), ("_steps", stD S'), ("_ends", nsD e')]) = some (mD L S' e') := rfl
      exact (fAn_e (x := true) (y := true) (fCall_e (ds := [mD L S' e', nD L, .tup [stD S', nsD e']]) (aC e6 rfl) (law_is_ok (by omega) hs)) fun _ => (fOp_e e6 (b := mD L S' e') rfl gEqO_mm).trans (by simp)).trans rfl
/-- one check of == -/
theorem chk_ok {T : Ma.Steps} {f : List Nat} {R : Ma.Steps} {q : List Nat} (d : Drawn L n T f) (h1 : 1 ≤ L) (h3 : L ≤ 3) (hn : n ≤ 12) {i j : Nat} {ρ : En} (r2 : fShr 2 ρ = some (nD L)) (ri : fShr i ρ = some (stD T)) (rj : fShr j ρ = some (nsD f)) (r8 : fShr 8 ρ = some (mD L R q)) (r6 : fVar 6 ρ = some (.tup [stD R, nsD q])) :
    tB' (fOp gNeA (fOp (gEqO "Machine" m_Machine___eq__) (fCall m_Machine (aCons (fShr 2) (aCons (fShr i) (aCons (fShr j) aNil)))) (fShr 8)) (fOp gEqA (fCall m_law_least (aCons (fTup (aCons (fShr i) (aCons (fShr j) aNil))) aNil)) (fVar 6))) ρ = some false := by
  obtain ⟨S2, e2, h2, _, q2⟩ := init_ok (t := false) d.good h1 h3 hn d.nd d.lt
  obtain ⟨S4, e4, h4, q4⟩ := law_least_ok d.good h3 (by omega) f
  obtain ⟨rfl, rfl⟩ := h2.uniq h4
  refine tB_e (fOp_e (fOp_e (fCall_e (ds := [nD L, stD T, nsD f]) (aC r2 (aC ri (aC rj aN))) q2) r8 gEqO_mm) (fOp_e (fCall_e (ds := [.tup [stD T, nsD f]]) (aC (fTup_e (aC ri (aC rj aN)) (by show 2 ≤ 100000; omega)) aN) q4) r6 (gEq_pair _ _ _ _)) ?_)
  rw [decide_eq_true (rfl : L = L), Bool.true_and]
  exact gNe_bb _
theorem turned_drawn (d : Drawn L n S e) {st : Nat} (hst : st < n) : Drawn L n S (if st ∈ e then e.filter fun x => !decide (x = st) else e ++ [st]) := by
  by_cases q : st ∈ e
  · rw [if_pos q]
    exact ⟨d.good, d.nd.filter _, fun x hx => d.lt x (List.mem_filter.mp hx).1⟩
  · rw [if_neg q]
    refine ⟨d.good, ?_, fun x hx => ?_⟩
    · rw [List.nodup_append]
      refine ⟨d.nd, by simp, fun a ha b hb => ?_⟩
      rw [List.mem_singleton] at hb
      rw [hb]
      exact fun z => q (z ▸ ha)
    · rcases List.mem_append.mp hx with h | h
      · exact d.lt x h
      · rw [List.mem_singleton] at h; rw [h]; exact hst
def bentS (S : Ma.Steps) (a t : Nat) : Ma.Steps := S.take a ++ [t :: (S.getD a []).drop 1] ++ S.drop (a + 1)
theorem bent_drawn (d : Drawn L n S e) (h1 : 1 ≤ L) {a t : Nat} (ha : a < n) (ht : t < n) : Drawn L n (bentS S a t) e := by
  have g := d.good
  refine ⟨⟨?_, g.pos, fun r hr => ?_⟩, d.nd, d.lt⟩
  · unfold bentS
    rw [List.length_append, List.length_append, List.length_take, List.length_drop, g.len, List.length_singleton]
    omega
  · unfold bentS at hr
    rcases List.mem_append.mp hr with h | h
    · rcases List.mem_append.mp h with h | h
      · exact g.row r (List.mem_of_mem_take h)
      · rw [List.mem_singleton] at h
        rw [h]
        obtain ⟨b1, b2⟩ := g.at ha
        refine ⟨by rw [List.length_cons, List.length_drop, b1]; omega, fun x hx => ?_⟩
        rcases List.mem_cons.mp hx with z | z
        · omega
        · exact b2 x (List.mem_of_mem_drop z)
    · exact g.row r (List.mem_of_mem_drop h)
def wideS (S : Ma.Steps) : Ma.Steps := S.map fun r => r ++ [0]
theorem wide_drawn (d : Drawn L n S e) : Drawn (L + 1) n (wideS S) e := by
  have g := d.good
  refine ⟨⟨by unfold wideS; rw [List.length_map, g.len], g.pos, fun r hr => ?_⟩, d.nd, d.lt⟩
  obtain ⟨r0, h0, rfl⟩ := List.mem_map.mp hr
  obtain ⟨b1, b2⟩ := g.row r0 h0
  refine ⟨by rw [List.length_append, b1]; rfl, fun x hx => ?_⟩
  rcases List.mem_append.mp hx with z | z
  · exact b2 x z
  · rw [List.mem_singleton] at z; rw [z]; exact g.pos
def lwE (ns : List Int) (o : Ob) (L : Nat) (S : Ma.Steps) (e : List Nat) (S' : Ma.Steps) (e' : List Nat) (x : Str) (x8 x9 x10 x11 x12 x13 x14 x15 x16 : Option DV) : En := [some (.sh (.scr ns)), some (.own false o), some (.sh (nD L)), some (.sh (.tup [stD S, nsD e])), some (.sh (stD S)), some (.sh (nsD e)), some (.sh (.tup [stD S', nsD e'])), some (.sh (.str x)), x8, x9, x10, x11, x12, x13, x14, x15, x16, none, none]
end
end
end Dv

/-! W9 -/
namespace Dv
noncomputable section
open PySem PySem.Spec PyProof.Rows L2 Evl LamX
/-! W9: the law holds, over data. -/
theorem law_ok (ns : List Int) : m_law [.scr ns] = some (.sh (.bl true)) := by
  obtain ⟨o0, hp0, v0⟩ := law_pot_ok ns
  obtain ⟨k1, o1, hk1, hp1, v1⟩ := law_draw_ok hp0 (m := 3) (by omega) (by omega)
  obtain ⟨L, hL⟩ : ∃ L, L = 1 + k1 := ⟨_, rfl⟩
  have h1 : 1 ≤ L := by omega
  have h3 : L ≤ 3 := by omega
  obtain ⟨n, S, e, o2, dd, hn, hp2, v2⟩ := law_machine_ok hp1 (L := L) h3
  have g := dd.good
  have hnp := g.pos
  have hn12 : n ≤ 12 := by omega
  obtain ⟨S', e', hl, v6⟩ := law_least_ok g h3 (by omega) e
  obtain ⟨x, v7⟩ := repr_pair (drawn_sml dd h3 hn12)
  have sml := least_sml hl h3 hn12
  -- the machine, its ends turned
  obtain ⟨S1, e1, hm1, _, v8⟩ := init_ok (t := false) (e := e.reverse) g h1 h3 hn12 ((List.reverse_perm e).nodup_iff.mpr dd.nd) (fun y hy => dd.lt y (List.mem_reverse.mp hy))
  obtain ⟨rfl, rfl⟩ := hl.eq hm1 (fun w hw => by unfold Ma.accS; simp)
  -- the one named otherwise
  obtain ⟨m, R, F, o3, gR, hm12, ndF, ltF, eqR, hp3, v9⟩ := law_named_ok (e := e) g h1 h3 hn hp2
  obtain ⟨S2, e2, hm2, _, v10⟩ := init_ok (t := true) (e := F) gR h1 h3 hm12 ndF ltF
  obtain ⟨rfl, rfl⟩ := hl.eq hm2 eqR
  -- draws
  obtain ⟨st, o4, hst, hp4, v11⟩ := law_draw_ok hp3 (m := n) hnp (by omega)
  obtain ⟨at', o5, hat, hp5, v13⟩ := law_draw_ok hp4 (m := n) hnp (by omega)
  obtain ⟨th, o6, hth, hp6, v14⟩ := law_draw_ok hp5 (m := n) hnp (by omega)
  let E := fun o => lwE ns o L S e S' e' x
  let M : Option DV := some (.sh (mD L S' e'))
  let N9 : Option DV := some (.sh (.tup [stD R, nsD F]))
  let tn : List Nat := if st ∈ e then e.filter fun x => !decide (x = st) else e ++ [st]
  have hlenS : ∀ {ρ : En}, fVar 4 ρ = some (stD S) → fCb gLen (aCons (fVar 4) aNil) ρ = some (nD n) := fun h => fCb_e (aC h aN) (by rw [stD, gLen_l, List.length_map, g.len])
  have a0 : gSetN 1 (nCall m_law_pot (saCons (sFrz 0) (saCons (sP (fC (.int 0))) saNil))) (init 19 1 [.sh (.scr ns)]) = some (.nx [some (.sh (.scr ns)), some (.own false o0), none, none, none, none, none, none, none, none, none, none, none, none, none, none, none, none, none]) :=
    gSetN_e (ρ1 := init 19 1 [.sh (.scr ns)]) (nCall_e (ds := [.scr ns, .int 0]) rfl v0) (by show 1 < 19; omega)
  have d1 : sCallB 1 m_law_draw (saCons (sP (fC (.int 3))) saNil) [some (.sh (.scr ns)), some (.own false o0), none, none, none, none, none, none, none, none, none, none, none, none, none, none, none, none, none] = some (nD k1, [some (.sh (.scr ns)), some (.own false o1), none, none, none, none, none, none, none, none, none, none, none, none, none, none, none, none, none]) :=
    sCallB_e (i := 1) (sem := m_law_draw) (c := false) (c' := false) (rv := .sh (nD k1)) (ds := [nD 3]) (ρ := [some (.sh (.scr ns)), some (.own false o0), none, none, none, none, none, none, none, none, none, none, none, none, none, none, none, none, none]) (ρ1 := [some (.sh (.scr ns)), some (.own false o0), none, none, none, none, none, none, none, none, none, none, none, none, none, none, none, none, none]) rfl rfl rfl v1
  have a1 : gSet 2 (sOp gAdd (sP (fC (.int 1))) (sCallB 1 m_law_draw (saCons (sP (fC (.int 3))) saNil))) [some (.sh (.scr ns)), some (.own false o0), none, none, none, none, none, none, none, none, none, none, none, none, none, none, none, none, none] = some (.nx [some (.sh (.scr ns)), some (.own false o1), some (.sh (nD L)), none, none, none, none, none, none, none, none, none, none, none, none, none, none, none, none]) := by
    refine (gSet_e (sOp_e (a := nD 1) (b := nD k1) rfl d1 (gAdd_n _ _)) (by show 2 < 19; omega)).trans ?_
    rw [← hL]
    rfl
  have d2 : sCallB 1 m_law_machine (saCons (sFrz 2) (saCons (sP (fC (.int 6))) saNil)) [some (.sh (.scr ns)), some (.own false o1), some (.sh (nD L)), none, none, none, none, none, none, none, none, none, none, none, none, none, none, none, none] = some (.tup [stD S, nsD e], [some (.sh (.scr ns)), some (.own false o2), some (.sh (nD L)), none, none, none, none, none, none, none, none, none, none, none, none, none, none, none, none]) :=
    sCallB_e (i := 1) (sem := m_law_machine) (c := false) (c' := false) (rv := .sh (.tup [stD S, nsD e])) (ds := [nD L, nD 6]) (ρ := [some (.sh (.scr ns)), some (.own false o1), some (.sh (nD L)), none, none, none, none, none, none, none, none, none, none, none, none, none, none, none, none]) (ρ1 := [some (.sh (.scr ns)), some (.own false o1), some (.sh (nD L)), none, none, none, none, none, none, none, none, none, none, none, none, none, none, none, none]) rfl rfl rfl v2
  have a2 : gSet 3 (sCallB 1 m_law_machine (saCons (sFrz 2) (saCons (sP (fC (.int 6))) saNil))) [some (.sh (.scr ns)), some (.own false o1), some (.sh (nD L)), none, none, none, none, none, none, none, none, none, none, none, none, none, none, none, none] = some (.nx [some (.sh (.scr ns)), some (.own false o2), some (.sh (nD L)), some (.sh (.tup [stD S, nsD e])), none, none, none, none, none, none, none, none, none, none, none, none, none, none, none]) :=
    gSet_e d2 (by show 3 < 19; omega)
  have a3 : gTgt (.tp [4, 5]) (sFrz 3) [some (.sh (.scr ns)), some (.own false o2), some (.sh (nD L)), some (.sh (.tup [stD S, nsD e])), none, none, none, none, none, none, none, none, none, none, none, none, none, none, none] = some (.nx [some (.sh (.scr ns)), some (.own false o2), some (.sh (nD L)), some (.sh (.tup [stD S, nsD e])), some (.sh (stD S)), some (.sh (nsD e)), none, none, none, none, none, none, none, none, none, none, none, none, none]) := rfl
  have a4 : gPar [6, 7] [.I (sP (fCall m_law_least (aCons (fShr 3) aNil))), .I (sP (fCb gRepr (aCons (fVar 3) aNil)))] [some (.sh (.scr ns)), some (.own false o2), some (.sh (nD L)), some (.sh (.tup [stD S, nsD e])), some (.sh (stD S)), some (.sh (nsD e)), none, none, none, none, none, none, none, none, none, none, none, none, none] = some (.nx (E o2 none none none none none none none none none)) := by
    have c1 : fCall m_law_least (aCons (fShr 3) aNil) [some (.sh (.scr ns)), some (.own false o2), some (.sh (nD L)), some (.sh (.tup [stD S, nsD e])), some (.sh (stD S)), some (.sh (nsD e)), none, none, none, none, none, none, none, none, none, none, none, none, none] = some (.tup [stD S', nsD e']) := fCall_e (rv := .sh (.tup [stD S', nsD e'])) (ds := [.tup [stD S, nsD e]]) rfl v6
    have c2 : fCb gRepr (aCons (fVar 3) aNil) [some (.sh (.scr ns)), some (.own false o2), some (.sh (nD L)), some (.sh (.tup [stD S, nsD e])), some (.sh (stD S)), some (.sh (nsD e)), none, none, none, none, none, none, none, none, none, none, none, none, none] = some (.str x) := fCb_e (ds := [.tup [stD S, nsD e]]) rfl v7
    unfold gPar mGo
    rw [sP_e c1]
    show (match (match mGo [.I (sP (fCb gRepr (aCons (fVar 3) aNil)))] _ with | some (rvs, ρ') => some (RV.sh (.tup [stD S', nsD e']) :: rvs, ρ') | none => none) with | some (rvs, ρ') => _ | none => _) = _
    unfold mGo
    rw [sP_e c2]
    rfl
  have a5 : gSet 8 (sP (fCall m_Machine (aCons (fShr 2) (aCons (fShr 4) (aCons (fRev (fVar 5)) aNil))))) (E o2 none none none none none none none none none) = some (.nx (E o2 M none none none none none none none none)) := by
    refine gSet_e (sP_e (fCall_e (rv := .sh (mD L S' e')) (ds := [nD L, stD S, nsD e.reverse]) (aC rfl (aC rfl (aC ?_ aN))) v8)) (by show 8 < 19; omega)
    show some (D.lst (e.map nD).reverse) = some (D.lst (e.reverse.map nD))
    rw [List.map_reverse]
  have lawis : ∀ (ρ : En) (i : Nat), fShr i ρ = some (mD L S' e') → fShr 2 ρ = some (nD L) → fShr 6 ρ = some (.tup [stD S', nsD e']) → tNt (tTr (fCall m_law_is (aCons (fShr i) (aCons (fShr 2) (aCons (fShr 6) aNil))))) ρ = some false := fun ρ i z1 z2 z3 => (tNt_e (x := true) (tTr_e (fCall_e (aC z1 (aC z2 (aC z3 aN))) (law_is_ok (by omega) sml)) rfl))
  have a6 : gIf (sT (tOr' (tNt (tTr (fCall m_law_is (aCons (fShr 8) (aCons (fShr 2) (aCons (fShr 6) aNil)))))) (tB' (fOp gNeA (fCb gRepr (aCons (fVar 3) aNil)) (fVar 7))))) (gRet (sP (fC (.bl false)))) gNil' (E o2 M none none none none none none none none) = some (.nx (E o2 M none none none none none none none none)) :=
    gIfN_e (sT_e (tOr_ff (lawis _ 8 rfl rfl rfl) (tB_e (fOp_e (fCb_e (ds := [.tup [stD S, nsD e]]) rfl v7) rfl (gNe_str x)))))
  have a7 : gIf (sT (tOr' (tNt (tTr (fCall m_law_words_right (aCons (fShr 3) (aCons (fShr 2) (aCons (fShr 8) aNil)))))) (tNt (tTr (fCall m_law_copied_right (aCons (fShr 3) (aCons (fShr 2) (aCons (fShr 8) (aCons (fShr 6) aNil))))))))) (gRet (sP (fC (.bl false)))) gNil' (E o2 M none none none none none none none none) = some (.nx (E o2 M none none none none none none none none)) :=
    gIfN_e (sT_e (tOr_ff (tNt_e (x := true) (tTr_e (fCall_e (ds := [.tup [stD S, nsD e], nD L, mD L S' e']) rfl (words_right_ok g h1 h3 hn12 hl)) rfl)) (tNt_e (x := true) (tTr_e (fCall_e (ds := [.tup [stD S, nsD e], nD L, mD L S' e', .tup [stD S', nsD e']]) rfl (copied_ok dd h1 h3 hn12 hl)) rfl))))
  have a8 : gSet 9 (sCallB 1 m_law_named (saCons (sFrz 3) saNil)) (E o2 M none none none none none none none none) = some (.nx (E o3 M N9 none none none none none none none)) :=
    gSet_e (sCallB_e (i := 1) (sem := m_law_named) (c := false) (c' := false) (rv := .sh (.tup [stD R, nsD F])) (ds := [.tup [stD S, nsD e]]) (ρ := E o2 M none none none none none none none none) (ρ1 := E o2 M none none none none none none none none) rfl rfl rfl v9) (by show 9 < 19; omega)
  have a9 : gSet 10 (sP (fCall m_Machine (aPick [2, 1, 0] (aCons (fCb gTuple (aCons (fOp gIx (fVar 9) (fC (.int 1))) aNil)) (aCons (fCb gTuple (aCons (fLc (iSeq (fOp gIx (fVar 9) (fC (.int 0)))) (.nm 17) tYs (fCb gTuple (aCons (fVar 17) aNil)) [17]) aNil)) (aCons (fShr 2) aNil)))))) (E o3 M N9 none none none none none none none) = some (.nx (E o3 M N9 M none none none none none none)) := by
    refine gSet_e (sP_e (fCall_e (rv := .sh (mD L S' e')) (ds := [nD L, stT true R, rowT true F]) (aPick_e (ds := [rowT true F, stT true R, nD L]) (aC (fCb_e (aC (fOp_e (a := .tup [stD R, nsD F]) (b := nD 1) (d := nsD F) rfl rfl (atD rfl)) aN) rfl) (aC (fCb_e (aC (fLc_map (xs := R) (G := nsD) (F := rowT true) (iSeq_l (fOp_e (a := .tup [stD R, nsD F]) (b := nD 0) (d := stD R) rfl rfl (atD rfl))) (by rw [gR.len]; omega) fun r hr => ⟨_, rfl, rfl, fCb_e (ds := [nsD r]) rfl rfl⟩) aN) rfl) rfl)) rfl) v10)) (by show 10 < 19; omega)
  have t10a : tB' (fOp gIsNot (fOp (gEqO "Machine" m_Machine___eq__) (fShr 10) (fShr 8)) (fC (.bl true))) (E o3 M N9 M none none none none none none) = some false := by
    refine tB_e (fOp_e (a := .bl true) (b := .bl true) ((fOp_e (a := mD L S' e') (b := mD L S' e') rfl rfl gEqO_mm).trans ?_) rfl rfl)
    simp
  have t10b : tB' (fOp gIsNot (fOp (gEqO "Machine" m_Machine___eq__) (fShr 8) (fShr 9)) (fC (.bl false))) (E o3 M N9 M none none none none none none) = some false :=
    tB_e (fOp_e (a := .bl false) (b := .bl false) (fOp_e (a := mD L S' e') (b := .tup [stD R, nsD F]) rfl rfl gEqO_mt) rfl rfl)
  have a10 : gIf (sT (tOr' (tNt (tTr (fCall m_law_is (aCons (fShr 10) (aCons (fShr 2) (aCons (fShr 6) aNil)))))) (tOr' (tB' (fOp gIsNot (fOp (gEqO "Machine" m_Machine___eq__) (fShr 10) (fShr 8)) (fC (.bl true)))) (tB' (fOp gIsNot (fOp (gEqO "Machine" m_Machine___eq__) (fShr 8) (fShr 9)) (fC (.bl false))))))) (gRet (sP (fC (.bl false)))) gNil' (E o3 M N9 M none none none none none none) = some (.nx (E o3 M N9 M none none none none none none)) :=
    gIfN_e (sT_e (tOr_ff (lawis _ 10 rfl rfl rfl) (tOr_ff t10a t10b)))
  have a11 : gSet 11 (sCallB 1 m_law_draw (saCons (sP (fCb gLen (aCons (fVar 4) aNil))) saNil)) (E o3 M N9 M none none none none none none) = some (.nx (E o4 M N9 M (some (.sh (nD st))) none none none none none)) :=
    gSet_e (sCallB_e (i := 1) (sem := m_law_draw) (c := false) (c' := false) (rv := .sh (nD st)) (ds := [nD n]) (ρ := E o3 M N9 M none none none none none none) (ρ1 := E o3 M N9 M none none none none none none) rfl (saC (sP_e (hlenS rfl)) rfl) rfl v11) (by show 11 < 19; omega)
  have he := Ma.nodup_le e n dd.nd dd.lt
  have a12 : gSet 12 (sP (fIf (tB' (fOp gIn (fVar 11) (fVar 5))) (fLc (iSeq (fVar 5)) (.nm 18) (tB' (fOp gNeA (fVar 18) (fVar 11))) (fShr 18) [18]) (fOp gAdd (fVar 5) (fLst (aCons (fShr 11) aNil))))) (E o4 M N9 M (some (.sh (nD st))) none none none none none) = some (.nx (E o4 M N9 M (some (.sh (nD st))) (some (.sh (nsD tn))) none none none none)) := by
    refine gSet_e (sP_e ?_) (by show 12 < 19; omega)
    have t : tB' (fOp gIn (fVar 11) (fVar 5)) (E o4 M N9 M (some (.sh (nD st))) none none none none none) = some (decide (st ∈ e)) := tB_e (fOp_e (a := nD st) (b := nsD e) rfl rfl (gIn_n _ _))
    show _ = some (nsD (if st ∈ e then e.filter fun x => !decide (x = st) else e ++ [st]))
    by_cases q : st ∈ e
    · rw [decide_eq_true q] at t
      rw [if_pos q]
      exact (fIf_t t).trans (fLc_filter (xs := e) (G := nD) (F := nD) (p := fun x => !decide (x = st)) (iSeq_l rfl) (by omega) fun y hy => ⟨_, rfl, tB_e (fOp_e (a := nD y) (b := nD st) rfl rfl (gNe_n _ _)), fun _ => rfl⟩)
    · rw [decide_eq_false q] at t
      rw [if_neg q]
      refine (fIf_f t).trans ((fOp_e (a := .lst (e.map nD)) (b := .lst [nD st]) rfl (fLst_e (ds := [nD st]) rfl (by show 1 ≤ 100000; omega)) (gAdd_l (by rw [List.length_map]; show e.length + 1 ≤ 100000; omega))).trans ?_)
      show _ = some (D.lst ((e ++ [st]).map nD))
      rw [List.map_append]
      rfl
  have a13 : gIf (sT (tB' (fOp gNeA (fOp (gEqO "Machine" m_Machine___eq__) (fCall m_Machine (aCons (fShr 2) (aCons (fShr 4) (aCons (fShr 12) aNil)))) (fShr 8)) (fOp gEqA (fCall m_law_least (aCons (fTup (aCons (fShr 4) (aCons (fShr 12) aNil))) aNil)) (fVar 6))))) (gRet (sP (fC (.bl false)))) gNil' (E o4 M N9 M (some (.sh (nD st))) (some (.sh (nsD tn))) none none none none) = some (.nx (E o4 M N9 M (some (.sh (nD st))) (some (.sh (nsD tn))) none none none none)) :=
    gIfN_e (sT_e (chk_ok (turned_drawn dd hst) h1 h3 hn12 (R := S') (q := e') rfl rfl rfl rfl rfl))
  have d3 : sCallB 1 m_law_draw (saCons (sP (fCb gLen (aCons (fVar 4) aNil))) saNil) (E o4 M N9 M (some (.sh (nD st))) (some (.sh (nsD tn))) none none none none) = some (nD at', E o5 M N9 M (some (.sh (nD st))) (some (.sh (nsD tn))) none none none none) :=
    sCallB_e (i := 1) (sem := m_law_draw) (c := false) (c' := false) (rv := .sh (nD at')) (ds := [nD n]) (ρ := E o4 M N9 M (some (.sh (nD st))) (some (.sh (nsD tn))) none none none none) (ρ1 := E o4 M N9 M (some (.sh (nD st))) (some (.sh (nsD tn))) none none none none) rfl (saC (sP_e (hlenS rfl)) rfl) rfl v13
  have d4 : sCallB 1 m_law_draw (saCons (sP (fCb gLen (aCons (fVar 4) aNil))) saNil) (E o5 M N9 M (some (.sh (nD st))) (some (.sh (nsD tn))) none none none none) = some (nD th, E o6 M N9 M (some (.sh (nD st))) (some (.sh (nsD tn))) none none none none) :=
    sCallB_e (i := 1) (sem := m_law_draw) (c := false) (c' := false) (rv := .sh (nD th)) (ds := [nD n]) (ρ := E o5 M N9 M (some (.sh (nD st))) (some (.sh (nsD tn))) none none none none) (ρ1 := E o5 M N9 M (some (.sh (nD st))) (some (.sh (nsD tn))) none none none none) rfl (saC (sP_e (hlenS rfl)) rfl) rfl v14
  have a14 : gPar [13, 14] [.I (sCallB 1 m_law_draw (saCons (sP (fCb gLen (aCons (fVar 4) aNil))) saNil)), .I (sCallB 1 m_law_draw (saCons (sP (fCb gLen (aCons (fVar 4) aNil))) saNil))] (E o4 M N9 M (some (.sh (nD st))) (some (.sh (nsD tn))) none none none none) = some (.nx (E o6 M N9 M (some (.sh (nD st))) (some (.sh (nsD tn))) (some (.sh (nD at'))) (some (.sh (nD th))) none none)) := by
    unfold gPar mGo
    rw [d3]
    show (match (match mGo [.I (sCallB 1 m_law_draw (saCons (sP (fCb gLen (aCons (fVar 4) aNil))) saNil))] (E o5 M N9 M (some (.sh (nD st))) (some (.sh (nsD tn))) none none none none) with | some (rvs, ρ') => some (RV.sh (nD at') :: rvs, ρ') | none => none) with | some (rvs, ρ') => _ | none => _) = _
    unfold mGo
    rw [d4]
    rfl
  let ρ14 : En := E o6 M N9 M (some (.sh (nD st))) (some (.sh (nsD tn))) (some (.sh (nD at'))) (some (.sh (nD th))) none none
  have hSl : S.length = n := g.len
  obtain ⟨b1, b2⟩ := g.at hat
  have f1 : fSl (fVar 4) oNo (oAt (fShr 13)) ρ14 = some (stD (S.take at')) := by
    refine (fSl_to (ds := S.map nsD) (k := at') rfl rfl (by rw [List.length_map]; omega)).trans ?_
    rw [← List.map_take]
    rfl
  have f2 : fSl (fVar 4) (oAt (fOp gAdd (fVar 13) (fC (.int 1)))) oNo ρ14 = some (stD (S.drop (at' + 1))) := by
    refine (fSl_from (ds := S.map nsD) (k := at' + 1) rfl (fOp_e (a := nD at') (b := nD 1) rfl rfl (gAdd_n _ _)) (by rw [List.length_map]; omega)).trans ?_
    rw [← List.map_drop]
    rfl
  have f3 : fSl (fOp gIx (fVar 4) (fVar 13)) (oAt (fC (.int 1))) oNo ρ14 = some (nsD ((S.getD at' []).drop 1)) := by
    refine (fSl_from (ds := (S.getD at' []).map nD) (k := 1) (fOp_e (a := stD S) (b := nD at') rfl rfl (gIx_st (by omega))) rfl (by rw [List.length_map, b1]; exact h1)).trans ?_
    rw [← List.map_drop]
    rfl
  have f4 : fOp gAdd (fLst (aCons (fShr 14) aNil)) (fSl (fOp gIx (fVar 4) (fVar 13)) (oAt (fC (.int 1))) oNo) ρ14 = some (nsD (th :: (S.getD at' []).drop 1)) :=
    (fOp_e (a := .lst [nD th]) (b := .lst (((S.getD at' []).drop 1).map nD)) (fLst_e (ds := [nD th]) rfl (by show 1 ≤ 100000; omega)) f3 (gAdd_l (by rw [List.length_map, List.length_drop, b1]; show 1 + (L - 1) ≤ 100000; omega))).trans rfl
  have f5 : fOp gAdd (fOp gAdd (fSl (fVar 4) oNo (oAt (fShr 13))) (fLst (aCons (fOp gAdd (fLst (aCons (fShr 14) aNil)) (fSl (fOp gIx (fVar 4) (fVar 13)) (oAt (fC (.int 1))) oNo)) aNil))) (fSl (fVar 4) (oAt (fOp gAdd (fVar 13) (fC (.int 1)))) oNo) ρ14 = some (stD (bentS S at' th)) := by
    refine (fOp_e (fOp_e (a := .lst ((S.take at').map nsD)) (b := .lst [nsD (th :: (S.getD at' []).drop 1)]) f1 (fLst_e (ds := [nsD (th :: (S.getD at' []).drop 1)]) (aC f4 aN) (by show 1 ≤ 100000; omega)) (gAdd_l (by rw [List.length_map, List.length_take]; show min at' S.length + 1 ≤ 100000; omega))) (b := .lst ((S.drop (at' + 1)).map nsD)) f2 (gAdd_l (by rw [List.length_append, List.length_map, List.length_map, List.length_take, List.length_drop]; show min at' S.length + 1 + (S.length - (at' + 1)) ≤ 100000; omega))).trans ?_
    show _ = some (D.lst ((bentS S at' th).map nsD))
    unfold bentS
    rw [List.map_append, List.map_append]
    rfl
  have a15 : gSet 15 (sP (fOp gAdd (fOp gAdd (fSl (fVar 4) oNo (oAt (fShr 13))) (fLst (aCons (fOp gAdd (fLst (aCons (fShr 14) aNil)) (fSl (fOp gIx (fVar 4) (fVar 13)) (oAt (fC (.int 1))) oNo)) aNil))) (fSl (fVar 4) (oAt (fOp gAdd (fVar 13) (fC (.int 1)))) oNo))) ρ14 = some (.nx (E o6 M N9 M (some (.sh (nD st))) (some (.sh (nsD tn))) (some (.sh (nD at'))) (some (.sh (nD th))) (some (.sh (stD (bentS S at' th)))) none)) :=
    gSet_e (sP_e f5) (by show 15 < 19; omega)
  let ρ15 : En := E o6 M N9 M (some (.sh (nD st))) (some (.sh (nsD tn))) (some (.sh (nD at'))) (some (.sh (nD th))) (some (.sh (stD (bentS S at' th)))) none
  have a16 : gIf (sT (tB' (fOp gNeA (fOp (gEqO "Machine" m_Machine___eq__) (fCall m_Machine (aCons (fShr 2) (aCons (fShr 15) (aCons (fShr 5) aNil)))) (fShr 8)) (fOp gEqA (fCall m_law_least (aCons (fTup (aCons (fShr 15) (aCons (fShr 5) aNil))) aNil)) (fVar 6))))) (gRet (sP (fC (.bl false)))) gNil' ρ15 = some (.nx ρ15) :=
    gIfN_e (sT_e (chk_ok (bent_drawn dd h1 hat hth) h1 h3 hn12 (R := S') (q := e') rfl rfl rfl rfl rfl))
  have a17 : gSet 16 (sP (fLc (iSeq (fVar 4)) (.nm 17) tYs (fOp gAdd (fVar 17) (fLst (aCons (fC (.int 0)) aNil))) [17])) ρ15 = some (.nx (E o6 M N9 M (some (.sh (nD st))) (some (.sh (nsD tn))) (some (.sh (nD at'))) (some (.sh (nD th))) (some (.sh (stD (bentS S at' th)))) (some (.sh (stD (wideS S)))))) := by
    refine gSet_e (sP_e ((fLc_map (xs := S) (G := nsD) (F := fun r => nsD (r ++ [0])) (iSeq_l rfl) (by omega) fun r hr => ⟨_, rfl, rfl, ?_⟩).trans ?_)) (by show 16 < 19; omega)
    · refine (fOp_e (a := .lst (r.map nD)) (b := .lst [nD 0]) rfl (fLst_e (ds := [nD 0]) rfl (by show 1 ≤ 100000; omega)) (gAdd_l (by rw [List.length_map, (g.row r hr).1]; show L + 1 ≤ 100000; omega))).trans ?_
      show _ = some (D.lst ((r ++ [0]).map nD))
      rw [List.map_append]
      rfl
    · show _ = some (D.lst ((wideS S).map nsD))
      unfold wideS
      rw [List.map_map]
      rfl
  let ρ17 : En := E o6 M N9 M (some (.sh (nD st))) (some (.sh (nsD tn))) (some (.sh (nD at'))) (some (.sh (nD th))) (some (.sh (stD (bentS S at' th)))) (some (.sh (stD (wideS S))))
  have e3 : fOp gEqA (fVar 2) (fC (.int 3)) ρ17 = some (.bl (decide (L = 3))) := fOp_e (a := nD L) (b := nD 3) rfl rfl (gEq_n _ _)
  have a18 : fOr (fOp gEqA (fVar 2) (fC (.int 3))) (fOp gIs (fOp (gEqO "Machine" m_Machine___eq__) (fCall m_Machine (aCons (fOp gAdd (fVar 2) (fC (.int 1))) (aCons (fShr 16) (aCons (fShr 5) aNil)))) (fShr 8)) (fC (.bl false))) ρ17 = some (.bl true) := by
    by_cases q : L = 3
    · rw [decide_eq_true q] at e3
      unfold fOr
      rw [e3]
    · rw [decide_eq_false q] at e3
      obtain ⟨S3, e4, hm3, _, v17⟩ := init_ok (t := false) (L := L + 1) (wide_drawn dd).good (by omega) (by omega) hn12 (wide_drawn dd).nd (wide_drawn dd).lt
      have e5 : fOp gIs (fOp (gEqO "Machine" m_Machine___eq__) (fCall m_Machine (aCons (fOp gAdd (fVar 2) (fC (.int 1))) (aCons (fShr 16) (aCons (fShr 5) aNil)))) (fShr 8)) (fC (.bl false)) ρ17 = some (.bl true) := by
        refine fOp_e (a := .bl false) (b := .bl false) ((fOp_e (a := mD (L + 1) S3 e4) (b := mD L S' e') (fCall_e (rv := .sh (mD (L + 1) S3 e4)) (ds := [nD (L + 1), stD (wideS S), nsD e]) (aC (fOp_e (a := nD L) (b := nD 1) rfl rfl (gAdd_n _ _)) (aC rfl (aC rfl aN))) v17) rfl gEqO_mm).trans ?_) rfl rfl
        rw [decide_eq_false (show ¬ L + 1 = L by omega)]
        first | rfl | done
      unfold fOr
      rw [e3]
      exact e5
  exact runP_e rfl ((gSeq_e a0).trans ((gSeq_e a1).trans ((gSeq_e a2).trans ((gSeq_e a3).trans ((gSeq_e a4).trans ((gSeq_e a5).trans ((gSeq_e a6).trans ((gSeq_e a7).trans ((gSeq_e a8).trans ((gSeq_e a9).trans ((gSeq_e a10).trans ((gSeq_e a11).trans ((gSeq_e a12).trans ((gSeq_e a13).trans ((gSeq_e a14).trans ((gSeq_e a15).trans ((gSeq_e a16).trans ((gSeq_e a17).trans (gRet_e (sP_e a18))))))))))))))))))))
end
end Dv

/-! G4 -/
namespace Dv
noncomputable section
open PySem PySem.Spec PyProof.Rows L2 Evl LamX
variable [Nm]
def top' (i : Nat) : Stmt := PySem.Challenge.pw_widefills_k11_whole_least_machines.main.body.getD i (.Pass ⟨0, 0, 0, 0⟩)
theorem sc_numbered : FnScope n_numbered ["marks"] (defScope (top' 30)) := ⟨rfl, rfl, rfl, by decide +kernel, rfl, by decide +kernel, by decide +kernel⟩
theorem b_numbered {P : Program} {w : World} {K : PySem.W.Frag} {ca : CA} {mg : Str → Option Value} {base : Heap} {f : Addr} {k : Nat} (q_len : mg "len" = none) :
  ∀ (κ : Type) (_ : DecidableEq κ) (ob : Addr → List (κ × V) → HO) (ky : Hp → V → κ → Prop) (cdv : Value) (A : Around) (out : List Env) (s : Shared) (H : Hp) (E : XK), (∀ X : Cx, X.prog = P → X.w = w → Sdk X κ ob ky) → A.guards = some [] → Room k (A.deeper (envOfC "numbered" (defScope (top' 30)) s.heap.objs.size f cdv)) →
      PSs (cxOf CX0 P w K mg base n_numbered "numbered" (defScope (top' 30)) f cdv A out s H E).nox (defBody (top' 30)) (tNumd K ca ob ky) := fun κ _ ob ky cdv A out s H E D gd hr =>
  pss_cons (ps_set (i := 1) sc_numbered.nd rfl (Or.inr rfl) (pe_dnewG (D _ rfl rfl)))
    (pss_one (ps_ret (pe_lc (own := [("mark", 2)]) rfl sc_numbered.nd (pi_list (pv 0)) (blkOk_by (N := n_numbered) (sc := defScope (top' 30)) (by decide +kernel)) (fun _ _ _ _ _ => pg_name (i := 2) sc_numbered.nd rfl (Or.inl rfl)) (fun _ _ _ _ _ => pts_nil)
      (fun _ _ _ _ _ => pe_setdG (D _ rfl rfl) (hu_1 hr) (pv 1) (pv 2) (pe_callB (D _ rfl rfl).len rfl q_len rfl (pa_cons (pv 1) pa_nil)) ⟨rfl, rfl, rfl, rfl⟩) (fun _ => rfl))))
end
end Dv

/-! G5 -/
namespace Dv
noncomputable section
open NdefX PySem PySem.Spec PyProof.Rows L2 Evl LamX
variable [Nm]
def top5 (i : Nat) : Stmt := PySem.Challenge.pw_widefills_k11_whole_least_machines.main.body.getD i (.Pass ⟨0, 0, 0, 0⟩)

abbrev stLead : Stmt := (defBody (top' 31)).headD (.Pass ⟨0, 0, 0, 0⟩)
abbrev nfLead (env : Env) (c' : Addr) : NF := NF.of stLead "lead" (env.qual ++ "lead") (cloFrom env.cells (C8.fnScope stLead).names []) c'
theorem nsc_lead : NScope n_lead ["state", "letter"] ["steps"] (C8.fnScope stLead) := nscope_by (by decide +kernel)
theorem nok_lead {P : Program} {w : World} {K : PySem.W.Frag} {ca : CA} {mg : Str → Option Value} {base : Heap} {k : Nat} {f : Addr} {qual : Str} {cl : List (Str × Addr)} {c' : Addr} {cvs : List V} {cds : List D} :
    NOk P w K mg base CX0 (k + 1) f (NF.of stLead "lead" qual cl c') ["state", "letter"] ["steps"] (spL K ca 2 m_lead cvs cds) :=
  nokL (N := n_lead) (g := g_lead) nsc_lead (fun doc pm ctv us h => by
    match us, h with
    | [a, b], _ => rfl) (by decide) fun A out s H E hr => g_one (g_ret (s_pure (d_ix (d_w (d_ix (d_var (pe_var rfl (Or.inr (Or.inr rfl)))) (d_var (pe_var rfl (Or.inl rfl))) (fun _ _ => rfl))) (d_var (pe_var rfl (Or.inl rfl))) (fun _ _ => rfl))))

theorem sc_explored : FnScope n_explored ["begin", "letters", "lead", "what", "limit"] (defScope (top' 28)) := ⟨rfl, rfl, rfl, by decide +kernel, rfl, by decide +kernel, by decide +kernel⟩
theorem b_explored {I : Nm} {P : Program} {w : World} {K : PySem.W.Frag} {ca : CA} {mg : Str → Option Value} {base : Heap} {f : Addr} {k : Nat} {fa : Addr} {F : NF} (q_len : mg "len" = none) (q_range : mg "range" = none)
    (NK : ∀ cvs cds, NOk P w K mg base CX0 k fa F ["state", "letter"] ["steps"] (@spL ((I.fun fa F).caps K ca cvs cds) K ca 2 m_lead cvs cds)) :
    ∀ (cvs : List V) (cds : List D) (cdv : Value) (A : Around) (out : List Env) (s : Shared) (H : Hp) (E : XK), CellsAt F.cl ["steps"] (cvs.map some) s.heap H → (∀ y c, F.cl.lookup y = some c → c ∉ frs out) → A.guards = some [] → Room k (A.deeper (envOfC "explored" (defScope (top' 28)) s.heap.objs.size f cdv)) →
      PSs (cxOf CX0 P w K mg base n_explored "explored" (defScope (top' 28)) f cdv A out s H E).nox (defBody (top' 28)) (@RdS ((I.fun fa F).caps K ca cvs cds) K ca (g_explored fa m_lead cds)) := fun cvs cds cdv A out s H E C nf gd hr => by
  letI : Nm := (I.fun fa F).caps K ca cvs cds
  have L : LeadE (cxOf CX0 P w K mg base n_explored "explored" (defScope (top' 28)) f cdv A out s H E).nox ca k fa F ["state", "letter"] ["steps"] m_lead cvs cds :=
    ⟨NK cvs cds, C, nf, fun y c _ z => absurd (show c ∈ ([] : List Addr) from z) (by simp), fun Hs h => ⟨h.1.2, h.2⟩, fun H h => h.2 _ List.mem_cons_self⟩
  exact (g_seq (g_par3 (ps_par3 (i := 5) (j := 6) (l := 7) rfl sc_explored.nd rfl rfl rfl (by decide) (by decide) (by decide) rfl rfl rfl (m_N (n_dic1 (hu_1 hr) (d_shr (pv 0)) (d_c pe_int rfl)) (m_N (n_lst (sa_cons (s_frz (pv 0)) sa_nil)) (m_N (n_lst sa_nil) m_nil))) rfl))
    (g_seq (g_wh (ps_while PassesOwn.never (d_tlt (d_w (d_cb okLen (pe_callB call_len rfl q_len (by decide +kernel) (aw_cons (d_var (pv 7)) aw_nil)))) (d_w (d_cb okLen (pe_callB call_len rfl q_len (by decide +kernel) (aw_cons (d_var (pv 6)) aw_nil))))) (g_seq (g_setN (ps_set (i := 8) sc_explored.nd rfl (Or.inl rfl) (n_lst sa_nil)))
    (g_seq (g_for (tg := (.nm 9)) (ps_for PassesOwn.never rfl (i_range rfl q_range (d_shr (pv 1))) (pg_name (i := 9) sc_explored.nd rfl (Or.inl rfl)) (g_seq (g_set (ps_set (i := 10) sc_explored.nd rfl (Or.inl rfl) (s_pure (e_lead L hr (Nat.le_refl _) rfl (Or.inl rfl) (a_cons (d_ix (d_var (pv 6)) (d_w (d_cb okLen (pe_callB call_len rfl q_len (by decide +kernel) (aw_cons (d_var (pv 7)) aw_nil)))) (fun _ _ => rfl)) (a_cons (d_shr (pv 9)) a_nil))))))
    (g_seq (g_if (s_tpure (d_tdni (hu_1 hr) (d_shr (pv 10)) (d_var (pv 5)))) (g_seq (g_dput (hu_1 hr) (pv 5) (d_shr (pv 10)) (d_cb okLen (pe_callB call_len rfl q_len (by decide +kernel) (aw_cons (d_var (pv 6)) aw_nil))))
    (g_one (w_app (pv 6) (s_frz (pv 10))))) g_nil)
    (g_one (w_app (pv 8) (s_pure (d_dget (hu_1 hr) (d_var (pv 5)) (d_shr (pv 10)) (fun _ _ => rfl)))))))))
    (g_seq (w_app (pv 7) (s_frz (pv 8)))
    (g_one (g_if (s_tpure (PW.pt (d_wand (d_tisnot (d_var (pv 4)) (d_w (d_c pe_non rfl))) (d_wand1 (d_tgt (d_w (d_cb okLen (pe_callB call_len rfl q_len (by decide +kernel) (aw_cons (d_var (pv 6)) aw_nil)))) (d_var (pv 4))))))) (g_one g_never) g_nil)))))))
    (g_one (g_ret (s_tup (sa_cons (s_frz (pv 6)) (sa_cons (s_frz (pv 7)) sa_nil)))))))
end
end Dv

/-! G6 -/
namespace Dv
noncomputable section
open NdefX PySem PySem.Spec PyProof.Rows L2 Evl LamX
variable [Nm]
def top6 (i : Nat) : Stmt := PySem.Challenge.pw_widefills_k11_whole_least_machines.main.body.getD i (.Pass ⟨0, 0, 0, 0⟩)

theorem sc_least_form : FnScope n_least_form ["letters", "steps", "ends"] (defScope (top' 31)) := ⟨rfl, rfl, rfl, by decide +kernel, rfl, by decide +kernel, by decide +kernel⟩
abbrev restLF : List Stmt := (defBody (top' 31)).tail
theorem b_lf_rest {I : Nm} {P : Program} {w : World} {K : PySem.W.Frag} {ca : CA} {mg : Str → Option Value} {base : Heap} {f : Addr} {k : Nat} {fa : Addr} {cl : List (Str × Addr)} (q_GREATEST_STATES : ∃ t, mg "GREATEST_STATES" = some (.int 60 t)) (q_enumerate : mg "enumerate" = none) (q_max : mg "max" = none) (q_range : mg "range" = none)
    (F_numbered : FnE P w K mg base "numbered" k ["marks"] (@spP I K ca semNumd)) (cdv : Value) (A : Around) (out : List Env) (s : Shared) (H : Hp) (E : XK) (CE_explored : CalC I P w K ca mg base "explored" k cl ["steps"] (m_explored fa) [.non, .non])
    (cp : (cxOf CX0 P w K mg base n_least_form "least_form" (defScope (top' 31)) f cdv A out s H E).nox.Ok → Caps (cxOf CX0 P w K mg base n_least_form "least_form" (defScope (top' 31)) f cdv A out s H E).nox cl ["steps"] [1]) (gd : A.guards = some []) (hr : Room k (A.deeper (envOfC "least_form" (defScope (top' 31)) s.heap.objs.size f cdv))) :
    PSs (cxOf CX0 P w K mg base n_least_form "least_form" (defScope (top' 31)) f cdv A out s H E).nox restLF (@RdS I K ca (g_least_form fa)) := by
  letI := I
  exact (g_seq (g_setN (ps_set (i := 4) sc_least_form.nd rfl (Or.inr rfl) (n_dc (own := [("state", 11)]) rfl sc_least_form.nd (i_seqW (d_var (pv 2))) (blkOk_by (N := n_least_form) (sc := defScope (top' 31)) (by decide +kernel)) (fun _ _ _ _ _ => (pg_name (i := 11) sc_least_form.nd rfl (Or.inl rfl))) (fun _ _ _ _ _ => (d_shr (pv 11))) (fun _ _ _ _ _ => (d_c pe_bl rfl)) (by decide))))
    (g_seq (g_tgt (t := (.tp [5, 6])) (ps_asg (s_pure (e_calC CE_explored gd hr rfl (fun _ _ _ => rfl) cp (a_cons (d_c pe_int rfl) (a_cons (d_shr (pv 0)) (a_cons (d_shr (pv 3)) a_nil))))) (pg_tup rfl (pgs_cons (pg_name (i := 5) sc_least_form.nd rfl (Or.inr rfl)) (pgs_cons (pg_name (i := 6) sc_least_form.nd rfl (Or.inr rfl)) pgs_nil)))))
    (g_seq (g_parT (is := [7, 8]) (by decide) (ps_asg (pe_tup (m_I (s_pure (c_pure (e_call F_numbered gd hr rfl (a_cons (d_lc (own := [("state", 11)]) rfl sc_least_form.nd (i_seqW (d_var (pv 5))) (blkOk_by (N := n_least_form) (sc := defScope (top' 31)) (by decide +kernel)) (fun _ _ _ _ _ => (pg_name (i := 11) sc_least_form.nd rfl (Or.inl rfl))) (fun _ _ _ _ _ => ts_nil) (fun _ _ _ _ _ => (d_din (hu_1 hr) (d_shr (pv 11)) (d_var (pv 4)))) (by decide)) a_nil)))) (m_I (s_pure (d_c pe_int rfl)) m_nil))) (pg_tup rfl (pgs_cons (pg_name (i := 7) sc_least_form.nd rfl (Or.inr rfl)) (pgs_cons (pg_name (i := 8) sc_least_form.nd rfl (Or.inl rfl)) pgs_nil)))))
    (g_seq (g_wh (ps_while PassesOwn.never (d_tneA (hu_eq hr) (d_var (pv 8)) (d_w (d_add (d_w (d_cb okMaxL (pe_callB (cr_max rfl) rfl q_max (by decide +kernel) (aw_cons (d_var (pv 7)) aw_nil)))) (d_w (d_c pe_int rfl))))) (g_seq (g_set (ps_set (i := 8) sc_least_form.nd rfl (Or.inl rfl) (s_pure (d_add (d_w (d_cb okMaxL (pe_callB (cr_max rfl) rfl q_max (by decide +kernel) (aw_cons (d_var (pv 7)) aw_nil)))) (d_w (d_c pe_int rfl))))))
    (g_seq (g_if (s_tpure (d_tgt (d_var (pv 8)) (d_w (d_gi q_GREATEST_STATES rfl)))) (g_one g_never) g_nil)
    (g_one (g_set (ps_set (i := 7) sc_least_form.nd rfl (Or.inr rfl) (s_pure (c_pure (e_call F_numbered gd hr rfl (a_cons (d_lc (own := [("at", 12), ("row", 13)]) rfl sc_least_form.nd (i_enumW rfl q_enumerate (d_var (pv 6))) (blkOk_by (N := n_least_form) (sc := defScope (top' 31)) (by decide +kernel)) (fun _ _ _ _ _ => (pg_tup rfl (pgs_cons (pg_name (i := 12) sc_least_form.nd rfl (Or.inl rfl)) (pgs_cons (pg_name (i := 13) sc_least_form.nd rfl (Or.inl rfl)) pgs_nil)))) (fun _ _ _ _ _ => ts_nil) (fun _ _ _ _ _ => (d_tup (a_cons (d_ix (d_var (pv 7)) (d_var (pv 12)) (fun _ _ => rfl)) (a_star (d_lc (own := [("after", 14)]) rfl sc_least_form.nd (i_seqW (d_var (pv 13))) (blkOk_by (by kernel_rfl)) (fun _ _ _ _ _ => (pg_name (i := 14) sc_least_form.nd rfl (Or.inl rfl))) (fun _ _ _ _ _ => ts_nil) (fun _ _ _ _ _ => (d_ix (d_var (pv 7)) (d_var (pv 14)) (fun _ _ => rfl))) (by decide)) a_nil)))) (by decide)) a_nil)))))))))))
    (g_seq (g_setLc (i := 9) (own := [("block", 15)]) rfl sc_least_form.nd rfl rfl (sw_true rfl rfl rfl (by decide +kernel)) (i_w (i_range rfl q_range (d_shr (pv 8)))) (blkOk_by (N := n_least_form) (sc := defScope (top' 31)) (by decide +kernel)) (fun _ _ _ _ _ => (pg_name (i := 15) sc_least_form.nd rfl (Or.inl rfl))) (fun _ _ _ _ _ => ts_nil) (fun _ _ _ _ _ => (w_idxL (hu_in hr) (d_var (pv 7)) (aw_cons (d_var (pv 15)) aw_nil))) (by decide))
    (g_seq (g_setLc (i := 10) (own := [("first", 16)]) rfl sc_least_form.nd rfl rfl (sw_true rfl rfl rfl (by decide +kernel)) (i_seqW (d_var (pv 9))) (blkOk_by (N := n_least_form) (sc := defScope (top' 31)) (by decide +kernel)) (fun _ _ _ _ _ => (pg_name (i := 16) sc_least_form.nd rfl (Or.inl rfl))) (fun _ _ _ _ _ => ts_nil) (fun _ _ _ _ _ => (d_lc (own := [("after", 14)]) rfl sc_least_form.nd (i_seqW (d_w (d_ix (d_var (pv 6)) (d_var (pv 16)) (fun _ _ => rfl)))) (blkOk_by (by kernel_rfl)) (fun _ _ _ _ _ => (pg_name (i := 14) sc_least_form.nd rfl (Or.inl rfl))) (fun _ _ _ _ _ => ts_nil) (fun _ _ _ _ _ => (d_ix (d_var (pv 7)) (d_var (pv 14)) (fun _ _ => rfl))) (by decide))) (by decide))
    (g_one (g_ret (s_pure (d_tup (a_cons (d_shr (pv 10)) (a_cons (d_lc (own := [("block", 15), ("first", 16)]) rfl sc_least_form.nd (i_enumW rfl q_enumerate (d_var (pv 9))) (blkOk_by (N := n_least_form) (sc := defScope (top' 31)) (by decide +kernel)) (fun _ _ _ _ _ => (pg_tup rfl (pgs_cons (pg_name (i := 15) sc_least_form.nd rfl (Or.inl rfl)) (pgs_cons (pg_name (i := 16) sc_least_form.nd rfl (Or.inl rfl)) pgs_nil)))) (fun _ _ _ _ _ => (ts_one (d_tdin (hu_1 hr) (d_ix (d_var (pv 5)) (d_var (pv 16)) (fun _ _ => rfl)) (d_var (pv 4))))) (fun _ _ _ _ _ => (d_shr (pv 15))) (by decide)) a_nil))))))))))))
end
end Dv

/-! G6b -/
namespace Dv
noncomputable section
open NdefX PySem PySem.Spec PyProof.Rows L2 Evl LamX
variable [Nm]
def top6b (i : Nat) : Stmt := PySem.Challenge.pw_widefills_k11_whole_least_machines.main.body.getD i (.Pass ⟨0, 0, 0, 0⟩)

theorem b_lfD {I : Nm} {P : Program} {w : World} {K : PySem.W.Frag} {ca : CA} {mg : Str → Option Value} {base : Heap} {f : Addr} {k : Nat} {fa : Addr} {cl : List (Str × Addr)} (q_GREATEST_STATES : ∃ t, mg "GREATEST_STATES" = some (.int 60 t)) (q_enumerate : mg "enumerate" = none) (q_max : mg "max" = none) (q_range : mg "range" = none)
    (F_numbered : FnE P w K mg base "numbered" k ["marks"] (@spP I K ca semNumd)) (cdv : Value) (A : Around) (out : List Env) (s : Shared) (H : Hp) (E : XK) (CE_explored : CalC I P w K ca mg base "explored" k cl ["steps"] (m_explored fa) [.non, .non])
    (cp : (cxOf CX0 P w K mg base n_least_form "least_form" (defScope (top' 31)) f cdv A out s H E).nox.Ok → Caps (cxOf CX0 P w K mg base n_least_form "least_form" (defScope (top' 31)) f cdv A out s H E).nox cl ["steps"] [1]) (gd : A.guards = some []) (hr : Room k (A.deeper (envOfC "least_form" (defScope (top' 31)) s.heap.objs.size f cdv))) :
    PSs (cxOf CX0 P w K mg base n_least_form "least_form" (defScope (top' 31)) f cdv A out s H E).nox restLF (@RdSD I K ca (g_lfD fa)) := by
  letI := I
  exact (fd_seq (g_setN (ps_set (i := 4) sc_least_form.nd rfl (Or.inr rfl) (n_dc (own := [("state", 11)]) rfl sc_least_form.nd (i_seqW (d_var (pv 2))) (blkOk_by (N := n_least_form) (sc := defScope (top' 31)) (by decide +kernel)) (fun _ _ _ _ _ => (pg_name (i := 11) sc_least_form.nd rfl (Or.inl rfl))) (fun _ _ _ _ _ => (d_shr (pv 11))) (fun _ _ _ _ _ => (d_c pe_bl rfl)) (by decide))))
    (fd_seq (g_tgt (t := (.tp [5, 6])) (ps_asg (s_pure (e_calC CE_explored gd hr rfl (fun _ _ _ => rfl) cp (a_cons (d_c pe_int rfl) (a_cons (d_shr (pv 0)) (a_cons (d_shr (pv 3)) a_nil))))) (pg_tup rfl (pgs_cons (pg_name (i := 5) sc_least_form.nd rfl (Or.inr rfl)) (pgs_cons (pg_name (i := 6) sc_least_form.nd rfl (Or.inr rfl)) pgs_nil)))))
    (fd_seq (g_parT (is := [7, 8]) (by decide) (ps_asg (pe_tup (m_I (s_pure (c_pure (e_call F_numbered gd hr rfl (a_cons (d_lc (own := [("state", 11)]) rfl sc_least_form.nd (i_seqW (d_var (pv 5))) (blkOk_by (N := n_least_form) (sc := defScope (top' 31)) (by decide +kernel)) (fun _ _ _ _ _ => (pg_name (i := 11) sc_least_form.nd rfl (Or.inl rfl))) (fun _ _ _ _ _ => ts_nil) (fun _ _ _ _ _ => (d_din (hu_1 hr) (d_shr (pv 11)) (d_var (pv 4)))) (by decide)) a_nil)))) (m_I (s_pure (d_c pe_int rfl)) m_nil))) (pg_tup rfl (pgs_cons (pg_name (i := 7) sc_least_form.nd rfl (Or.inr rfl)) (pgs_cons (pg_name (i := 8) sc_least_form.nd rfl (Or.inl rfl)) pgs_nil)))))
    (fd_seq (g_wh (ps_while PassesOwn.never (d_tneA (hu_eq hr) (d_var (pv 8)) (d_w (d_add (d_w (d_cb okMaxL (pe_callB (cr_max rfl) rfl q_max (by decide +kernel) (aw_cons (d_var (pv 7)) aw_nil)))) (d_w (d_c pe_int rfl))))) (g_seq (g_set (ps_set (i := 8) sc_least_form.nd rfl (Or.inl rfl) (s_pure (d_add (d_w (d_cb okMaxL (pe_callB (cr_max rfl) rfl q_max (by decide +kernel) (aw_cons (d_var (pv 7)) aw_nil)))) (d_w (d_c pe_int rfl))))))
    (g_seq (g_if (s_tpure (d_tgt (d_var (pv 8)) (d_w (d_gi q_GREATEST_STATES rfl)))) (g_one g_never) g_nil)
    (g_one (g_set (ps_set (i := 7) sc_least_form.nd rfl (Or.inr rfl) (s_pure (c_pure (e_call F_numbered gd hr rfl (a_cons (d_lc (own := [("at", 12), ("row", 13)]) rfl sc_least_form.nd (i_enumW rfl q_enumerate (d_var (pv 6))) (blkOk_by (N := n_least_form) (sc := defScope (top' 31)) (by decide +kernel)) (fun _ _ _ _ _ => (pg_tup rfl (pgs_cons (pg_name (i := 12) sc_least_form.nd rfl (Or.inl rfl)) (pgs_cons (pg_name (i := 13) sc_least_form.nd rfl (Or.inl rfl)) pgs_nil)))) (fun _ _ _ _ _ => ts_nil) (fun _ _ _ _ _ => (d_tup (a_cons (d_ix (d_var (pv 7)) (d_var (pv 12)) (fun _ _ => rfl)) (a_star (d_lc (own := [("after", 14)]) rfl sc_least_form.nd (i_seqW (d_var (pv 13))) (blkOk_by (by kernel_rfl)) (fun _ _ _ _ _ => (pg_name (i := 14) sc_least_form.nd rfl (Or.inl rfl))) (fun _ _ _ _ _ => ts_nil) (fun _ _ _ _ _ => (d_ix (d_var (pv 7)) (d_var (pv 14)) (fun _ _ => rfl))) (by decide)) a_nil)))) (by decide)) a_nil)))))))))))
    (fd_seq (g_setLc (i := 9) (own := [("block", 15)]) rfl sc_least_form.nd rfl rfl (sw_true rfl rfl rfl (by decide +kernel)) (i_w (i_range rfl q_range (d_shr (pv 8)))) (blkOk_by (N := n_least_form) (sc := defScope (top' 31)) (by decide +kernel)) (fun _ _ _ _ _ => (pg_name (i := 15) sc_least_form.nd rfl (Or.inl rfl))) (fun _ _ _ _ _ => ts_nil) (fun _ _ _ _ _ => (w_idxL (hu_in hr) (d_var (pv 7)) (aw_cons (d_var (pv 15)) aw_nil))) (by decide))
    (fd_setret (i := 10) (f_setLc (i := 10) (g := (.nm 16)) (own := [("first", 16)]) rfl sc_least_form.nd rfl rfl (sw_true rfl rfl rfl (by decide +kernel)) (i_seqW (d_var (pv 9))) (blkOk_by (N := n_least_form) (sc := defScope (top' 31)) (by decide +kernel)) (fun _ _ _ _ _ => (pg_name (i := 16) sc_least_form.nd rfl (Or.inl rfl))) (fun _ _ _ _ _ => ts_nil) (fun _ _ _ _ _ => (f_lc (g := (.nm 14)) (own := [("after", 14)]) rfl sc_least_form.nd (i_seqW (d_w (d_ix (d_var (pv 6)) (d_var (pv 16)) (fun _ _ => rfl)))) (blkOk_by (by kernel_rfl)) (fun _ _ _ _ _ => (pg_name (i := 14) sc_least_form.nd rfl (Or.inl rfl))) (fun _ _ _ _ _ => ts_nil) (fun _ _ _ _ _ => (f_fl (d_ix (d_var (pv 7)) (d_var (pv 14)) (fun _ _ => rfl)))) (by decide))) (by decide)) (pv 10) (f_lc (g := (.tp [15, 16])) (own := [("block", 15), ("first", 16)]) rfl sc_least_form.nd (i_enumW rfl q_enumerate (d_var (pv 9))) (blkOk_by (N := n_least_form) (sc := defScope (top' 31)) (by decide +kernel)) (fun _ _ _ _ _ => (pg_tup rfl (pgs_cons (pg_name (i := 15) sc_least_form.nd rfl (Or.inl rfl)) (pgs_cons (pg_name (i := 16) sc_least_form.nd rfl (Or.inl rfl)) pgs_nil)))) (fun _ _ _ _ _ => (ts_one (d_tdin (hu_1 hr) (d_ix (d_var (pv 5)) (d_var (pv 16)) (fun _ _ => rfl)) (d_var (pv 4))))) (fun _ _ _ _ _ => (f_fl (d_shr (pv 15)))) (by decide))))))))
end
end Dv

/-! G7 -/
namespace Dv
noncomputable section
open NdefX PySem PySem.Spec PyProof.Rows L2 Evl LamX
abbrev lfEnv (f : Addr) (s : Shared) (c : Addr) : Env := envOfC "least_form" (defScope (top' 31)) s.heap.objs.size f (.ref c)
abbrev qLead : Str := (envOfC "least_form" (defScope (top' 31)) 0 0 .none).qual ++ "lead"
theorem G_least_form (I : Nm) {P : Program} {w : World} {K : PySem.W.Frag} {ca : CA} {mg : Str → Option Value} {base : Heap} {k : Nat} {f c Pt : Addr} {fd : FuncData} {params : Arguments}
    (F : FunD K "least_form" "least_form" params (defBody (top' 31)) (defScope (top' 31)) [] [] f fd) (hcd : fd.code = .ref c) (TB : TabB base mg c Pt) (hm : (Pt, fun _ _ => qLead) ∈ I.T) (hu : ∀ p ∈ I.T, p.1 = Pt → p.2 = fun _ _ => qLead)
    (q_GREATEST_STATES : ∃ t, mg "GREATEST_STATES" = some (.int 60 t)) (q_enumerate : mg "enumerate" = none) (q_len : mg "len" = none) (q_max : mg "max" = none) (q_range : mg "range" = none)
    (hk : 1 ≤ k) (F_numbered : ∀ I : Nm, FnE P w K mg base "numbered" k ["marks"] (@spP I K ca semNumd))
    (CE : ∀ (I : Nm) (fa : Addr) (F : NF), (∀ cvs cds, NOk P w K mg base CX0 k fa F ["state", "letter"] ["steps"] (@spL ((I.fun fa F).caps K ca cvs cds) K ca 2 m_lead cvs cds)) → CalC (I.fun fa F) P w K ca mg base "explored" (k + 1) F.cl ["steps"] (m_explored fa) [.non, .non]) :
    FnG P w K mg base (k + 1 + 1) f fd ["letters", "steps", "ends"] (@spD I K ca m_least_form) := by
  have hfree := ndef_free (sc := defScope (top' 31)) (nsc := C8.fnScope stLead) (fr := ["steps"]) (by decide +kernel)
  have hfr := ndef_fr (sc := defScope (top' 31)) (nsc := C8.fnScope stLead) (fr := ["steps"]) (by decide +kernel)
  refine gNDD I (st := stLead) (rest := restLF) (N := n_least_form) (ps := ["letters", "steps", "ends"]) F sc_least_form (by decide) hcd (i := 3) (by decide) m_least_form nfLead (fun env c' => rfl) g_lfD (fun A out s H E => ?_) (fun A out s H E fa c' gd hr => ?_) indSem_hm
  · exact ps_ndefMS (st := stLead) (T := I.T) (nm := fun _ _ => qLead) (c := c) (P := Pt) (name := "lead") (i := 3) rfl TB rfl hm rfl hu hfree rfl rfl rfl sc_least_form.nd rfl (Or.inl rfl) (Or.inl rfl)
  · have k1 : k ≤ k + 1 := Nat.le_succ k
    refine b_lfD (I := I.fun fa (nfLead (lfEnv f s c) c')) q_GREATEST_STATES q_enumerate q_max q_range ?_ (.ref c) A out s H E (CE I fa (nfLead (lfEnv f s c) c') fun cvs cds => ?_) (fun ok => ?_) gd hr
    · obtain ⟨⟨fd', G', b'⟩, kp', gl'⟩ := F_numbered (I.fun fa (nfLead (lfEnv f s c) c'))
      exact ⟨⟨fd', G'.up k1, b'⟩, kp', gl'⟩
    · letI : Nm := (I.fun fa (nfLead (lfEnv f s c) c')).caps K ca cvs cds
      exact (nok_lead (k := 0)).mono hk
    · exact Caps.made ok hfree hfr rfl
theorem CE_explored {P : Program} {w : World} {K : PySem.W.Frag} {ca : CA} {mg : Str → Option Value} {base : Heap} {k : Nat} {f : Addr} {fd : FuncData} {params : Arguments} (q_len : mg "len" = none) (q_range : mg "range" = none)
    (F : FunD K "explored" "explored" params (defBody (top' 28)) (defScope (top' 28)) [.non, .non] [] f fd) (kp : PySem.W.keepIn K (.ref f) = true) (gl : mg "explored" = some (.ref f)) {ds0 : List Value} (hb : Binds K fd ["begin", "letters", "lead", "what", "limit"] ds0) (hd : Vals [.non, .non] ds0)
    (I : Nm) (fa : Addr) (F' : NF) (NK : ∀ cvs cds, NOk P w K mg base CX0 k fa F' ["state", "letter"] ["steps"] (@spL ((I.fun fa F').caps K ca cvs cds) K ca 2 m_lead cvs cds)) : CalC (I.fun fa F') P w K ca mg base "explored" (k + 1) F'.cl ["steps"] (m_explored fa) [.non, .non] := by
  refine ⟨f, fd, _, ds0, _, gPC (I.fun fa F') (N := n_explored) (ps := ["begin", "letters", "lead", "what", "limit"]) (gOf := fun _ cds => g_explored fa m_lead cds) F sc_explored (by decide) (fun cvs cds ds rv h => h) (b_explored q_len q_range NK), gl, kp, hb, hd, fun H => .cons .non (.cons .non .nil)⟩
end
end Dv

/-! G8 -/
namespace Dv
noncomputable section
open NdefX PySem PySem.Spec PyProof.Rows L2 Evl LamX
variable [Nm]
theorem sc_cop : FnScope n_cop ["_law_machine_here", "_law_letters", "_law_told", "_law_least_here"] (defScope (top' 54)) := ⟨rfl, rfl, rfl, by decide +kernel, rfl, by decide +kernel, by decide +kernel⟩
abbrev cxCop (P : Program) (w : World) (K : PySem.W.Frag) (mg : Str → Option Value) (base : Heap) (f : Addr) (cdv : Value) (A : Around) (out : List Env) (s : Shared) (H : Hp) (E : XK) : Cx := (cxOf CX0 P w K mg base n_cop "_law_copied_right" (defScope (top' 54)) f cdv A out s H E).nox
theorem b_cop {P : Program} {w : World} {K : PySem.W.Frag} {ca : CA} {mg : Str → Option Value} {base : Heap} {f : Addr} {k : Nat} {cdv : Value} {A : Around} {out : List Env} {s : Shared} {H : Hp} {E : XK} (q_list : mg "list" = none) (gd : A.guards = some []) (hr : Room k (A.deeper (envOfC "_law_copied_right" (defScope (top' 54)) s.heap.objs.size f cdv)))
   (semI : List D → Option (List (Str × D))) (semS semE m_law_is m_eq : SemP) (FI : MkD P w K ca mg base "Machine" k semI) (FS : FnMD P w K ca mg base "Machine" "steps" k semS) (FE : FnMD P w K ca mg base "Machine" "ends" k semE)
   (F_law_is : FnE P w K mg base "_law_is" k ["_law_machine_here", "_law_letters", "_law_least_here"] (spP K ca m_law_is)) (F_eq : EqC P w K ca mg base "Machine" k m_eq) : PSs (cxCop P w K mg base f cdv A out s H E) (defBody (top' 54)) (tCop K ca semI semS semE m_law_is m_eq) :=
  pss_cons (ps_par (i := 4) (j := 5) rfl sc_cop.nd rfl rfl (by decide) rfl rfl (pa_cons (f_lc (g := .nm 7) (own := [("_law_row", 7)]) rfl sc_cop.nd (i_seqW (d_w (d_ix (d_var (pv 0)) (d_w (d_c pe_int rfl)) (fun _ _ => rfl)))) (blkOk_by (N := n_cop) (sc := defScope (top' 54)) (by decide +kernel)) (fun _ _ _ _ _ => (pg_name (i := 7) sc_cop.nd rfl (Or.inl rfl))) (fun _ _ _ _ _ => ts_nil)
        (fun _ _ _ _ _ => f_list (f := fVar 7) (pe_callTy call_list_of rfl q_list (by decide +kernel) (aw_cons (d_var (pv 7)) aw_nil))) (by decide))
      (pa_cons (f_list (f := fOp gIx (fVar 0) (fC (.int 1))) (pe_callTy call_list_of rfl q_list (by decide +kernel) (aw_cons (d_w (d_ix (d_var (pv 0)) (d_w (d_c pe_int rfl)) (fun _ _ => rfl))) aw_nil))) pa_nil)) rfl)
    (pss_cons (ps_set (i := 6) sc_cop.nd rfl (Or.inl rfl) (x_makeD FI gd hr rfl (a_cons (d_shr (pv 1)) (a_cons (d_shr (pv 4)) (a_cons (d_shr (pv 5)) a_nil)))))
    (pss_cons (ps_asg pe_non (pg_sub (pe_ix ix_seq (pv 4) pe_int (fun _ _ => rfl)) pe_int set_list))
    (pss_cons (ps_expr (pe_bm PySem.F.plainAttrs_list PySem.F.slot_list_append PySem.F.type_list_append mt_append (pv 5) (pa_cons pe_int pa_nil)))
    (pss_cons (ps_expr (pe_bm PySem.F.plainAttrs_list PySem.F.slot_list_append PySem.F.type_list_append mt_append (x_methD FS gd hr (d_shr (pv 6))) (pa_cons (pe_lst pa_nil) pa_nil)))
    (pss_cons (ps_for PassesOwn.never rfl (pi_list (x_methD FS gd hr (d_shr (pv 6)))) (pg_name (i := 7) sc_cop.nd rfl (Or.inl rfl)) (pss_one (ps_expr (pe_bm PySem.F.plainAttrs_list PySem.F.slot_list_append PySem.F.type_list_append mt_append (pv 7) (pa_cons pe_int pa_nil)))))
    (pss_cons (ps_expr (pe_bm PySem.F.plainAttrs_list PySem.F.slot_list_append PySem.F.type_list_append mt_append (x_methD FE gd hr (d_shr (pv 6))) (pa_cons pe_int pa_nil)))
    (pss_one (ps_ret (d_and (c_pure (e_call F_law_is gd hr rfl (a_cons (d_shr (pv 6)) (a_cons (d_shr (pv 1)) (a_cons (d_shr (pv 3)) a_nil))))) (d_one (d_eqO F_eq gd hr (d_shr (pv 6)) (d_shr (pv 2)))))))))))))
end
end Dv

/-! G9 -/
namespace Dv
noncomputable section
open NdefX PySem PySem.Spec PyProof.Rows L2 Evl LamX
variable [Nm]

end
end Dv

/-! G10 -/
namespace Dv
noncomputable section
open NdefX PySem PySem.Spec PyProof.Rows L2 Evl LamX
variable [Nm]
def top10 (i : Nat) : Stmt := PySem.Challenge.pw_widefills_k11_whole_least_machines.main.body.getD i (.Pass ⟨0, 0, 0, 0⟩)

theorem sc_Machine_steps' : FnScope nD_Machine_steps ["self"] (defScope (mth (top' 34) 3)) := ⟨rfl, rfl, rfl, by decide +kernel, rfl, by decide +kernel, by decide +kernel⟩
theorem bD_Machine_steps {P : Program} {w : World} {K : PySem.W.Frag} {ca : CA} {mg : Str → Option Value} {base : Heap} {f : Addr} {k : Nat} (c_Machine : ClsD K ca "Machine" ["_letters", "_steps", "_ends"]) (q_list : mg "list" = none) (cdv : Value) (A : Around) (out : List Env) (s : Shared) (H : Hp) (E : XK) (gd : A.guards = some []) (hr : Room k (A.deeper (envOfC "Machine.steps" (defScope (mth (top' 34) 3)) s.heap.objs.size f cdv))) :
    PSs (cxOf CX0 P w K mg base nD_Machine_steps "Machine.steps" (defScope (mth (top' 34) 3)) f cdv A out s H E).nox (defBody (mth (top' 34) 3)) (RdSD K ca gD_Machine_steps) := fd_ret (f_lc (g := (.nm 1)) (own := [("row", 1)]) rfl sc_Machine_steps'.nd (i_seqW (d_w (d_fld c_Machine (by decide) (d_var (pv 0))))) (blkOk_by (N := nD_Machine_steps) (sc := defScope (mth (top' 34) 3)) (by decide +kernel)) (fun _ _ _ _ _ => (pg_name (i := 1) sc_Machine_steps'.nd rfl (Or.inl rfl))) (fun _ _ _ _ _ => ts_nil) (fun _ _ _ _ _ => (f_list (pe_callTy call_list_of rfl q_list (by decide +kernel) (aw_cons (d_var (pv 1)) aw_nil)))) (by decide))
theorem sc_Machine_ends' : FnScope nD_Machine_ends ["self"] (defScope (mth (top' 34) 4)) := ⟨rfl, rfl, rfl, by decide +kernel, rfl, by decide +kernel, by decide +kernel⟩
theorem bD_Machine_ends {P : Program} {w : World} {K : PySem.W.Frag} {ca : CA} {mg : Str → Option Value} {base : Heap} {f : Addr} {k : Nat} (c_Machine : ClsD K ca "Machine" ["_letters", "_steps", "_ends"]) (q_list : mg "list" = none) (cdv : Value) (A : Around) (out : List Env) (s : Shared) (H : Hp) (E : XK) (gd : A.guards = some []) (hr : Room k (A.deeper (envOfC "Machine.ends" (defScope (mth (top' 34) 4)) s.heap.objs.size f cdv))) :
    PSs (cxOf CX0 P w K mg base nD_Machine_ends "Machine.ends" (defScope (mth (top' 34) 4)) f cdv A out s H E).nox (defBody (mth (top' 34) 4)) (RdSD K ca gD_Machine_ends) := fd_ret (f_list (pe_callTy call_list_of rfl q_list (by decide +kernel) (aw_cons (d_w (d_fld c_Machine (by decide) (d_var (pv 0)))) aw_nil)))
end
end Dv

/-! G1 -/
namespace Dv
noncomputable section
open PySem PySem.Spec PyProof.Rows L2 Evl LamX
variable [Nm]
def top (i : Nat) : Stmt := PySem.Challenge.pw_widefills_k11_whole_least_machines.main.body.getD i (.Pass ⟨0, 0, 0, 0⟩)
theorem sc_is_integer : FnScope n_is_integer ["value"] (defScope (top 1)) := ⟨rfl, rfl, rfl, by decide +kernel, rfl, by decide +kernel, by decide +kernel⟩
theorem b_is_integer {P : Program} {w : World} {K : PySem.W.Frag} {ca : CA} {mg : Str → Option Value} {base : Heap} {f : Addr} {k : Nat} (q_bool : mg "bool" = none) (q_int : mg "int" = none) (q_isinstance : mg "isinstance" = none) : Body P w K ca mg base k f "is_integer" (defScope (top 1)) n_is_integer (defBody (top 1)) g_is_integer := fun cdv A out s H E gd hr =>
  (g_one (g_ret (s_pure (d_and (w_isi "int" (by decide) q_isinstance rfl q_int rfl (by decide +kernel) (d_var (pv 0))) (d_one (d_not (w_isi "bool" (by decide) q_isinstance rfl q_bool rfl (by decide +kernel) (d_var (pv 0)))))))))
theorem sc_is_count : FnScope n_is_count ["value"] (defScope (top 2)) := ⟨rfl, rfl, rfl, by decide +kernel, rfl, by decide +kernel, by decide +kernel⟩
theorem b_is_count {P : Program} {w : World} {K : PySem.W.Frag} {ca : CA} {mg : Str → Option Value} {base : Heap} {f : Addr} {k : Nat} (F_is_integer : FnE P w K mg base "is_integer" k ["value"] (spP K ca m_is_integer)) : Body P w K ca mg base k f "is_count" (defScope (top 2)) n_is_count (defBody (top 2)) g_is_count := fun cdv A out s H E gd hr =>
  (g_one (g_ret (s_pure (d_and (c_pure (e_call F_is_integer gd hr rfl (a_cons (d_shr (pv 0)) a_nil))) (d_one (d_ge (d_var (pv 0)) (d_w (d_c pe_int rfl))))))))
theorem sc_is_below : FnScope n_is_below ["value", "limit"] (defScope (top 3)) := ⟨rfl, rfl, rfl, by decide +kernel, rfl, by decide +kernel, by decide +kernel⟩
theorem b_is_below {P : Program} {w : World} {K : PySem.W.Frag} {ca : CA} {mg : Str → Option Value} {base : Heap} {f : Addr} {k : Nat} (F_is_count : FnE P w K mg base "is_count" k ["value"] (spP K ca m_is_count)) : Body P w K ca mg base k f "is_below" (defScope (top 3)) n_is_below (defBody (top 3)) g_is_below := fun cdv A out s H E gd hr =>
  (g_one (g_ret (s_pure (d_and (c_pure (e_call F_is_count gd hr rfl (a_cons (d_shr (pv 0)) a_nil))) (d_one (d_lt (d_var (pv 0)) (d_var (pv 1))))))))
theorem sc_is_listing : FnScope n_is_listing ["value"] (defScope (top 4)) := ⟨rfl, rfl, rfl, by decide +kernel, rfl, by decide +kernel, by decide +kernel⟩
theorem b_is_listing {P : Program} {w : World} {K : PySem.W.Frag} {ca : CA} {mg : Str → Option Value} {base : Heap} {f : Addr} {k : Nat} (q_isinstance : mg "isinstance" = none) (q_list : mg "list" = none) (q_tuple : mg "tuple" = none) : Body P w K ca mg base k f "is_listing" (defScope (top 4)) n_is_listing (defBody (top 4)) g_is_listing := fun cdv A out s H E gd hr =>
  (g_one (g_ret (s_pure (w_isi2 "list" "tuple" (by decide) (by decide) q_isinstance rfl q_list rfl q_tuple rfl (by decide +kernel) (by decide +kernel) (d_var (pv 0))))))
theorem sc_are_unlike_below : FnScope n_are_unlike_below ["value", "limit"] (defScope (top 5)) := ⟨rfl, rfl, rfl, by decide +kernel, rfl, by decide +kernel, by decide +kernel⟩
theorem b_are_unlike_below {P : Program} {w : World} {K : PySem.W.Frag} {ca : CA} {mg : Str → Option Value} {base : Heap} {f : Addr} {k : Nat} (q_all : mg "all" = none) (q_len : mg "len" = none) (q_set : mg "set" = none) (F_is_below : FnE P w K mg base "is_below" k ["value", "limit"] (spP K ca m_is_below)) (F_is_listing : FnE P w K mg base "is_listing" k ["value"] (spP K ca m_is_listing)) : Body P w K ca mg base k f "are_unlike_below" (defScope (top 5)) n_are_unlike_below (defBody (top 5)) g_are_unlike_below := fun cdv A out s H E gd hr =>
  (g_seq (g_if (s_tpure (PW.pt (d_wor (d_tnot (d_tru (d_w (c_pure (e_call F_is_listing gd hr rfl (a_cons (d_shr (pv 0)) a_nil)))))) (d_wor1 (d_tnot (d_tru (d_w (d_cb okAll (pe_callB (cr_all rfl) rfl q_all (by decide +kernel) (aw_cons (d_w (d_lc (own := [("part", 2)]) rfl sc_are_unlike_below.nd (i_seqW (d_var (pv 0))) (blkOk_by (N := n_are_unlike_below) (sc := defScope (top 5)) (by decide +kernel)) (fun _ _ _ _ _ => (pg_name (i := 2) sc_are_unlike_below.nd rfl (Or.inl rfl))) (fun _ _ _ _ _ => ts_nil) (fun _ _ _ _ _ => (c_pure (e_call F_is_below gd hr rfl (a_cons (d_shr (pv 2)) (a_cons (d_shr (pv 1)) a_nil))))) (by decide))) aw_nil)))))))))) (g_one (g_ret (s_pure (d_c pe_bl rfl)))) g_nil)
    (g_one (g_ret (s_pure (d_eqA (hu_eq hr) (d_w (d_lenSet (pe_lenSetA rfl rfl q_len rfl q_set (d_var (pv 0))))) (d_w (d_cb okLen (pe_callB call_len rfl q_len (by decide +kernel) (aw_cons (d_var (pv 0)) aw_nil)))))))))
theorem sc_is_letters : FnScope n_is_letters ["value"] (defScope (top 20)) := ⟨rfl, rfl, rfl, by decide +kernel, rfl, by decide +kernel, by decide +kernel⟩
theorem b_is_letters {P : Program} {w : World} {K : PySem.W.Frag} {ca : CA} {mg : Str → Option Value} {base : Heap} {f : Addr} {k : Nat} (q_SIGNS : ∃ t, mg "SIGNS" = some (.str "abc" t)) (q_len : mg "len" = none) (F_is_integer : FnE P w K mg base "is_integer" k ["value"] (spP K ca m_is_integer)) : Body P w K ca mg base k f "is_letters" (defScope (top 20)) n_is_letters (defBody (top 20)) g_is_letters := fun cdv A out s H E gd hr =>
  (g_one (g_ret (s_pure (d_and (c_pure (e_call F_is_integer gd hr rfl (a_cons (d_shr (pv 0)) a_nil))) (d_one (d_ch op_le op_le (okI0 fun _ _ => rfl) (okI0 fun _ _ => rfl) (d_w (d_c pe_int rfl)) (d_var (pv 0)) (d_w (d_cb okLen (pe_callB call_len rfl q_len (by decide +kernel) (aw_cons (d_w (d_gs q_SIGNS rfl)) aw_nil))))))))))
theorem sc_check_letters : FnScope n_check_letters ["letters"] (defScope (top 21)) := ⟨rfl, rfl, rfl, by decide +kernel, rfl, by decide +kernel, by decide +kernel⟩
theorem b_check_letters {P : Program} {w : World} {K : PySem.W.Frag} {ca : CA} {mg : Str → Option Value} {base : Heap} {f : Addr} {k : Nat} (F_is_letters : FnE P w K mg base "is_letters" k ["value"] (spP K ca m_is_letters)) : Body P w K ca mg base k f "check_letters" (defScope (top 21)) n_check_letters (defBody (top 21)) g_check_letters := fun cdv A out s H E gd hr =>
  (g_one (g_if (s_tpure (d_tnot (d_tru (d_w (c_pure (e_call F_is_letters gd hr rfl (a_cons (d_shr (pv 0)) a_nil))))))) (g_one g_never) g_nil))
theorem sc_check_length : FnScope n_check_length ["length"] (defScope (top 22)) := ⟨rfl, rfl, rfl, by decide +kernel, rfl, by decide +kernel, by decide +kernel⟩
theorem b_check_length {P : Program} {w : World} {K : PySem.W.Frag} {ca : CA} {mg : Str → Option Value} {base : Heap} {f : Addr} {k : Nat} (q_GREATEST_LENGTH : ∃ t, mg "GREATEST_LENGTH" = some (.int 6 t)) (F_is_below : FnE P w K mg base "is_below" k ["value", "limit"] (spP K ca m_is_below)) : Body P w K ca mg base k f "check_length" (defScope (top 22)) n_check_length (defBody (top 22)) g_check_length := fun cdv A out s H E gd hr =>
  (g_one (g_if (s_tpure (d_tnot (d_tru (d_w (c_pure (e_call F_is_below gd hr rfl (a_cons (d_shr (pv 0)) (a_cons (d_add (d_w (d_gi q_GREATEST_LENGTH rfl)) (d_w (d_c pe_int rfl))) a_nil)))))))) (g_one g_never) g_nil))
theorem sc_is_word_of : FnScope n_is_word_of ["letters", "value"] (defScope (top 23)) := ⟨rfl, rfl, rfl, by decide +kernel, rfl, by decide +kernel, by decide +kernel⟩
theorem b_is_word_of {P : Program} {w : World} {K : PySem.W.Frag} {ca : CA} {mg : Str → Option Value} {base : Heap} {f : Addr} {k : Nat} (q_LONGEST_WORD : ∃ t, mg "LONGEST_WORD" = some (.int 60 t)) (q_SIGNS : ∃ t, mg "SIGNS" = some (.str "abc" t)) (q_all : mg "all" = none) (q_isinstance : mg "isinstance" = none) (q_len : mg "len" = none) (q_str : mg "str" = none) : Body P w K ca mg base k f "is_word_of" (defScope (top 23)) n_is_word_of (defBody (top 23)) g_is_word_of := fun cdv A out s H E gd hr =>
  (g_seq (g_if (s_tpure (PW.pt (d_wor (d_tnot (d_tru (d_w (w_isi "str" (by decide) q_isinstance rfl q_str rfl (by decide +kernel) (d_var (pv 1)))))) (d_wor1 (d_tgt (d_w (d_cb okLen (pe_callB call_len rfl q_len (by decide +kernel) (aw_cons (d_var (pv 1)) aw_nil)))) (d_w (d_gi q_LONGEST_WORD rfl))))))) (g_one (g_ret (s_pure (d_c pe_bl rfl)))) g_nil)
    (g_one (g_ret (s_pure (d_cb okAll (pe_callB (cr_all rfl) rfl q_all (by decide +kernel) (aw_cons (d_w (d_lc (own := [("sign", 2)]) rfl sc_is_word_of.nd (i_seqW (d_var (pv 1))) (blkOk_by (N := n_is_word_of) (sc := defScope (top 23)) (by decide +kernel)) (fun _ _ _ _ _ => (pg_name (i := 2) sc_is_word_of.nd rfl (Or.inl rfl))) (fun _ _ _ _ _ => ts_nil) (fun _ _ _ _ _ => (d_in (hu_in hr) (d_var (pv 2)) (d_w (d_slS (d_w (d_gs q_SIGNS rfl)) o_no (o_at (d_shr (pv 0))))))) (by decide))) aw_nil)))))))
theorem sc_check_word : FnScope n_check_word ["letters", "word"] (defScope (top 24)) := ⟨rfl, rfl, rfl, by decide +kernel, rfl, by decide +kernel, by decide +kernel⟩
theorem b_check_word {P : Program} {w : World} {K : PySem.W.Frag} {ca : CA} {mg : Str → Option Value} {base : Heap} {f : Addr} {k : Nat} (F_is_word_of : FnE P w K mg base "is_word_of" k ["letters", "value"] (spP K ca m_is_word_of)) : Body P w K ca mg base k f "check_word" (defScope (top 24)) n_check_word (defBody (top 24)) g_check_word := fun cdv A out s H E gd hr =>
  (g_one (g_if (s_tpure (d_tnot (d_tru (d_w (c_pure (e_call F_is_word_of gd hr rfl (a_cons (d_shr (pv 0)) (a_cons (d_shr (pv 1)) a_nil)))))))) (g_one g_never) g_nil))
theorem sc_is_row : FnScope n_is_row ["letters", "states", "value"] (defScope (top 36)) := ⟨rfl, rfl, rfl, by decide +kernel, rfl, by decide +kernel, by decide +kernel⟩
theorem b_is_row {P : Program} {w : World} {K : PySem.W.Frag} {ca : CA} {mg : Str → Option Value} {base : Heap} {f : Addr} {k : Nat} (q_all : mg "all" = none) (q_len : mg "len" = none) (F_is_below : FnE P w K mg base "is_below" k ["value", "limit"] (spP K ca m_is_below)) (F_is_listing : FnE P w K mg base "is_listing" k ["value"] (spP K ca m_is_listing)) : Body P w K ca mg base k f "is_row" (defScope (top 36)) n_is_row (defBody (top 36)) g_is_row := fun cdv A out s H E gd hr =>
  (g_one (g_ret (s_pure (d_and (c_pure (e_call F_is_listing gd hr rfl (a_cons (d_shr (pv 2)) a_nil))) (d_and (d_eqA (hu_eq hr) (d_w (d_cb okLen (pe_callB call_len rfl q_len (by decide +kernel) (aw_cons (d_var (pv 2)) aw_nil)))) (d_var (pv 0))) (d_one (d_cb okAll (pe_callB (cr_all rfl) rfl q_all (by decide +kernel) (aw_cons (d_w (d_lc (own := [("state", 3)]) rfl sc_is_row.nd (i_seqW (d_var (pv 2))) (blkOk_by (N := n_is_row) (sc := defScope (top 36)) (by decide +kernel)) (fun _ _ _ _ _ => (pg_name (i := 3) sc_is_row.nd rfl (Or.inl rfl))) (fun _ _ _ _ _ => ts_nil) (fun _ _ _ _ _ => (c_pure (e_call F_is_below gd hr rfl (a_cons (d_shr (pv 3)) (a_cons (d_shr (pv 1)) a_nil))))) (by decide))) aw_nil)))))))))
theorem sc_are_steps : FnScope n_are_steps ["letters", "value"] (defScope (top 35)) := ⟨rfl, rfl, rfl, by decide +kernel, rfl, by decide +kernel, by decide +kernel⟩
theorem b_are_steps {P : Program} {w : World} {K : PySem.W.Frag} {ca : CA} {mg : Str → Option Value} {base : Heap} {f : Addr} {k : Nat} (q_GREATEST_PASSED : ∃ t, mg "GREATEST_PASSED" = some (.int 12 t)) (q_all : mg "all" = none) (q_len : mg "len" = none) (F_is_listing : FnE P w K mg base "is_listing" k ["value"] (spP K ca m_is_listing)) (F_is_row : FnE P w K mg base "is_row" k ["letters", "states", "value"] (spP K ca m_is_row)) : Body P w K ca mg base k f "are_steps" (defScope (top 35)) n_are_steps (defBody (top 35)) g_are_steps := fun cdv A out s H E gd hr =>
  (g_seq (g_if (s_tpure (PW.pt (d_wor (d_tnot (d_tru (d_w (c_pure (e_call F_is_listing gd hr rfl (a_cons (d_shr (pv 1)) a_nil)))))) (d_wor1 (d_tnot (d_tch op_le op_le (okI0 fun _ _ => rfl) (okI0 fun _ _ => rfl) (d_w (d_c pe_int rfl)) (d_w (d_cb okLen (pe_callB call_len rfl q_len (by decide +kernel) (aw_cons (d_var (pv 1)) aw_nil)))) (d_w (d_gi q_GREATEST_PASSED rfl)))))))) (g_one (g_ret (s_pure (d_c pe_bl rfl)))) g_nil)
    (g_one (g_ret (s_pure (d_cb okAll (pe_callB (cr_all rfl) rfl q_all (by decide +kernel) (aw_cons (d_w (d_lc (own := [("row", 2)]) rfl sc_are_steps.nd (i_seqW (d_var (pv 1))) (blkOk_by (N := n_are_steps) (sc := defScope (top 35)) (by decide +kernel)) (fun _ _ _ _ _ => (pg_name (i := 2) sc_are_steps.nd rfl (Or.inl rfl))) (fun _ _ _ _ _ => ts_nil) (fun _ _ _ _ _ => (c_pure (e_call F_is_row gd hr rfl (a_cons (d_shr (pv 0)) (a_cons (d_cb okLen (pe_callB call_len rfl q_len (by decide +kernel) (aw_cons (d_var (pv 1)) aw_nil))) (a_cons (d_shr (pv 2)) a_nil)))))) (by decide))) aw_nil)))))))
end
end Dv

/-! G3 -/
namespace Dv
noncomputable section
open PySem PySem.Spec PyProof.Rows L2 Evl LamX
variable [Nm]
theorem sc_first_words : FnScope n_first_words ["letters", "length"] (defScope (top 25)) := ⟨rfl, rfl, rfl, by decide +kernel, rfl, by decide +kernel, by decide +kernel⟩
theorem b_first_words {P : Program} {w : World} {K : PySem.W.Frag} {ca : CA} {mg : Str → Option Value} {base : Heap} {f : Addr} {k : Nat} (q_SIGNS : ∃ t, mg "SIGNS" = some (.str "abc" t)) (q_range : mg "range" = none) (F_check_length : FnE P w K mg base "check_length" k ["length"] (spP K ca m_check_length)) (F_check_letters : FnE P w K mg base "check_letters" k ["letters"] (spP K ca m_check_letters)) : Body P w K ca mg base k f "first_words" (defScope (top 25)) n_first_words (defBody (top 25)) g_first_words := fun cdv A out s H E gd hr =>
  (g_seq (g_drop (ps_expr (s_pure (c_pure (e_call F_check_letters gd hr rfl (a_cons (d_shr (pv 0)) a_nil))))))
    (g_seq (g_drop (ps_expr (s_pure (c_pure (e_call F_check_length gd hr rfl (a_cons (d_shr (pv 1)) a_nil))))))
    (g_seq (g_set2 (ps_asg2 (s_pure (d_lst (a_cons (d_c pe_str rfl) a_nil))) (pg_name (i := 2) sc_first_words.nd rfl (Or.inl rfl)) (pg_name (i := 3) sc_first_words.nd rfl (Or.inl rfl))))
    (g_seq (g_for (tg := (.nm 4)) (ps_for PassesOwn.never rfl (i_range rfl q_range (d_shr (pv 1))) (pg_name (i := 4) sc_first_words.nd rfl (Or.inl rfl)) (g_seq (g_setLc2 (i := 3) (own := [("word", 5), ("sign", 6)]) (vs1 := [6]) rfl sc_first_words.nd rfl rfl (sw_true rfl rfl rfl (by decide +kernel)) (i_seqW (d_var (pv 3))) (blkOk_by (N := n_first_words) (sc := defScope (top 25)) (by decide +kernel)) (by decide) (fun _ _ _ _ _ => (pg_name (i := 5) sc_first_words.nd rfl (Or.inl rfl))) (fun _ _ _ _ _ => (i_seqS (d_slS (d_w (d_gs q_SIGNS rfl)) o_no (o_at (d_shr (pv 0)))))) (fun _ _ _ _ _ => (pg_name (i := 6) sc_first_words.nd rfl (Or.inl rfl))) (fun _ _ _ _ _ => (d_add (d_var (pv 5)) (d_var (pv 6)))) (by decide) (by decide))
    (g_one (g_set (ps_set (i := 2) sc_first_words.nd rfl (Or.inl rfl) (s_pure (d_add (d_var (pv 2)) (d_var (pv 3))))))))))
    (g_one (g_ret (s_frz (pv 2))))))))
theorem sc_first_words_to : FnScope n_first_words_to ["steps"] (defScope (top 29)) := ⟨rfl, rfl, rfl, by decide +kernel, rfl, by decide +kernel, by decide +kernel⟩
theorem b_first_words_to {P : Program} {w : World} {K : PySem.W.Frag} {ca : CA} {mg : Str → Option Value} {base : Heap} {f : Addr} {k : Nat} (q_SIGNS : ∃ t, mg "SIGNS" = some (.str "abc" t)) (q_enumerate : mg "enumerate" = none) (q_len : mg "len" = none) (q_range : mg "range" = none) (q_zip : mg "zip" = none) : Body P w K ca mg base k f "first_words_to" (defScope (top 29)) n_first_words_to (defBody (top 29)) g_first_words_to := fun cdv A out s H E gd hr =>
  (g_seq (g_setN (ps_set (i := 1) sc_first_words_to.nd rfl (Or.inr rfl) (n_dic1 (hu_1 hr) (d_c pe_int rfl) (d_c pe_str rfl))))
    (g_seq (g_for (tg := (.tp [2, 3])) (ps_for PassesOwn.never rfl (i_enumS rfl q_enumerate (d_shr (pv 0))) (pg_tup rfl (pgs_cons (pg_name (i := 2) sc_first_words_to.nd rfl (Or.inl rfl)) (pgs_cons (pg_name (i := 3) sc_first_words_to.nd rfl (Or.inl rfl)) pgs_nil))) (g_one (g_for (tg := (.tp [4, 5])) (ps_for PassesOwn.never rfl (i_zipS rfl q_zip (d_gs q_SIGNS rfl) (d_shr (pv 3))) (pg_tup rfl (pgs_cons (pg_name (i := 4) sc_first_words_to.nd rfl (Or.inl rfl)) (pgs_cons (pg_name (i := 5) sc_first_words_to.nd rfl (Or.inl rfl)) pgs_nil))) (g_one (g_setd (pv 1) (d_shr (pv 5)) (d_add (d_w (d_dget (hu_1 hr) (d_var (pv 1)) (d_shr (pv 2)) (fun _ _ => rfl))) (d_var (pv 4))) ⟨rfl, rfl, rfl, rfl⟩)))))))
    (g_one (g_ret (s_pure (d_lc (own := [("state", 2)]) rfl sc_first_words_to.nd (i_w (i_range rfl q_range (d_cb okLen (pe_callB call_len rfl q_len (by decide +kernel) (aw_cons (d_var (pv 0)) aw_nil))))) (blkOk_by (N := n_first_words_to) (sc := defScope (top 29)) (by decide +kernel)) (fun _ _ _ _ _ => (pg_name (i := 2) sc_first_words_to.nd rfl (Or.inl rfl))) (fun _ _ _ _ _ => ts_nil) (fun _ _ _ _ _ => (d_dget (hu_1 hr) (d_var (pv 1)) (d_shr (pv 2)) (fun _ _ => rfl))) (by decide)))))))
theorem sc_Machine___init__ : FnScope n_Machine___init__ ["self", "letters", "steps", "ends"] (defScope (mth (top 34) 0)) := ⟨rfl, rfl, rfl, by decide +kernel, rfl, by decide +kernel, by decide +kernel⟩
theorem b_Machine___init__ {P : Program} {w : World} {K : PySem.W.Frag} {ca : CA} {mg : Str → Option Value} {base : Heap} {f : Addr} {k : Nat} (c_Machine : ClsD K ca "Machine" ["_letters", "_steps", "_ends"]) (q_len : mg "len" = none) (F_are_steps : FnE P w K mg base "are_steps" k ["letters", "value"] (spP K ca m_are_steps)) (F_are_unlike_below : FnE P w K mg base "are_unlike_below" k ["value", "limit"] (spP K ca m_are_unlike_below)) (F_check_letters : FnE P w K mg base "check_letters" k ["letters"] (spP K ca m_check_letters)) (F_least_form : FnE P w K mg base "least_form" k ["letters", "steps", "ends"] (spP K ca m_least_form)) : Body P w K ca mg base k f "Machine.__init__" (defScope (mth (top 34) 0)) n_Machine___init__ (defBody (mth (top 34) 0)) g_Machine___init__ := fun cdv A out s H E gd hr =>
  (g_seq (g_drop (ps_expr (s_pure (c_pure (e_call F_check_letters gd hr rfl (a_cons (d_shr (pv 1)) a_nil))))))
    (g_seq (g_if (s_tpure (d_tnot (d_tru (d_w (c_pure (e_call F_are_steps gd hr rfl (a_cons (d_shr (pv 1)) (a_cons (d_shr (pv 2)) a_nil)))))))) (g_one g_never) g_nil)
    (g_seq (g_if (s_tpure (d_tnot (d_tru (d_w (c_pure (e_call F_are_unlike_below gd hr rfl (a_cons (d_shr (pv 3)) (a_cons (d_cb okLen (pe_callB call_len rfl q_len (by decide +kernel) (aw_cons (d_var (pv 2)) aw_nil))) a_nil)))))))) (g_one g_never) g_nil)
    (g_seq (g_fld (i := 0) c_Machine (by decide) (pv 0) (s_frz (pv 1)))
    (g_one (g_fld2 (i := 0) c_Machine (by decide) (by decide) (ps_asg (s_pure (c_pure (e_call F_least_form gd hr rfl (a_cons (d_shr (pv 1)) (a_cons (d_shr (pv 2)) (a_cons (d_shr (pv 3)) a_nil)))))) (pg_tup rfl (pgs_cons (pg_fld (pv 0)) (pgs_cons (pg_fld (pv 0)) pgs_nil))))))))))
end
end Dv

/-! G11 -/
namespace Dv
noncomputable section
open NdefX PySem PySem.Spec PyProof.Rows L2 Evl LamX
variable [Nm]
def top11 (i : Nat) : Stmt := PySem.Challenge.pw_widefills_k11_whole_least_machines.main.body.getD i (.Pass ⟨0, 0, 0, 0⟩)

theorem bI_Machine {P : Program} {w : World} {K : PySem.W.Frag} {ca : CA} {mg : Str → Option Value} {base : Heap} {f : Addr} {k : Nat} (c_Machine : ClsD K ca "Machine" ["_letters", "_steps", "_ends"]) (q_len : mg "len" = none) (F_are_steps : FnE P w K mg base "are_steps" k ["letters", "value"] (spP K ca m_are_steps)) (F_are_unlike_below : FnE P w K mg base "are_unlike_below" k ["value", "limit"] (spP K ca m_are_unlike_below)) (F_check_letters : FnE P w K mg base "check_letters" k ["letters"] (spP K ca m_check_letters)) (F_least_form : FnE P w K mg base "least_form" k ["letters", "steps", "ends"] (spD K ca m_least_form)) (cdv : Value) (A : Around) (out : List Env) (s : Shared) (H : Hp) (E : XK) (gd : A.guards = some []) (hr : Room k (A.deeper (envOfC "Machine.__init__" (defScope (mth (top 34) 0)) s.heap.objs.size f cdv))) :
    PSs (cxOf CX0 P w K mg base n_Machine___init__ "Machine.__init__" (defScope (mth (top 34) 0)) f cdv A out s H E).nox (defBody (mth (top 34) 0)) (RdSI K ca "Machine" gI_Machine) :=
  (fi_seq (g_drop (ps_expr (s_pure (c_pure (e_call F_check_letters gd hr rfl (a_cons (d_shr (pv 1)) a_nil))))))
    (fi_seq (g_if (s_tpure (d_tnot (d_tru (d_w (c_pure (e_call F_are_steps gd hr rfl (a_cons (d_shr (pv 1)) (a_cons (d_shr (pv 2)) a_nil)))))))) (g_one g_never) g_nil)
    (fi_seq (g_if (s_tpure (d_tnot (d_tru (d_w (c_pure (e_call F_are_unlike_below gd hr rfl (a_cons (d_shr (pv 3)) (a_cons (d_cb okLen (pe_callB call_len rfl q_len (by decide +kernel) (aw_cons (d_var (pv 2)) aw_nil))) a_nil)))))))) (g_one g_never) g_nil)
    (fi_seq (g_fld (i := 0) c_Machine (by decide) (pv 0) (s_frz (pv 1)))
    (fi_last (i := 0) c_Machine (by decide) (by decide) (ps_asg (c_pureD (e_call F_least_form gd hr rfl (a_cons (d_shr (pv 1)) (a_cons (d_shr (pv 2)) (a_cons (d_shr (pv 3)) a_nil))))) (pg_tup rfl (pgs_cons (pg_fld (pv 0)) (pgs_cons (pg_fld (pv 0)) pgs_nil)))))))))
theorem G_cop {P : Program} {w : World} {K : PySem.W.Frag} {ca : CA} {mg : Str → Option Value} {base : Heap} {f : Addr} {k : Nat} {fd : FuncData} {params : Arguments} {semI : List D → Option (List (Str × D))} {semS semE m_law_is m_eq : SemP} (F : FunD K "_law_copied_right" "_law_copied_right" params (defBody (top' 54)) (defScope (top' 54)) [] [] f fd) (q_list : mg "list" = none)
    (FI : MkD P w K ca mg base "Machine" k semI) (FS : FnMD P w K ca mg base "Machine" "steps" k semS) (FE : FnMD P w K ca mg base "Machine" "ends" k semE)
    (F_law_is : FnE P w K mg base "_law_is" k ["_law_machine_here", "_law_letters", "_law_least_here"] (spP K ca m_law_is)) (F_eq : EqC P w K ca mg base "Machine" k m_eq) :
    FnG P w K mg base (k + 1) f fd ["_law_machine_here", "_law_letters", "_law_told", "_law_least_here"] (spP K ca (semCop semI semS semE m_law_is m_eq)) := by
  refine fnG F sc_cop (fun vs H Q E h => ?_) (fun cdv A out s H vs Q E gd hr h => ⟨_, b_cop q_list gd hr semI semS semE m_law_is m_eq FI FS FE F_law_is F_eq, ?_⟩)
  · obtain ⟨Hs, ds, rv, _, r, e, _⟩ := h
    unfold semCop at e
    split at e
    · rename_i c
      rw [r.len, (Classical.choose_spec c).hl]
      rfl
    · cases e
  · obtain ⟨Hs, ds, rv, x, r, e, n⟩ := h
    unfold semCop at e
    split at e
    · rename_i c
      cases e
      have cc := Classical.choose_spec c
      obtain ⟨r0, rt, es, ms, ee, fs, a1, a2, a3, a4, a5, a6, a7, a8, a9, a10, a11, a12, a13⟩ := cc.ex
      exact cop_ok x r cc.hl a1 a2 a3 a4 a5 a6 a7 a8 a9 a10 ⟨a11, a12⟩ a13 fun v Hs' H' t rr => n v Hs' H' t rr
    · cases e
end
end Dv

/-! G2 -/
namespace Dv
noncomputable section
open PySem PySem.Spec PyProof.Rows L2 Evl LamX
variable [Nm]
theorem sc_check_machine : FnScope n_check_machine ["machine"] (defScope (top 37)) := ⟨rfl, rfl, rfl, by decide +kernel, rfl, by decide +kernel, by decide +kernel⟩
theorem b_check_machine {P : Program} {w : World} {K : PySem.W.Frag} {ca : CA} {mg : Str → Option Value} {base : Heap} {f : Addr} {k : Nat} (z_Machine : IsC K ca mg "Machine") (q_isinstance : mg "isinstance" = none) : Body P w K ca mg base k f "check_machine" (defScope (top 37)) n_check_machine (defBody (top 37)) g_check_machine := fun cdv A out s H E gd hr =>
  (g_one (g_if (s_tpure (d_tnot (d_tru (d_w (w_isc z_Machine q_isinstance rfl (d_var (pv 0))))))) (g_one g_never) g_nil))
theorem sc_Machine_letters : FnScope n_Machine_letters ["self"] (defScope (mth (top 34) 1)) := ⟨rfl, rfl, rfl, by decide +kernel, rfl, by decide +kernel, by decide +kernel⟩
theorem b_Machine_letters {P : Program} {w : World} {K : PySem.W.Frag} {ca : CA} {mg : Str → Option Value} {base : Heap} {f : Addr} {k : Nat} (c_Machine : ClsD K ca "Machine" ["_letters", "_steps", "_ends"]) : Body P w K ca mg base k f "Machine.letters" (defScope (mth (top 34) 1)) n_Machine_letters (defBody (mth (top 34) 1)) g_Machine_letters := fun cdv A out s H E gd hr =>
  (g_one (g_ret (s_pure (d_fld c_Machine (by decide) (d_var (pv 0))))))
theorem sc_Machine_states : FnScope n_Machine_states ["self"] (defScope (mth (top 34) 2)) := ⟨rfl, rfl, rfl, by decide +kernel, rfl, by decide +kernel, by decide +kernel⟩
theorem b_Machine_states {P : Program} {w : World} {K : PySem.W.Frag} {ca : CA} {mg : Str → Option Value} {base : Heap} {f : Addr} {k : Nat} (c_Machine : ClsD K ca "Machine" ["_letters", "_steps", "_ends"]) (q_len : mg "len" = none) : Body P w K ca mg base k f "Machine.states" (defScope (mth (top 34) 2)) n_Machine_states (defBody (mth (top 34) 2)) g_Machine_states := fun cdv A out s H E gd hr =>
  (g_one (g_ret (s_pure (d_cb okLen (pe_callB call_len rfl q_len (by decide +kernel) (aw_cons (d_w (d_fld c_Machine (by decide) (d_var (pv 0)))) aw_nil))))))
theorem sc_Machine_steps : FnScope n_Machine_steps ["self"] (defScope (mth (top 34) 3)) := ⟨rfl, rfl, rfl, by decide +kernel, rfl, by decide +kernel, by decide +kernel⟩
theorem b_Machine_steps {P : Program} {w : World} {K : PySem.W.Frag} {ca : CA} {mg : Str → Option Value} {base : Heap} {f : Addr} {k : Nat} (c_Machine : ClsD K ca "Machine" ["_letters", "_steps", "_ends"]) (q_list : mg "list" = none) : Body P w K ca mg base k f "Machine.steps" (defScope (mth (top 34) 3)) n_Machine_steps (defBody (mth (top 34) 3)) g_Machine_steps := fun cdv A out s H E gd hr =>
  (g_one (g_ret (s_pure (d_lc (own := [("row", 1)]) rfl sc_Machine_steps.nd (i_seqW (d_w (d_fld c_Machine (by decide) (d_var (pv 0))))) (blkOk_by (N := n_Machine_steps) (sc := defScope (mth (top 34) 3)) (by decide +kernel)) (fun _ _ _ _ _ => (pg_name (i := 1) sc_Machine_steps.nd rfl (Or.inl rfl))) (fun _ _ _ _ _ => ts_nil) (fun _ _ _ _ _ => (d_cb okList (pe_callTy call_list_of rfl q_list (by decide +kernel) (aw_cons (d_var (pv 1)) aw_nil)))) (by decide)))))
theorem sc_Machine_ends : FnScope n_Machine_ends ["self"] (defScope (mth (top 34) 4)) := ⟨rfl, rfl, rfl, by decide +kernel, rfl, by decide +kernel, by decide +kernel⟩
theorem b_Machine_ends {P : Program} {w : World} {K : PySem.W.Frag} {ca : CA} {mg : Str → Option Value} {base : Heap} {f : Addr} {k : Nat} (c_Machine : ClsD K ca "Machine" ["_letters", "_steps", "_ends"]) (q_list : mg "list" = none) : Body P w K ca mg base k f "Machine.ends" (defScope (mth (top 34) 4)) n_Machine_ends (defBody (mth (top 34) 4)) g_Machine_ends := fun cdv A out s H E gd hr =>
  (g_one (g_ret (s_pure (d_cb okList (pe_callTy call_list_of rfl q_list (by decide +kernel) (aw_cons (d_w (d_fld c_Machine (by decide) (d_var (pv 0)))) aw_nil))))))
theorem sc_Machine___eq__ : FnScope n_Machine___eq__ ["self", "other"] (defScope (mth (top 34) 5)) := ⟨rfl, rfl, rfl, by decide +kernel, rfl, by decide +kernel, by decide +kernel⟩
theorem b_Machine___eq__ {P : Program} {w : World} {K : PySem.W.Frag} {ca : CA} {mg : Str → Option Value} {base : Heap} {f : Addr} {k : Nat} (c_Machine : ClsD K ca "Machine" ["_letters", "_steps", "_ends"]) (z_Machine : IsC K ca mg "Machine") (q_isinstance : mg "isinstance" = none) : Body P w K ca mg base k f "Machine.__eq__" (defScope (mth (top 34) 5)) n_Machine___eq__ (defBody (mth (top 34) 5)) g_Machine___eq__ := fun cdv A out s H E gd hr =>
  (g_one (g_ret (s_pure (d_and (w_isc z_Machine q_isinstance rfl (d_var (pv 1))) (d_and (d_eqA (hu_eq hr) (d_w (d_fld c_Machine (by decide) (d_var (pv 0)))) (d_w (d_fld c_Machine (by decide) (d_var (pv 1))))) (d_and (d_eqA (hu_eq hr) (d_w (d_fld c_Machine (by decide) (d_var (pv 0)))) (d_w (d_fld c_Machine (by decide) (d_var (pv 1))))) (d_one (d_eqA (hu_eq hr) (d_w (d_fld c_Machine (by decide) (d_var (pv 0)))) (d_w (d_fld c_Machine (by decide) (d_var (pv 1))))))))))))
theorem sc_led_to : FnScope n_led_to ["machine", "word"] (defScope (top 38)) := ⟨rfl, rfl, rfl, by decide +kernel, rfl, by decide +kernel, by decide +kernel⟩
theorem b_led_to {P : Program} {w : World} {K : PySem.W.Frag} {ca : CA} {mg : Str → Option Value} {base : Heap} {f : Addr} {k : Nat} (q_SIGNS : ∃ t, mg "SIGNS" = some (.str "abc" t)) (F_Machine_steps : FnM P w K ca mg base "Machine" "steps" k m_Machine_steps) : Body P w K ca mg base k f "led_to" (defScope (top 38)) n_led_to (defBody (top 38)) g_led_to := fun cdv A out s H E gd hr =>
  (g_seq (g_par2 (ps_par (i := 2) (j := 3) rfl sc_led_to.nd rfl rfl (by decide) rfl rfl (m_I (s_pure (x_meth F_Machine_steps gd hr (d_shr (pv 0)))) (m_I (s_pure (d_c pe_int rfl)) m_nil)) rfl))
    (g_seq (g_for (tg := (.nm 4)) (ps_for PassesOwn.never rfl (i_seqS (d_shr (pv 1))) (pg_name (i := 4) sc_led_to.nd rfl (Or.inl rfl)) (g_one (g_set (ps_set (i := 3) sc_led_to.nd rfl (Or.inl rfl) (s_pure (d_ix (d_w (d_ix (d_var (pv 2)) (d_var (pv 3)) (fun _ _ => rfl))) (d_w (w_idxS (d_w (d_gs q_SIGNS rfl)) (aw_cons (d_var (pv 4)) aw_nil))) (fun _ _ => rfl))))))))
    (g_one (g_ret (s_frz (pv 3))))))
theorem sc_lets : FnScope n_lets ["machine", "word"] (defScope (top 39)) := ⟨rfl, rfl, rfl, by decide +kernel, rfl, by decide +kernel, by decide +kernel⟩
theorem b_lets {P : Program} {w : World} {K : PySem.W.Frag} {ca : CA} {mg : Str → Option Value} {base : Heap} {f : Addr} {k : Nat} (F_Machine_ends : FnM P w K ca mg base "Machine" "ends" k m_Machine_ends) (F_Machine_letters : FnPr P w K ca mg base "Machine" "letters" k m_Machine_letters) (F_check_machine : FnE P w K mg base "check_machine" k ["machine"] (spP K ca m_check_machine)) (F_check_word : FnE P w K mg base "check_word" k ["letters", "word"] (spP K ca m_check_word)) (F_led_to : FnE P w K mg base "led_to" k ["machine", "word"] (spP K ca m_led_to)) : Body P w K ca mg base k f "lets" (defScope (top 39)) n_lets (defBody (top 39)) g_lets := fun cdv A out s H E gd hr =>
  (g_seq (g_drop (ps_expr (s_pure (c_pure (e_call F_check_machine gd hr rfl (a_cons (d_shr (pv 0)) a_nil))))))
    (g_seq (g_drop (ps_expr (s_pure (c_pure (e_call F_check_word gd hr rfl (a_cons (x_prop F_Machine_letters gd hr (d_shr (pv 0))) (a_cons (d_shr (pv 1)) a_nil)))))))
    (g_one (g_ret (s_pure (d_in (hu_in hr) (d_w (c_pure (e_call F_led_to gd hr rfl (a_cons (d_shr (pv 0)) (a_cons (d_shr (pv 1)) a_nil))))) (d_w (x_meth F_Machine_ends gd hr (d_shr (pv 0))))))))))
theorem sc_is_empty : FnScope n_is_empty ["machine"] (defScope (top 40)) := ⟨rfl, rfl, rfl, by decide +kernel, rfl, by decide +kernel, by decide +kernel⟩
theorem b_is_empty {P : Program} {w : World} {K : PySem.W.Frag} {ca : CA} {mg : Str → Option Value} {base : Heap} {f : Addr} {k : Nat} (F_Machine_ends : FnM P w K ca mg base "Machine" "ends" k m_Machine_ends) (F_check_machine : FnE P w K mg base "check_machine" k ["machine"] (spP K ca m_check_machine)) : Body P w K ca mg base k f "is_empty" (defScope (top 40)) n_is_empty (defBody (top 40)) g_is_empty := fun cdv A out s H E gd hr =>
  (g_seq (g_drop (ps_expr (s_pure (c_pure (e_call F_check_machine gd hr rfl (a_cons (d_shr (pv 0)) a_nil))))))
    (g_one (g_ret (s_pure (d_notT (d_w (x_meth F_Machine_ends gd hr (d_shr (pv 0)))))))))
theorem sc_shortest : FnScope n_shortest ["machine"] (defScope (top 41)) := ⟨rfl, rfl, rfl, by decide +kernel, rfl, by decide +kernel, by decide +kernel⟩
theorem b_shortest {P : Program} {w : World} {K : PySem.W.Frag} {ca : CA} {mg : Str → Option Value} {base : Heap} {f : Addr} {k : Nat} (F_Machine_ends : FnM P w K ca mg base "Machine" "ends" k m_Machine_ends) (F_Machine_steps : FnM P w K ca mg base "Machine" "steps" k m_Machine_steps) (F_check_machine : FnE P w K mg base "check_machine" k ["machine"] (spP K ca m_check_machine)) (F_first_words_to : FnE P w K mg base "first_words_to" k ["steps"] (spP K ca m_first_words_to)) : Body P w K ca mg base k f "shortest" (defScope (top 41)) n_shortest (defBody (top 41)) g_shortest := fun cdv A out s H E gd hr =>
  (g_seq (g_drop (ps_expr (s_pure (c_pure (e_call F_check_machine gd hr rfl (a_cons (d_shr (pv 0)) a_nil))))))
    (g_seq (g_set (ps_set (i := 1) sc_shortest.nd rfl (Or.inl rfl) (s_pure (x_meth F_Machine_ends gd hr (d_shr (pv 0))))))
    (g_one (g_ret (s_pure (d_if (d_tru (d_var (pv 1))) (d_ix (d_w (c_pure (e_call F_first_words_to gd hr rfl (a_cons (x_meth F_Machine_steps gd hr (d_shr (pv 0))) a_nil)))) (d_w (d_ix (d_var (pv 1)) (d_w (d_c pe_int rfl)) (fun _ _ => rfl))) (fun _ _ => rfl)) (d_c pe_non rfl)))))))
theorem sc_words_of : FnScope n_words_of ["machine", "length"] (defScope (top 42)) := ⟨rfl, rfl, rfl, by decide +kernel, rfl, by decide +kernel, by decide +kernel⟩
theorem b_words_of {P : Program} {w : World} {K : PySem.W.Frag} {ca : CA} {mg : Str → Option Value} {base : Heap} {f : Addr} {k : Nat} (F_Machine_ends : FnM P w K ca mg base "Machine" "ends" k m_Machine_ends) (F_Machine_letters : FnPr P w K ca mg base "Machine" "letters" k m_Machine_letters) (F_check_length : FnE P w K mg base "check_length" k ["length"] (spP K ca m_check_length)) (F_check_machine : FnE P w K mg base "check_machine" k ["machine"] (spP K ca m_check_machine)) (F_first_words : FnE P w K mg base "first_words" k ["letters", "length"] (spP K ca m_first_words)) (F_led_to : FnE P w K mg base "led_to" k ["machine", "word"] (spP K ca m_led_to)) : Body P w K ca mg base k f "words_of" (defScope (top 42)) n_words_of (defBody (top 42)) g_words_of := fun cdv A out s H E gd hr =>
  (g_seq (g_drop (ps_expr (s_pure (c_pure (e_call F_check_machine gd hr rfl (a_cons (d_shr (pv 0)) a_nil))))))
    (g_seq (g_drop (ps_expr (s_pure (c_pure (e_call F_check_length gd hr rfl (a_cons (d_shr (pv 1)) a_nil))))))
    (g_seq (g_set (ps_set (i := 2) sc_words_of.nd rfl (Or.inr rfl) (s_pure (x_meth F_Machine_ends gd hr (d_shr (pv 0))))))
    (g_one (g_ret (s_pure (d_lc (own := [("word", 3)]) rfl sc_words_of.nd (i_seqW (d_w (c_pure (e_call F_first_words gd hr rfl (a_cons (x_prop F_Machine_letters gd hr (d_shr (pv 0))) (a_cons (d_shr (pv 1)) a_nil)))))) (blkOk_by (N := n_words_of) (sc := defScope (top 42)) (by decide +kernel)) (fun _ _ _ _ _ => (pg_name (i := 3) sc_words_of.nd rfl (Or.inl rfl))) (fun _ _ _ _ _ => (ts_one (d_tin (hu_in hr) (d_w (c_pure (e_call F_led_to gd hr rfl (a_cons (d_shr (pv 0)) (a_cons (d_shr (pv 3)) a_nil))))) (d_var (pv 2))))) (fun _ _ _ _ _ => (d_shr (pv 3))) (by decide))))))))
theorem sc_law_pot : FnScope n_law_pot ["_law_script", "_law_k"] (defScope (top 44)) := ⟨rfl, rfl, rfl, by decide +kernel, rfl, by decide +kernel, by decide +kernel⟩
theorem b_law_pot {P : Program} {w : World} {K : PySem.W.Frag} {ca : CA} {mg : Str → Option Value} {base : Heap} {f : Addr} {k : Nat} (q_abs : mg "abs" = none) (q_int : mg "int" = none) (q_len : mg "len" = none) (q_max : mg "max" = none) : Body P w K ca mg base k f "_law_pot" (defScope (top 44)) n_law_pot (defBody (top 44)) g_law_pot := fun cdv A out s H E gd hr =>
  (g_seq (g_set (ps_set (i := 2) sc_law_pot.nd rfl (Or.inl rfl) (s_pure (d_if (d_tlt (d_var (pv 1)) (d_w (d_cb okLen (pe_callB call_len rfl q_len (by decide +kernel) (aw_cons (d_var (pv 0)) aw_nil))))) (d_cb okAbs (pe_callB call_abs rfl q_abs (by decide +kernel) (aw_cons (d_w (d_ix (d_var (pv 0)) (d_var (pv 1)) (fun _ _ => rfl))) aw_nil))) (d_add (d_w (d_mulA (d_w (d_c pe_int rfl)) (d_var (pv 1)))) (d_w (d_c pe_int rfl)))))))
    (g_one (g_retN (n_lst (sa_cons (s_pure (d_cb okMax2 (pe_callB (call_max2 rfl) rfl q_max (by decide +kernel) (aw_cons (d_w (d_c pe_int rfl)) (aw_cons (d_w (d_sub (d_var (pv 2)) (d_w (d_pow (d_w (d_c pe_int rfl)) (d_w (d_c pe_int rfl)))))) aw_nil))))) (sa_cons (s_pure (d_add (d_w (d_mod (d_w (d_cb okInt (pe_callTy call_int1 rfl q_int (by decide +kernel) (aw_cons (d_w (d_add (d_w (d_add (d_w (d_mulA (d_w (d_mod (d_w (d_cb okInt (pe_callTy call_int1 rfl q_int (by decide +kernel) (aw_cons (d_var (pv 2)) aw_nil)))) (d_w (d_c pe_int rfl)))) (d_w (d_c pe_int rfl)))) (d_w (d_mulA (d_w (d_c pe_int rfl)) (d_var (pv 1)))))) (d_w (d_c pe_int rfl)))) aw_nil)))) (d_w (d_c pe_int rfl)))) (d_w (d_c pe_int rfl)))) sa_nil))))))
theorem sc_law_draw : FnScope n_law_draw ["_law_pot_here", "_law_many"] (defScope (top 45)) := ⟨rfl, rfl, rfl, by decide +kernel, rfl, by decide +kernel, by decide +kernel⟩
theorem b_law_draw {P : Program} {w : World} {K : PySem.W.Frag} {ca : CA} {mg : Str → Option Value} {base : Heap} {f : Addr} {k : Nat} (q_divmod : mg "divmod" = none) (q_int : mg "int" = none) : Body P w K ca mg base k f "_law_draw" (defScope (top 45)) n_law_draw (defBody (top 45)) g_law_draw := fun cdv A out s H E gd hr =>
  (g_seq (g_if (s_tpure (d_tgt (d_w (d_ix (d_var (pv 0)) (d_w (d_c pe_int rfl)) (fun _ _ => rfl))) (d_w (d_c pe_int rfl)))) (g_seq (g_item2 (i := 0) (n := 0) (ps_asg (s_pure (d_cb okDivmod (pe_callB call_divmod rfl q_divmod (by decide +kernel) (aw_cons (d_w (d_ix (d_var (pv 0)) (d_w (d_c pe_int rfl)) (fun _ _ => rfl))) (aw_cons (d_var (pv 1)) aw_nil))))) (pg_tup rfl (pgs_cons (pg_sub (pv 0) pe_int set_list) (pgs_cons (pg_name (i := 2) sc_law_draw.nd rfl (Or.inl rfl)) pgs_nil)))))
    (g_one (g_ret (s_frz (pv 2))))) g_nil)
    (g_seq (g_item (i := 0) (n := 1) (ps_asg (s_pure (d_mod (d_w (d_cb okInt (pe_callTy call_int1 rfl q_int (by decide +kernel) (aw_cons (d_w (d_add (d_w (d_mulA (d_w (d_ix (d_var (pv 0)) (d_w (d_c pe_int rfl)) (fun _ _ => rfl))) (d_w (d_c pe_int rfl)))) (d_w (d_c pe_int rfl)))) aw_nil)))) (d_w (d_c pe_int rfl)))) (pg_sub (pv 0) pe_int set_list)))
    (g_one (g_ret (s_pure (d_mod (d_w (d_cb okInt (pe_callTy call_int1 rfl q_int (by decide +kernel) (aw_cons (d_w (d_div (d_w (d_mod (d_w (d_cb okInt (pe_callTy call_int1 rfl q_int (by decide +kernel) (aw_cons (d_w (d_mulA (d_w (d_ix (d_var (pv 0)) (d_w (d_c pe_int rfl)) (fun _ _ => rfl))) (d_w (d_ix (d_var (pv 0)) (d_w (d_c pe_int rfl)) (fun _ _ => rfl))))) aw_nil)))) (d_w (d_c pe_int rfl)))) (d_w (d_c pe_int rfl)))) aw_nil)))) (d_var (pv 1))))))))
theorem sc_law_machine : FnScope n_law_machine ["_law_pot_here", "_law_letters", "_law_most"] (defScope (top 46)) := ⟨rfl, rfl, rfl, by decide +kernel, rfl, by decide +kernel, by decide +kernel⟩
theorem b_law_machine {P : Program} {w : World} {K : PySem.W.Frag} {ca : CA} {mg : Str → Option Value} {base : Heap} {f : Addr} {k : Nat} (q_range : mg "range" = none) (F_law_draw : FnE P w K mg base "_law_draw" k ["_law_pot_here", "_law_many"] (spB K ca m_law_draw)) : Body P w K ca mg base k f "_law_machine" (defScope (top 46)) n_law_machine (defBody (top 46)) g_law_machine := fun cdv A out s H E gd hr =>
  (g_seq (g_par3 (ps_par3 (i := 3) (j := 4) (l := 5) rfl sc_law_machine.nd rfl rfl rfl (by decide) (by decide) (by decide) rfl rfl rfl (m_I (s_add (s_pure (d_c pe_int rfl)) (c_callB (e_call F_law_draw gd hr rfl (pa_cons (pv 0) (sa_cons (s_frz (pv 2)) sa_nil))))) (m_N (n_lst sa_nil) (m_N (n_lst sa_nil) m_nil))) rfl))
    (g_seq (g_for (tg := (.nm 6)) (ps_for PassesOwn.never rfl (i_range rfl q_range (d_shr (pv 3))) (pg_name (i := 6) sc_law_machine.nd rfl (Or.inl rfl)) (g_seq (g_setN (ps_set (i := 7) sc_law_machine.nd rfl (Or.inl rfl) (n_lst sa_nil)))
    (g_seq (g_for (tg := (.nm 8)) (ps_for PassesOwn.never rfl (i_range rfl q_range (d_shr (pv 1))) (pg_name (i := 8) sc_law_machine.nd rfl (Or.inl rfl)) (g_one (w_app (pv 7) (c_callB (e_call F_law_draw gd hr rfl (pa_cons (pv 0) (sa_cons (s_frz (pv 3)) sa_nil))))))))
    (g_seq (w_app (pv 4) (s_frz (pv 7)))
    (g_one (g_if (s_teqA (hu_eq hr) (c_callB (e_call F_law_draw gd hr rfl (pa_cons (pv 0) (sa_cons (s_pure (d_c pe_int rfl)) sa_nil)))) (s_pure (d_c pe_int rfl))) (g_one (w_app (pv 5) (s_frz (pv 6)))) g_nil)))))))
    (g_one (g_ret (s_tup (sa_cons (s_frz (pv 4)) (sa_cons (s_frz (pv 5)) sa_nil)))))))
theorem sc_law_led : FnScope n_law_led ["_law_steps", "_law_word"] (defScope (top 47)) := ⟨rfl, rfl, rfl, by decide +kernel, rfl, by decide +kernel, by decide +kernel⟩
theorem b_law_led {P : Program} {w : World} {K : PySem.W.Frag} {ca : CA} {mg : Str → Option Value} {base : Heap} {f : Addr} {k : Nat}  : Body P w K ca mg base k f "_law_led" (defScope (top 47)) n_law_led (defBody (top 47)) g_law_led := fun cdv A out s H E gd hr =>
  (g_seq (g_set (ps_set (i := 2) sc_law_led.nd rfl (Or.inl rfl) (s_pure (d_c pe_int rfl))))
    (g_seq (g_for (tg := (.nm 3)) (ps_for PassesOwn.never rfl (i_seqS (d_shr (pv 1))) (pg_name (i := 3) sc_law_led.nd rfl (Or.inl rfl)) (g_one (g_set (ps_set (i := 2) sc_law_led.nd rfl (Or.inl rfl) (s_pure (d_ix (d_w (d_ix (d_var (pv 0)) (d_var (pv 2)) (fun _ _ => rfl))) (d_w (w_idxS (d_w (d_c pe_str rfl)) (aw_cons (d_var (pv 3)) aw_nil))) (fun _ _ => rfl))))))))
    (g_one (g_ret (s_frz (pv 2))))))
theorem sc_law_words : FnScope n_law_words ["_law_letters", "_law_length"] (defScope (top 48)) := ⟨rfl, rfl, rfl, by decide +kernel, rfl, by decide +kernel, by decide +kernel⟩
theorem b_law_words {P : Program} {w : World} {K : PySem.W.Frag} {ca : CA} {mg : Str → Option Value} {base : Heap} {f : Addr} {k : Nat} (q_range : mg "range" = none) : Body P w K ca mg base k f "_law_words" (defScope (top 48)) n_law_words (defBody (top 48)) g_law_words := fun cdv A out s H E gd hr =>
  (g_seq (g_par2 (ps_par (i := 2) (j := 3) rfl sc_law_words.nd rfl rfl (by decide) rfl rfl (m_I (s_pure (d_lst (a_cons (d_c pe_str rfl) a_nil))) (m_I (s_pure (d_lst (a_cons (d_c pe_str rfl) a_nil))) m_nil)) rfl))
    (g_seq (g_for (tg := (.nm 4)) (ps_for PassesOwn.never rfl (i_range rfl q_range (d_shr (pv 1))) (pg_name (i := 4) sc_law_words.nd rfl (Or.inl rfl)) (g_seq (g_setN (ps_set (i := 5) sc_law_words.nd rfl (Or.inl rfl) (n_lst sa_nil)))
    (g_seq (g_for (tg := (.nm 6)) (ps_for PassesOwn.never rfl (i_seqS (d_shr (pv 3))) (pg_name (i := 6) sc_law_words.nd rfl (Or.inr rfl)) (g_one (w_ext (pv 5) (s_pure (d_lc (own := [("_law_sign", 7)]) rfl sc_law_words.nd (i_seqW (d_w (d_slS (d_w (d_c pe_str rfl)) o_no (o_at (d_shr (pv 0)))))) (blkOk_by (N := n_law_words) (sc := defScope (top 48)) (by decide +kernel)) (fun _ _ _ _ _ => (pg_name (i := 7) sc_law_words.nd rfl (Or.inl rfl))) (fun _ _ _ _ _ => ts_nil) (fun _ _ _ _ _ => (d_add (d_var (pv 6)) (d_var (pv 7)))) (by decide)))))))
    (g_one (g_par2 (ps_par (i := 2) (j := 3) rfl sc_law_words.nd rfl rfl (by decide) rfl rfl (m_I (s_pure (d_add (d_var (pv 2)) (d_var (pv 5)))) (m_I (s_frz (pv 5)) m_nil)) rfl)))))))
    (g_one (g_ret (s_frz (pv 2))))))
theorem sc_law_reached : FnScope n_law_reached ["_law_steps"] (defScope (top 49)) := ⟨rfl, rfl, rfl, by decide +kernel, rfl, by decide +kernel, by decide +kernel⟩
theorem b_law_reached {P : Program} {w : World} {K : PySem.W.Frag} {ca : CA} {mg : Str → Option Value} {base : Heap} {f : Addr} {k : Nat} (q_len : mg "len" = none) : Body P w K ca mg base k f "_law_reached" (defScope (top 49)) n_law_reached (defBody (top 49)) g_law_reached := fun cdv A out s H E gd hr =>
  (g_seq (g_par2 (ps_par (i := 1) (j := 2) rfl sc_law_reached.nd rfl rfl (by decide) rfl rfl (m_N (n_lst (sa_cons (s_pure (d_c pe_int rfl)) sa_nil)) (m_I (s_pure (d_c pe_int rfl)) m_nil)) rfl))
    (g_seq (g_wh (ps_while PassesOwn.never (d_tlt (d_var (pv 2)) (d_w (d_cb okLen (pe_callB call_len rfl q_len (by decide +kernel) (aw_cons (d_var (pv 1)) aw_nil))))) (g_seq (g_for (tg := (.nm 3)) (ps_for PassesOwn.never rfl (i_seqS (d_ix (d_var (pv 0)) (d_w (d_ix (d_var (pv 1)) (d_var (pv 2)) (fun _ _ => rfl))) (fun _ _ => rfl))) (pg_name (i := 3) sc_law_reached.nd rfl (Or.inl rfl)) (g_one (g_if (s_tpure (d_tni (hu_in hr) (d_var (pv 3)) (d_var (pv 1)))) (g_one (w_app (pv 1) (s_frz (pv 3)))) g_nil))))
    (g_one (g_set (ps_set (i := 2) sc_law_reached.nd rfl (Or.inl rfl) (s_pure (d_add (d_var (pv 2)) (d_w (d_c pe_int rfl))))))))))
    (g_one (g_ret (s_frz (pv 1))))))
theorem sc_law_least : FnScope n_law_least ["_law_machine_here"] (defScope (top 50)) := ⟨rfl, rfl, rfl, by decide +kernel, rfl, by decide +kernel, by decide +kernel⟩
theorem b_law_least {P : Program} {w : World} {K : PySem.W.Frag} {ca : CA} {mg : Str → Option Value} {base : Heap} {f : Addr} {k : Nat} (q_enumerate : mg "enumerate" = none) (q_int : mg "int" = none) (q_len : mg "len" = none) (q_range : mg "range" = none) (q_sorted : mg "sorted" = none) (F_law_reached : FnE P w K mg base "_law_reached" k ["_law_steps"] (spP K ca m_law_reached)) : Body P w K ca mg base k f "_law_least" (defScope (top 50)) n_law_least (defBody (top 50)) g_law_least := fun cdv A out s H E gd hr =>
  (g_seq (g_tgt (t := (.tp [1, 2])) (ps_asg (s_frz (pv 0)) (pg_tup rfl (pgs_cons (pg_name (i := 1) sc_law_least.nd rfl (Or.inr rfl)) (pgs_cons (pg_name (i := 2) sc_law_least.nd rfl (Or.inr rfl)) pgs_nil)))))
    (g_seq (g_set (ps_set (i := 3) sc_law_least.nd rfl (Or.inr rfl) (s_pure (c_pure (e_call F_law_reached gd hr rfl (a_cons (d_shr (pv 1)) a_nil))))))
    (g_seq (g_set (ps_set (i := 4) sc_law_least.nd rfl (Or.inr rfl) (s_pure (d_lc (own := [("_law_state", 9)]) rfl sc_law_least.nd (i_w (i_range rfl q_range (d_cb okLen (pe_callB call_len rfl q_len (by decide +kernel) (aw_cons (d_var (pv 1)) aw_nil))))) (blkOk_by (N := n_law_least) (sc := defScope (top 50)) (by decide +kernel)) (fun _ _ _ _ _ => (pg_name (i := 9) sc_law_least.nd rfl (Or.inl rfl))) (fun _ _ _ _ _ => ts_nil) (fun _ _ _ _ _ => (d_cb okInt (pe_callTy call_int1 rfl q_int (by decide +kernel) (aw_cons (d_w (d_in (hu_in hr) (d_var (pv 9)) (d_var (pv 2)))) aw_nil)))) (by decide)))))
    (g_seq (g_for (tg := (.nm 5)) (ps_for PassesOwn.never rfl (i_range rfl q_range (d_cb okLen (pe_callB call_len rfl q_len (by decide +kernel) (aw_cons (d_var (pv 3)) aw_nil)))) (pg_name (i := 5) sc_law_least.nd rfl (Or.inl rfl)) (g_seq (g_set (ps_set (i := 6) sc_law_least.nd rfl (Or.inr rfl) (s_pure (d_lc (own := [("_law_state", 9)]) rfl sc_law_least.nd (i_w (i_range rfl q_range (d_cb okLen (pe_callB call_len rfl q_len (by decide +kernel) (aw_cons (d_var (pv 1)) aw_nil))))) (blkOk_by (N := n_law_least) (sc := defScope (top 50)) (by decide +kernel)) (fun _ _ _ _ _ => (pg_name (i := 9) sc_law_least.nd rfl (Or.inl rfl))) (fun _ _ _ _ _ => ts_nil) (fun _ _ _ _ _ => (d_add (d_w (d_lst (a_cons (d_ix (d_var (pv 4)) (d_var (pv 9)) (fun _ _ => rfl)) a_nil))) (d_w (d_lc (own := [("_law_there", 12)]) rfl sc_law_least.nd (i_seqW (d_w (d_ix (d_var (pv 1)) (d_var (pv 9)) (fun _ _ => rfl)))) (blkOk_by (by kernel_rfl)) (fun _ _ _ _ _ => (pg_name (i := 12) sc_law_least.nd rfl (Or.inl rfl))) (fun _ _ _ _ _ => ts_nil) (fun _ _ _ _ _ => (d_ix (d_var (pv 4)) (d_var (pv 12)) (fun _ _ => rfl))) (by decide))))) (by decide)))))
    (g_seq (g_set (ps_set (i := 7) sc_law_least.nd rfl (Or.inr rfl) (s_pure (d_cb okSortL (w_sorted hr q_sorted (aw_cons (d_w (d_lc (own := [("_law_state", 9)]) rfl sc_law_least.nd (i_seqW (d_var (pv 3))) (blkOk_by (N := n_law_least) (sc := defScope (top 50)) (by decide +kernel)) (fun _ _ _ _ _ => (pg_name (i := 9) sc_law_least.nd rfl (Or.inl rfl))) (fun _ _ _ _ _ => ts_nil) (fun _ _ _ _ _ => (d_ix (d_var (pv 6)) (d_var (pv 9)) (fun _ _ => rfl))) (by decide))) aw_nil))))))
    (g_one (g_set (ps_set (i := 4) sc_law_least.nd rfl (Or.inr rfl) (s_pure (d_lc (own := [("_law_state", 9)]) rfl sc_law_least.nd (i_w (i_range rfl q_range (d_cb okLen (pe_callB call_len rfl q_len (by decide +kernel) (aw_cons (d_var (pv 1)) aw_nil))))) (blkOk_by (N := n_law_least) (sc := defScope (top 50)) (by decide +kernel)) (fun _ _ _ _ _ => (pg_name (i := 9) sc_law_least.nd rfl (Or.inl rfl))) (fun _ _ _ _ _ => ts_nil) (fun _ _ _ _ _ => (d_if (d_tin (hu_in hr) (d_var (pv 9)) (d_var (pv 3))) (w_idxL (hu_in hr) (d_var (pv 7)) (aw_cons (d_w (d_ix (d_var (pv 6)) (d_var (pv 9)) (fun _ _ => rfl))) aw_nil)) (d_neg (d_c pe_int rfl)))) (by decide))))))))))
    (g_seq (g_setN (ps_set (i := 8) sc_law_least.nd rfl (Or.inl rfl) (n_lst sa_nil)))
    (g_seq (g_for (tg := (.nm 9)) (ps_for PassesOwn.never rfl (i_seqS (d_shr (pv 3))) (pg_name (i := 9) sc_law_least.nd rfl (Or.inl rfl)) (g_one (g_if (s_tpure (d_tni (hu_in hr) (d_w (d_ix (d_var (pv 4)) (d_var (pv 9)) (fun _ _ => rfl))) (d_w (d_lc (own := [("_law_one", 13)]) rfl sc_law_least.nd (i_seqW (d_var (pv 8))) (blkOk_by (N := n_law_least) (sc := defScope (top 50)) (by decide +kernel)) (fun _ _ _ _ _ => (pg_name (i := 13) sc_law_least.nd rfl (Or.inl rfl))) (fun _ _ _ _ _ => ts_nil) (fun _ _ _ _ _ => (d_ix (d_var (pv 4)) (d_var (pv 13)) (fun _ _ => rfl))) (by decide))))) (g_one (w_app (pv 8) (s_frz (pv 9)))) g_nil))))
    (g_seq (g_set (ps_set (i := 10) sc_law_least.nd rfl (Or.inr rfl) (s_pure (d_lc (own := [("_law_state", 9)]) rfl sc_law_least.nd (i_seqW (d_var (pv 8))) (blkOk_by (N := n_law_least) (sc := defScope (top 50)) (by decide +kernel)) (fun _ _ _ _ _ => (pg_name (i := 9) sc_law_least.nd rfl (Or.inl rfl))) (fun _ _ _ _ _ => ts_nil) (fun _ _ _ _ _ => (d_ix (d_var (pv 4)) (d_var (pv 9)) (fun _ _ => rfl))) (by decide)))))
    (g_seq (g_setLc (i := 11) (own := [("_law_state", 9)]) rfl sc_law_least.nd rfl rfl (sw_true rfl rfl rfl (by decide +kernel)) (i_seqW (d_var (pv 8))) (blkOk_by (N := n_law_least) (sc := defScope (top 50)) (by decide +kernel)) (fun _ _ _ _ _ => (pg_name (i := 9) sc_law_least.nd rfl (Or.inl rfl))) (fun _ _ _ _ _ => ts_nil) (fun _ _ _ _ _ => (d_lc (own := [("_law_there", 12)]) rfl sc_law_least.nd (i_seqW (d_w (d_ix (d_var (pv 1)) (d_var (pv 9)) (fun _ _ => rfl)))) (blkOk_by (by kernel_rfl)) (fun _ _ _ _ _ => (pg_name (i := 12) sc_law_least.nd rfl (Or.inl rfl))) (fun _ _ _ _ _ => ts_nil) (fun _ _ _ _ _ => (w_idxL (hu_in hr) (d_var (pv 10)) (aw_cons (d_w (d_ix (d_var (pv 4)) (d_var (pv 12)) (fun _ _ => rfl))) aw_nil))) (by decide))) (by decide))
    (g_one (g_ret (s_pure (d_tup (a_cons (d_shr (pv 11)) (a_cons (d_lc (own := [("_law_at", 14), ("_law_state", 9)]) rfl sc_law_least.nd (i_enumW rfl q_enumerate (d_var (pv 8))) (blkOk_by (N := n_law_least) (sc := defScope (top 50)) (by decide +kernel)) (fun _ _ _ _ _ => (pg_tup rfl (pgs_cons (pg_name (i := 14) sc_law_least.nd rfl (Or.inl rfl)) (pgs_cons (pg_name (i := 9) sc_law_least.nd rfl (Or.inl rfl)) pgs_nil)))) (fun _ _ _ _ _ => (ts_one (d_tin (hu_in hr) (d_var (pv 9)) (d_var (pv 2))))) (fun _ _ _ _ _ => (d_shr (pv 14))) (by decide)) a_nil))))))))))))))
theorem sc_law_is : FnScope n_law_is ["_law_machine_here", "_law_letters", "_law_least_here"] (defScope (top 51)) := ⟨rfl, rfl, rfl, by decide +kernel, rfl, by decide +kernel, by decide +kernel⟩
theorem b_law_is {P : Program} {w : World} {K : PySem.W.Frag} {ca : CA} {mg : Str → Option Value} {base : Heap} {f : Addr} {k : Nat} (q_len : mg "len" = none) (q_repr : mg "repr" = none) (F_Machine_ends : FnM P w K ca mg base "Machine" "ends" k m_Machine_ends) (F_Machine_letters : FnPr P w K ca mg base "Machine" "letters" k m_Machine_letters) (F_Machine_states : FnPr P w K ca mg base "Machine" "states" k m_Machine_states) (F_Machine_steps : FnM P w K ca mg base "Machine" "steps" k m_Machine_steps) : Body P w K ca mg base k f "_law_is" (defScope (top 51)) n_law_is (defBody (top 51)) g_law_is := fun cdv A out s H E gd hr =>
  (g_seq (g_set (ps_set (i := 3) sc_law_is.nd rfl (Or.inl rfl) (s_pure (d_lst (a_cons (x_prop F_Machine_letters gd hr (d_shr (pv 0))) (a_cons (x_prop F_Machine_states gd hr (d_shr (pv 0))) (a_cons (x_meth F_Machine_steps gd hr (d_shr (pv 0))) (a_cons (x_meth F_Machine_ends gd hr (d_shr (pv 0))) a_nil))))))))
    (g_one (g_ret (s_pure (d_eqA (hu_eq hr) (d_w (d_cb okRepr (pe_callB (call_reprD gd hr) rfl q_repr (by decide +kernel) (aw_cons (d_var (pv 3)) aw_nil)))) (d_w (d_cb okRepr (pe_callB (call_reprD gd hr) rfl q_repr (by decide +kernel) (aw_cons (d_w (d_lst (a_cons (d_shr (pv 1)) (a_cons (d_cb okLen (pe_callB call_len rfl q_len (by decide +kernel) (aw_cons (d_w (d_ix (d_var (pv 2)) (d_w (d_c pe_int rfl)) (fun _ _ => rfl))) aw_nil))) (a_cons (d_ix (d_var (pv 2)) (d_w (d_c pe_int rfl)) (fun _ _ => rfl)) (a_cons (d_ix (d_var (pv 2)) (d_w (d_c pe_int rfl)) (fun _ _ => rfl)) a_nil)))))) aw_nil)))))))))
theorem sc_law_named : FnScope n_law_named ["_law_pot_here", "_law_machine_here"] (defScope (top 52)) := ⟨rfl, rfl, rfl, by decide +kernel, rfl, by decide +kernel, by decide +kernel⟩
theorem b_law_named {P : Program} {w : World} {K : PySem.W.Frag} {ca : CA} {mg : Str → Option Value} {base : Heap} {f : Addr} {k : Nat} (q_len : mg "len" = none) (q_list : mg "list" = none) (q_range : mg "range" = none) (F_law_draw : FnE P w K mg base "_law_draw" k ["_law_pot_here", "_law_many"] (spB K ca m_law_draw)) : Body P w K ca mg base k f "_law_named" (defScope (top 52)) n_law_named (defBody (top 52)) g_law_named := fun cdv A out s H E gd hr =>
  (g_seq (g_tgt (t := (.tp [2, 3])) (ps_asg (s_frz (pv 1)) (pg_tup rfl (pgs_cons (pg_name (i := 2) sc_law_named.nd rfl (Or.inl rfl)) (pgs_cons (pg_name (i := 3) sc_law_named.nd rfl (Or.inl rfl)) pgs_nil)))))
    (g_seq (g_set (ps_set (i := 4) sc_law_named.nd rfl (Or.inl rfl) (s_pure (d_cb okLen (pe_callB call_len rfl q_len (by decide +kernel) (aw_cons (d_var (pv 2)) aw_nil))))))
    (g_seq (g_parT (is := [5, 6]) (by decide) (ps_asg (pe_tup (m_N (n_rng (pe_listRg rfl rfl q_list (prg_2 rfl q_range pe_int (d_shr (pv 4))))) (m_N (n_lst (sa_cons (s_pure (d_c pe_int rfl)) sa_nil)) m_nil))) (pg_tup rfl (pgs_cons (pg_name (i := 5) sc_law_named.nd rfl (Or.inl rfl)) (pgs_cons (pg_name (i := 6) sc_law_named.nd rfl (Or.inr rfl)) pgs_nil)))))
    (g_seq (g_wh (ps_while PassesOwn.never (d_tneA (hu_eq hr) (d_var (pv 5)) (d_w (d_lst a_nil))) (g_one (w_app (pv 6) (w_pop (pv 5) (c_callB (e_call F_law_draw gd hr rfl (pa_cons (pv 0) (sa_cons (s_pure (d_cb okLen (pe_callB call_len rfl q_len (by decide +kernel) (aw_cons (d_var (pv 5)) aw_nil)))) sa_nil)))))))))
    (g_seq (g_setLc (i := 7) (own := [("_law_state", 11)]) rfl sc_law_named.nd rfl rfl (sw_true rfl rfl rfl (by decide +kernel)) (i_w (i_range rfl q_range (d_shr (pv 4)))) (blkOk_by (N := n_law_named) (sc := defScope (top 52)) (by decide +kernel)) (fun _ _ _ _ _ => (pg_name (i := 11) sc_law_named.nd rfl (Or.inl rfl))) (fun _ _ _ _ _ => ts_nil) (fun _ _ _ _ _ => (w_idxL (hu_in hr) (d_var (pv 6)) (aw_cons (d_var (pv 11)) aw_nil))) (by decide))
    (g_seq (g_par2 (ps_par (i := 8) (j := 9) rfl sc_law_named.nd rfl rfl (by decide) rfl rfl (m_N (n_lst sa_nil) (m_N (n_lst sa_nil) m_nil)) rfl))
    (g_seq (g_for (tg := (.nm 10)) (ps_for PassesOwn.never rfl (i_range rfl q_range (d_if (d_tlt (d_var (pv 4)) (d_w (d_c pe_int rfl))) (d_c pe_int rfl) (d_c pe_int rfl))) (pg_name (i := 10) sc_law_named.nd rfl (Or.inl rfl)) (g_one (g_forF (tg := (.nm 11)) (ps_for PassesOwn.never rfl (i_frz (pv 6)) (pg_name (i := 11) sc_law_named.nd rfl (Or.inl rfl)) (g_seq (g_setN (ps_set (i := 12) sc_law_named.nd rfl (Or.inl rfl) (n_lst sa_nil)))
    (g_seq (g_for (tg := (.nm 13)) (ps_for PassesOwn.never rfl (i_seqS (d_ix (d_var (pv 2)) (d_var (pv 11)) (fun _ _ => rfl))) (pg_name (i := 13) sc_law_named.nd rfl (Or.inl rfl)) (g_one (w_app (pv 12) (s_add (s_pure (d_ix (d_var (pv 7)) (d_var (pv 13)) (fun _ _ => rfl))) (s_if (PW.pt (s_wand (s_tpure (d_tlt (d_var (pv 4)) (d_w (d_c pe_int rfl)))) (s_wand1 (s_teqA (hu_eq hr) (c_callB (e_call F_law_draw gd hr rfl (pa_cons (pv 0) (sa_cons (s_pure (d_c pe_int rfl)) sa_nil)))) (s_pure (d_c pe_int rfl)))))) (s_frz (pv 4)) (s_pure (d_c pe_int rfl))))))))
    (g_seq (w_app (pv 8) (s_frz (pv 12)))
    (g_one (g_if (s_tpure (d_tin (hu_in hr) (d_var (pv 11)) (d_var (pv 3)))) (g_one (w_app (pv 9) (s_pure (d_sub (d_w (d_cb okLen (pe_callB call_len rfl q_len (by decide +kernel) (aw_cons (d_var (pv 8)) aw_nil)))) (d_w (d_c pe_int rfl)))))) g_nil))))))))))
    (g_seq (w_app (pv 8) (s_mulA (s_new (n_lst (sa_cons (c_callB (e_call F_law_draw gd hr rfl (pa_cons (pv 0) (sa_cons (s_pure (d_cb okLen (pe_callB call_len rfl q_len (by decide +kernel) (aw_cons (d_var (pv 8)) aw_nil)))) sa_nil)))) sa_nil))) (s_pure (d_cb okLen (pe_callB call_len rfl q_len (by decide +kernel) (aw_cons (d_w (d_ix (d_var (pv 2)) (d_w (d_c pe_int rfl)) (fun _ _ => rfl))) aw_nil))))))
    (g_one (g_ret (s_tup (sa_cons (s_frz (pv 8)) (sa_cons (s_pure (d_add (d_var (pv 9)) (d_w (d_lst (a_cons (d_sub (d_w (d_cb okLen (pe_callB call_len rfl q_len (by decide +kernel) (aw_cons (d_var (pv 8)) aw_nil)))) (d_w (d_c pe_int rfl))) a_nil))))) sa_nil)))))))))))))
theorem sc_law_words_right : FnScope n_law_words_right ["_law_machine_here", "_law_letters", "_law_told"] (defScope (top 53)) := ⟨rfl, rfl, rfl, by decide +kernel, rfl, by decide +kernel, by decide +kernel⟩
theorem b_law_words_right {P : Program} {w : World} {K : PySem.W.Frag} {ca : CA} {mg : Str → Option Value} {base : Heap} {f : Addr} {k : Nat} (q_len : mg "len" = none) (F_law_led : FnE P w K mg base "_law_led" k ["_law_steps", "_law_word"] (spP K ca m_law_led)) (F_law_reached : FnE P w K mg base "_law_reached" k ["_law_steps"] (spP K ca m_law_reached)) (F_law_words : FnE P w K mg base "_law_words" k ["_law_letters", "_law_length"] (spP K ca m_law_words)) (F_first_words : FnE P w K mg base "first_words" k ["letters", "length"] (spP K ca m_first_words)) (F_first_words_klength_letters : FnK P w K mg base "first_words" k ["letters", "length"] ["length", "letters"] [1, 0] (spP K ca m_first_words)) (F_is_empty : FnE P w K mg base "is_empty" k ["machine"] (spP K ca m_is_empty)) (F_is_empty_kmachine : FnK P w K mg base "is_empty" k ["machine"] ["machine"] [0] (spP K ca m_is_empty)) (F_lets : FnE P w K mg base "lets" k ["machine", "word"] (spP K ca m_lets)) (F_shortest_kmachine : FnK P w K mg base "shortest" k ["machine"] ["machine"] [0] (spP K ca m_shortest)) (F_words_of : FnE P w K mg base "words_of" k ["machine", "length"] (spP K ca m_words_of)) (F_words_of_klength_machine : FnK P w K mg base "words_of" k ["machine", "length"] ["length", "machine"] [1, 0] (spP K ca m_words_of)) : Body P w K ca mg base k f "_law_words_right" (defScope (top 53)) n_law_words_right (defBody (top 53)) g_law_words_right := fun cdv A out s H E gd hr =>
  (g_seq (g_tgt (t := (.tp [3, 4])) (ps_asg (s_frz (pv 0)) (pg_tup rfl (pgs_cons (pg_name (i := 3) sc_law_words_right.nd rfl (Or.inr rfl)) (pgs_cons (pg_name (i := 4) sc_law_words_right.nd rfl (Or.inr rfl)) pgs_nil)))))
    (g_seq (g_set (ps_set (i := 5) sc_law_words_right.nd rfl (Or.inl rfl) (s_pure (c_pure (e_call F_law_words gd hr rfl (a_cons (d_shr (pv 1)) (a_cons (d_c pe_int rfl) a_nil)))))))
    (g_seq (g_setLc (i := 6) (own := [("_law_word", 9)]) rfl sc_law_words_right.nd rfl rfl (sw_true rfl rfl rfl (by decide +kernel)) (i_seqW (d_var (pv 5))) (blkOk_by (N := n_law_words_right) (sc := defScope (top 53)) (by decide +kernel)) (fun _ _ _ _ _ => (pg_name (i := 9) sc_law_words_right.nd rfl (Or.inl rfl))) (fun _ _ _ _ _ => (ts_one (d_tin (hu_in hr) (d_w (c_pure (e_call F_law_led gd hr rfl (a_cons (d_shr (pv 3)) (a_cons (d_shr (pv 9)) a_nil))))) (d_var (pv 4))))) (fun _ _ _ _ _ => (d_shr (pv 9))) (by decide))
    (g_seq (g_if (s_tpure (PW.pt (d_wor (d_tneA (hu_eq hr) (d_w (d_lc (own := [("_law_word", 9)]) rfl sc_law_words_right.nd (i_seqW (d_var (pv 5))) (blkOk_by (N := n_law_words_right) (sc := defScope (top 53)) (by decide +kernel)) (fun _ _ _ _ _ => (pg_name (i := 9) sc_law_words_right.nd rfl (Or.inl rfl))) (fun _ _ _ _ _ => (ts_one (d_tru (d_w (c_pure (e_call F_lets gd hr rfl (a_cons (d_shr (pv 2)) (a_cons (d_shr (pv 9)) a_nil)))))))) (fun _ _ _ _ _ => (d_shr (pv 9))) (by decide))) (d_var (pv 6))) (d_wor1 (d_tneA (hu_eq hr) (d_w (c_pure (e_call F_words_of gd hr rfl (a_cons (d_shr (pv 2)) (a_cons (d_c pe_int rfl) a_nil))))) (d_var (pv 6))))))) (g_one (g_ret (s_pure (d_c pe_bl rfl)))) g_nil)
    (g_seq (g_if (s_tpure (d_tneA (hu_eq hr) (d_w (e_callK F_words_of_klength_machine gd hr rfl (kw_cons (d_c pe_int rfl) (kw_cons (d_shr (pv 2)) kw_nil)))) (d_w (d_lc (own := [("_law_word", 9)]) rfl sc_law_words_right.nd (i_seqW (d_var (pv 6))) (blkOk_by (N := n_law_words_right) (sc := defScope (top 53)) (by decide +kernel)) (fun _ _ _ _ _ => (pg_name (i := 9) sc_law_words_right.nd rfl (Or.inl rfl))) (fun _ _ _ _ _ => (ts_one (d_tlt (d_w (d_cb okLen (pe_callB call_len rfl q_len (by decide +kernel) (aw_cons (d_var (pv 9)) aw_nil)))) (d_w (d_c pe_int rfl))))) (fun _ _ _ _ _ => (d_shr (pv 9))) (by decide))))) (g_one (g_ret (s_pure (d_c pe_bl rfl)))) g_nil)
    (g_seq (g_if (s_tpure (PW.pt (d_wor (d_tneA (hu_eq hr) (d_w (c_pure (e_call F_first_words gd hr rfl (a_cons (d_shr (pv 1)) (a_cons (d_c pe_int rfl) a_nil))))) (d_var (pv 5))) (d_wor1 (d_tneA (hu_eq hr) (d_w (e_callK F_first_words_klength_letters gd hr rfl (kw_cons (d_c pe_int rfl) (kw_cons (d_shr (pv 1)) kw_nil)))) (d_w (d_sl (d_var (pv 5)) o_no (o_at (d_add (d_var (pv 1)) (d_w (d_c pe_int rfl))))))))))) (g_one (g_ret (s_pure (d_c pe_bl rfl)))) g_nil)
    (g_seq (g_set (ps_set (i := 7) sc_law_words_right.nd rfl (Or.inl rfl) (s_pure (c_pure (e_call F_law_reached gd hr rfl (a_cons (d_shr (pv 3)) a_nil))))))
    (g_seq (g_if (s_tpure (d_tneA (hu_eq hr) (d_w (c_pure (e_call F_is_empty gd hr rfl (a_cons (d_shr (pv 2)) a_nil)))) (d_w (d_eqA (hu_eq hr) (d_w (d_lc (own := [("_law_state", 10)]) rfl sc_law_words_right.nd (i_seqW (d_var (pv 7))) (blkOk_by (N := n_law_words_right) (sc := defScope (top 53)) (by decide +kernel)) (fun _ _ _ _ _ => (pg_name (i := 10) sc_law_words_right.nd rfl (Or.inl rfl))) (fun _ _ _ _ _ => (ts_one (d_tin (hu_in hr) (d_var (pv 10)) (d_var (pv 4))))) (fun _ _ _ _ _ => (d_shr (pv 10))) (by decide))) (d_w (d_lst a_nil)))))) (g_one (g_ret (s_pure (d_c pe_bl rfl)))) g_nil)
    (g_seq (g_set (ps_set (i := 8) sc_law_words_right.nd rfl (Or.inl rfl) (s_pure (e_callK F_shortest_kmachine gd hr rfl (kw_cons (d_shr (pv 2)) kw_nil)))))
    (g_seq (g_if (s_tpure (d_tneA (hu_eq hr) (d_var (pv 6)) (d_w (d_lst a_nil)))) (g_one (g_ret (s_pure (d_eqA (hu_eq hr) (d_var (pv 8)) (d_w (d_ix (d_var (pv 6)) (d_w (d_c pe_int rfl)) (fun _ _ => rfl))))))) g_nil)
    (g_seq (g_if (s_tpure (d_tru (d_w (e_callK F_is_empty_kmachine gd hr rfl (kw_cons (d_shr (pv 2)) kw_nil))))) (g_one (g_ret (s_pure (d_is (d_var (pv 8)) (d_w (d_c pe_non rfl)))))) g_nil)
    (g_one (g_ret (s_pure (d_and (d_gt (d_w (d_cb okLen (pe_callB call_len rfl q_len (by decide +kernel) (aw_cons (d_var (pv 8)) aw_nil)))) (d_w (d_c pe_int rfl))) (d_one (d_in (hu_in hr) (d_w (c_pure (e_call F_law_led gd hr rfl (a_cons (d_shr (pv 3)) (a_cons (d_shr (pv 8)) a_nil))))) (d_var (pv 4)))))))))))))))))))

theorem sc_law : FnScope n_law ["_law_script"] (defScope (top 55)) := ⟨rfl, rfl, rfl, by decide +kernel, rfl, by decide +kernel, by decide +kernel⟩
theorem b_law {P : Program} {w : World} {K : PySem.W.Frag} {ca : CA} {mg : Str → Option Value} {base : Heap} {f : Addr} {k : Nat} (q_len : mg "len" = none) (q_repr : mg "repr" = none) (q_tuple : mg "tuple" = none) (F_Machine : MkP P w K ca mg base "Machine" k m_Machine) (F_Machine___eq__ : EqC P w K ca mg base "Machine" k m_Machine___eq__) (F_Machine_kends_steps_letters : MkK P w K ca mg base "Machine" k ["ends", "steps", "letters"] [2, 1, 0] m_Machine) (F_law_copied_right : FnE P w K mg base "_law_copied_right" k ["_law_machine_here", "_law_letters", "_law_told", "_law_least_here"] (spP K ca m_law_copied_right)) (F_law_draw : FnE P w K mg base "_law_draw" k ["_law_pot_here", "_law_many"] (spB K ca m_law_draw)) (F_law_is : FnE P w K mg base "_law_is" k ["_law_machine_here", "_law_letters", "_law_least_here"] (spP K ca m_law_is)) (F_law_least : FnE P w K mg base "_law_least" k ["_law_machine_here"] (spP K ca m_law_least)) (F_law_machine : FnE P w K mg base "_law_machine" k ["_law_pot_here", "_law_letters", "_law_most"] (spB K ca m_law_machine)) (F_law_named : FnE P w K mg base "_law_named" k ["_law_pot_here", "_law_machine_here"] (spB K ca m_law_named)) (F_law_pot : FnE P w K mg base "_law_pot" k ["_law_script", "_law_k"] (spP K ca m_law_pot)) (F_law_words_right : FnE P w K mg base "_law_words_right" k ["_law_machine_here", "_law_letters", "_law_told"] (spP K ca m_law_words_right)) : Body P w K ca mg base k f "law" (defScope (top 55)) n_law (defBody (top 55)) g_law := fun cdv A out s H E gd hr =>
  (g_seq (g_setN (ps_set (i := 1) sc_law.nd rfl (Or.inl rfl) (c_callN (e_call F_law_pot gd hr rfl (sa_cons (s_frz (pv 0)) (sa_cons (s_pure (d_c pe_int rfl)) sa_nil))))))
    (g_seq (g_set (ps_set (i := 2) sc_law.nd rfl (Or.inl rfl) (s_add (s_pure (d_c pe_int rfl)) (c_callB (e_call F_law_draw gd hr rfl (pa_cons (pv 1) (sa_cons (s_pure (d_c pe_int rfl)) sa_nil)))))))
    (g_seq (g_set (ps_set (i := 3) sc_law.nd rfl (Or.inl rfl) (c_callB (e_call F_law_machine gd hr rfl (pa_cons (pv 1) (sa_cons (s_frz (pv 2)) (sa_cons (s_pure (d_c pe_int rfl)) sa_nil)))))))
    (g_seq (g_tgt (t := (.tp [4, 5])) (ps_asg (s_frz (pv 3)) (pg_tup rfl (pgs_cons (pg_name (i := 4) sc_law.nd rfl (Or.inl rfl)) (pgs_cons (pg_name (i := 5) sc_law.nd rfl (Or.inl rfl)) pgs_nil)))))
    (g_seq (g_par2 (ps_par (i := 6) (j := 7) rfl sc_law.nd rfl rfl (by decide) rfl rfl (m_I (s_pure (c_pure (e_call F_law_least gd hr rfl (a_cons (d_shr (pv 3)) a_nil)))) (m_I (s_pure (d_cb okRepr (pe_callB (call_reprD gd hr) rfl q_repr (by decide +kernel) (aw_cons (d_var (pv 3)) aw_nil)))) m_nil)) rfl))
    (g_seq (g_set (ps_set (i := 8) sc_law.nd rfl (Or.inl rfl) (s_pure (x_make F_Machine gd hr rfl (a_cons (d_shr (pv 2)) (a_cons (d_shr (pv 4)) (a_cons (d_rev (d_var (pv 5))) a_nil)))))))
    (g_seq (g_if (s_tpure (PW.pt (d_wor (d_tnot (d_tru (d_w (c_pure (e_call F_law_is gd hr rfl (a_cons (d_shr (pv 8)) (a_cons (d_shr (pv 2)) (a_cons (d_shr (pv 6)) a_nil)))))))) (d_wor1 (d_tneA (hu_eq hr) (d_w (d_cb okRepr (pe_callB (call_reprD gd hr) rfl q_repr (by decide +kernel) (aw_cons (d_var (pv 3)) aw_nil)))) (d_var (pv 7))))))) (g_one (g_ret (s_pure (d_c pe_bl rfl)))) g_nil)
    (g_seq (g_if (s_tpure (PW.pt (d_wor (d_tnot (d_tru (d_w (c_pure (e_call F_law_words_right gd hr rfl (a_cons (d_shr (pv 3)) (a_cons (d_shr (pv 2)) (a_cons (d_shr (pv 8)) a_nil)))))))) (d_wor1 (d_tnot (d_tru (d_w (c_pure (e_call F_law_copied_right gd hr rfl (a_cons (d_shr (pv 3)) (a_cons (d_shr (pv 2)) (a_cons (d_shr (pv 8)) (a_cons (d_shr (pv 6)) a_nil))))))))))))) (g_one (g_ret (s_pure (d_c pe_bl rfl)))) g_nil)
    (g_seq (g_set (ps_set (i := 9) sc_law.nd rfl (Or.inl rfl) (c_callB (e_call F_law_named gd hr rfl (pa_cons (pv 1) (sa_cons (s_frz (pv 3)) sa_nil))))))
    (g_seq (g_set (ps_set (i := 10) sc_law.nd rfl (Or.inl rfl) (s_pure (x_makeK F_Machine_kends_steps_letters gd hr rfl (kw_cons (d_cb okTuple (pe_callTy call_tuple_of rfl q_tuple (by decide +kernel) (aw_cons (d_w (d_ix (d_var (pv 9)) (d_w (d_c pe_int rfl)) (fun _ _ => rfl))) aw_nil))) (kw_cons (d_cb okTuple (pe_callTy call_tuple_of rfl q_tuple (by decide +kernel) (aw_cons (d_w (d_lc (own := [("_law_row", 17)]) rfl sc_law.nd (i_seqW (d_w (d_ix (d_var (pv 9)) (d_w (d_c pe_int rfl)) (fun _ _ => rfl)))) (blkOk_by (N := n_law) (sc := defScope (top 55)) (by decide +kernel)) (fun _ _ _ _ _ => (pg_name (i := 17) sc_law.nd rfl (Or.inl rfl))) (fun _ _ _ _ _ => ts_nil) (fun _ _ _ _ _ => (d_cb okTuple (pe_callTy call_tuple_of rfl q_tuple (by decide +kernel) (aw_cons (d_var (pv 17)) aw_nil)))) (by decide))) aw_nil))) (kw_cons (d_shr (pv 2)) kw_nil)))))))
    (g_seq (g_if (s_tpure (PW.pt (d_wor (d_tnot (d_tru (d_w (c_pure (e_call F_law_is gd hr rfl (a_cons (d_shr (pv 10)) (a_cons (d_shr (pv 2)) (a_cons (d_shr (pv 6)) a_nil)))))))) (d_wor (d_tisnot (d_w (d_eqO F_Machine___eq__ gd hr (d_shr (pv 10)) (d_shr (pv 8)))) (d_w (d_c pe_bl rfl))) (d_wor1 (d_tisnot (d_w (d_eqO F_Machine___eq__ gd hr (d_shr (pv 8)) (d_shr (pv 9)))) (d_w (d_c pe_bl rfl)))))))) (g_one (g_ret (s_pure (d_c pe_bl rfl)))) g_nil)
    (g_seq (g_set (ps_set (i := 11) sc_law.nd rfl (Or.inr rfl) (c_callB (e_call F_law_draw gd hr rfl (pa_cons (pv 1) (sa_cons (s_pure (d_cb okLen (pe_callB call_len rfl q_len (by decide +kernel) (aw_cons (d_var (pv 4)) aw_nil)))) sa_nil))))))
    (g_seq (g_set (ps_set (i := 12) sc_law.nd rfl (Or.inl rfl) (s_pure (d_if (d_tin (hu_in hr) (d_var (pv 11)) (d_var (pv 5))) (d_lc (own := [("_law_one", 18)]) rfl sc_law.nd (i_seqW (d_var (pv 5))) (blkOk_by (N := n_law) (sc := defScope (top 55)) (by decide +kernel)) (fun _ _ _ _ _ => (pg_name (i := 18) sc_law.nd rfl (Or.inl rfl))) (fun _ _ _ _ _ => (ts_one (d_tneA (hu_eq hr) (d_var (pv 18)) (d_var (pv 11))))) (fun _ _ _ _ _ => (d_shr (pv 18))) (by decide)) (d_add (d_var (pv 5)) (d_w (d_lst (a_cons (d_shr (pv 11)) a_nil))))))))
    (g_seq (g_if (s_tpure (d_tneA (hu_eq hr) (d_w (d_eqO F_Machine___eq__ gd hr (x_make F_Machine gd hr rfl (a_cons (d_shr (pv 2)) (a_cons (d_shr (pv 4)) (a_cons (d_shr (pv 12)) a_nil)))) (d_shr (pv 8)))) (d_w (d_eqA (hu_eq hr) (d_w (c_pure (e_call F_law_least gd hr rfl (a_cons (d_tup (a_cons (d_shr (pv 4)) (a_cons (d_shr (pv 12)) a_nil))) a_nil)))) (d_var (pv 6)))))) (g_one (g_ret (s_pure (d_c pe_bl rfl)))) g_nil)
    (g_seq (g_par2 (ps_par (i := 13) (j := 14) rfl sc_law.nd rfl rfl (by decide) rfl rfl (m_I (c_callB (e_call F_law_draw gd hr rfl (pa_cons (pv 1) (sa_cons (s_pure (d_cb okLen (pe_callB call_len rfl q_len (by decide +kernel) (aw_cons (d_var (pv 4)) aw_nil)))) sa_nil)))) (m_I (c_callB (e_call F_law_draw gd hr rfl (pa_cons (pv 1) (sa_cons (s_pure (d_cb okLen (pe_callB call_len rfl q_len (by decide +kernel) (aw_cons (d_var (pv 4)) aw_nil)))) sa_nil)))) m_nil)) rfl))
    (g_seq (g_set (ps_set (i := 15) sc_law.nd rfl (Or.inl rfl) (s_pure (d_add (d_w (d_add (d_w (d_sl (d_var (pv 4)) o_no (o_at (d_shr (pv 13))))) (d_w (d_lst (a_cons (d_add (d_w (d_lst (a_cons (d_shr (pv 14)) a_nil))) (d_w (d_sl (d_w (d_ix (d_var (pv 4)) (d_var (pv 13)) (fun _ _ => rfl))) (o_at (d_c pe_int rfl)) o_no))) a_nil))))) (d_w (d_sl (d_var (pv 4)) (o_at (d_add (d_var (pv 13)) (d_w (d_c pe_int rfl)))) o_no))))))
    (g_seq (g_if (s_tpure (d_tneA (hu_eq hr) (d_w (d_eqO F_Machine___eq__ gd hr (x_make F_Machine gd hr rfl (a_cons (d_shr (pv 2)) (a_cons (d_shr (pv 15)) (a_cons (d_shr (pv 5)) a_nil)))) (d_shr (pv 8)))) (d_w (d_eqA (hu_eq hr) (d_w (c_pure (e_call F_law_least gd hr rfl (a_cons (d_tup (a_cons (d_shr (pv 15)) (a_cons (d_shr (pv 5)) a_nil))) a_nil)))) (d_var (pv 6)))))) (g_one (g_ret (s_pure (d_c pe_bl rfl)))) g_nil)
    (g_seq (g_setLc (i := 16) (own := [("_law_row", 17)]) rfl sc_law.nd rfl rfl (sw_true rfl rfl rfl (by decide +kernel)) (i_seqW (d_var (pv 4))) (blkOk_by (N := n_law) (sc := defScope (top 55)) (by decide +kernel)) (fun _ _ _ _ _ => (pg_name (i := 17) sc_law.nd rfl (Or.inl rfl))) (fun _ _ _ _ _ => ts_nil) (fun _ _ _ _ _ => (d_add (d_var (pv 17)) (d_w (d_lst (a_cons (d_c pe_int rfl) a_nil))))) (by decide))
    (g_one (g_ret (s_pure (d_or (d_eqA (hu_eq hr) (d_var (pv 2)) (d_w (d_c pe_int rfl))) (d_one (d_is (d_w (d_eqO F_Machine___eq__ gd hr (x_make F_Machine gd hr rfl (a_cons (d_add (d_var (pv 2)) (d_w (d_c pe_int rfl))) (a_cons (d_shr (pv 16)) (a_cons (d_shr (pv 5)) a_nil)))) (d_shr (pv 8)))) (d_w (d_c pe_bl rfl))))))))))))))))))))))))))
end
end Dv

/-! X3 -/
section
set_option maxHeartbeats 0
/-! X3: each def of the linked text keeps its promise. -/
namespace Dv
noncomputable section
open NdefX PySem PySem.Spec PyProof.Rows L2 Evl LamX
def dd (x : Str) (st : Stmt) : He.DefD := ⟨(x, none), x, x, defArgs st, defBody st, defScope st, [], []⟩
def dx : He.DefD := ⟨("explored", none), "explored", "explored", defArgs (top 28), defBody (top 28), defScope (top 28), [.non, .non], []⟩
def dm (m q : Str) (i : Nat) : He.DefD := ⟨("Machine", some m), m, q, defArgs (mth (top 34) i), defBody (mth (top 34) i), defScope (mth (top 34) i), [], []⟩
def dg (m q : Str) (i : Nat) : He5.DefA := ⟨fun K => He5.wf K (He.ga K "Machine") "property" m, m, q, defArgs (mth (top 34) i), defBody (mth (top 34) i), defScope (mth (top 34) i), [], []⟩
def fn11_0 : List He.DefD := [dd "is_integer" (top 1), dd "is_count" (top 2), dd "is_below" (top 3), dd "is_listing" (top 4), dd "are_unlike_below" (top 5), dd "is_letters" (top 20), dd "check_letters" (top 21), dd "check_length" (top 22), dd "is_word_of" (top 23), dd "check_word" (top 24), dd "first_words" (top 25), dx, dd "first_words_to" (top 29), dd "numbered" (top 30), dd "least_form" (top 31), dd "are_steps" (top 35), dd "is_row" (top 36), dd "check_machine" (top 37), dd "led_to" (top 38), dd "lets" (top 39)]
def fn11_1 : List He.DefD := [dd "is_empty" (top 40), dd "shortest" (top 41), dd "words_of" (top 42), dd "_law_pot" (top 44), dd "_law_draw" (top 45), dd "_law_machine" (top 46), dd "_law_led" (top 47), dd "_law_words" (top 48), dd "_law_reached" (top 49), dd "_law_least" (top 50), dd "_law_is" (top 51), dd "_law_named" (top 52), dd "_law_words_right" (top 53), dd "_law_copied_right" (top 54), dd "law" (top 55), dm "__init__" "Machine.__init__" 0, dm "steps" "Machine.steps" 3, dm "ends" "Machine.ends" 4, dm "__eq__" "Machine.__eq__" 5]
def fn11 : List He.DefD := fn11_0 ++ fn11_1
def fa11_0 : List He.Fa := [.glo "is_integer", .glo "is_count", .glo "is_below", .glo "is_listing", .glo "are_unlike_below", .glo "is_letters", .glo "check_letters", .glo "check_length", .glo "is_word_of", .glo "check_word", .glo "first_words", .glo "explored", .glo "first_words_to", .glo "numbered", .glo "least_form", .glo "are_steps", .glo "is_row", .glo "check_machine", .glo "led_to", .glo "lets"]
def fa11_1 : List He.Fa := [.glo "is_empty", .glo "shortest", .glo "words_of", .glo "_law_pot", .glo "_law_draw", .glo "_law_machine", .glo "_law_led", .glo "_law_words", .glo "_law_reached", .glo "_law_least", .glo "_law_is", .glo "_law_named", .glo "_law_words_right", .glo "_law_copied_right", .glo "law", .glo "Machine", .free "abs", .free "all", .free "bool", .free "divmod"]
def fa11_2 : List He.Fa := [.free "enumerate", .free "int", .free "isinstance", .free "len", .free "list", .free "max", .free "range", .free "repr", .free "set", .free "sorted", .free "str", .free "tuple", .free "zip", .int "GREATEST_LENGTH" 6, .int "GREATEST_PASSED" 12, .int "GREATEST_STATES" 60, .int "LONGEST_WORD" 60, .str "SIGNS" "abc", .cls "Machine", .mkr "Machine"]
def fa11_3 : List He.Fa := [.meth "Machine" "steps", .meth "Machine" "ends", .meth "Machine" "__eq__", .noat "Machine" "_letters", .noat "Machine" "_steps", .noat "Machine" "_ends"]
def fa11 : List He.Fa := fa11_0 ++ fa11_1 ++ fa11_2 ++ fa11_3
def ga11 : List He5.DefA := [dg "letters" "Machine.letters" 1, dg "states" "Machine.states" 2]
def ex11 (K : PySem.W.Frag) : Bool := propB K "Machine" "letters" && (propB K "Machine" "states" && (icB K "Machine" && eqB K "Machine"))
def lfN : He.Defn := ("least_form", none)
def tf11 : List He.Defn := [lfN]
theorem law_facts (I : Nm) {P : Program} {w : World} {K : PySem.W.Frag} {h : Heap} {mg : Str → Option Value} {base : Heap} {fd : FuncData} (X : K.In h) (G : h.Ns mainGlobals mg) (c : SaysZ fa11 fn11 tf11 ex11 ga11 w h K) (TB : TabB base mg (He.cT K lfN).1 (He.cT K lfN).2) (hm : ((He.cT K lfN).2, fun _ _ => qLead) ∈ I.T) (hu : ∀ p ∈ I.T, p.1 = (He.cT K lfN).2 → p.2 = fun _ _ => qLead)
    (D_law : FunD K "law" "law" (defArgs (top 55)) (defBody (top 55)) (defScope (top 55)) [] [] (He.ga K "law") fd) : FnG P w K mg base 9 (He.ga K "law") fd ["_law_script"] (@spP I K (fun x => He.ga K x) m_law) := by
  letI := I
  let ca : CA := fun x => He.ga K x
  have cd := c.x.t.d
  have q_abs : mg "abs" = none := He.free_ok X G (cd.fact 36 (f := .free "abs") rfl)
  have q_all : mg "all" = none := He.free_ok X G (cd.fact 37 (f := .free "all") rfl)
  have q_bool : mg "bool" = none := He.free_ok X G (cd.fact 38 (f := .free "bool") rfl)
  have q_divmod : mg "divmod" = none := He.free_ok X G (cd.fact 39 (f := .free "divmod") rfl)
  have q_enumerate : mg "enumerate" = none := He.free_ok X G (cd.fact 40 (f := .free "enumerate") rfl)
  have q_int : mg "int" = none := He.free_ok X G (cd.fact 41 (f := .free "int") rfl)
  have q_isinstance : mg "isinstance" = none := He.free_ok X G (cd.fact 42 (f := .free "isinstance") rfl)
  have q_len : mg "len" = none := He.free_ok X G (cd.fact 43 (f := .free "len") rfl)
  have q_list : mg "list" = none := He.free_ok X G (cd.fact 44 (f := .free "list") rfl)
  have q_max : mg "max" = none := He.free_ok X G (cd.fact 45 (f := .free "max") rfl)
  have q_range : mg "range" = none := He.free_ok X G (cd.fact 46 (f := .free "range") rfl)
  have q_repr : mg "repr" = none := He.free_ok X G (cd.fact 47 (f := .free "repr") rfl)
  have q_set : mg "set" = none := He.free_ok X G (cd.fact 48 (f := .free "set") rfl)
  have q_sorted : mg "sorted" = none := He.free_ok X G (cd.fact 49 (f := .free "sorted") rfl)
  have q_str : mg "str" = none := He.free_ok X G (cd.fact 50 (f := .free "str") rfl)
  have q_tuple : mg "tuple" = none := He.free_ok X G (cd.fact 51 (f := .free "tuple") rfl)
  have q_zip : mg "zip" = none := He.free_ok X G (cd.fact 52 (f := .free "zip") rfl)
  have q_GREATEST_LENGTH : ∃ t, mg "GREATEST_LENGTH" = some (.int 6 t) := He.int_ok X G (cd.fact 53 (f := .int "GREATEST_LENGTH" 6) rfl)
  have q_GREATEST_PASSED : ∃ t, mg "GREATEST_PASSED" = some (.int 12 t) := He.int_ok X G (cd.fact 54 (f := .int "GREATEST_PASSED" 12) rfl)
  have q_GREATEST_STATES : ∃ t, mg "GREATEST_STATES" = some (.int 60 t) := He.int_ok X G (cd.fact 55 (f := .int "GREATEST_STATES" 60) rfl)
  have q_LONGEST_WORD : ∃ t, mg "LONGEST_WORD" = some (.int 60 t) := He.int_ok X G (cd.fact 56 (f := .int "LONGEST_WORD" 60) rfl)
  have q_SIGNS : ∃ t, mg "SIGNS" = some (.str "abc" t) := He.str_ok X G (cd.fact 57 (f := .str "SIGNS" "abc") rfl)
  have g_is_integer : mg "is_integer" = some (.ref (He.ga K "is_integer")) := He.glo_ok X G (cd.fact 0 (f := .glo "is_integer") rfl)
  have g_is_count : mg "is_count" = some (.ref (He.ga K "is_count")) := He.glo_ok X G (cd.fact 1 (f := .glo "is_count") rfl)
  have g_is_below : mg "is_below" = some (.ref (He.ga K "is_below")) := He.glo_ok X G (cd.fact 2 (f := .glo "is_below") rfl)
  have g_is_listing : mg "is_listing" = some (.ref (He.ga K "is_listing")) := He.glo_ok X G (cd.fact 3 (f := .glo "is_listing") rfl)
  have g_are_unlike_below : mg "are_unlike_below" = some (.ref (He.ga K "are_unlike_below")) := He.glo_ok X G (cd.fact 4 (f := .glo "are_unlike_below") rfl)
  have g_is_letters : mg "is_letters" = some (.ref (He.ga K "is_letters")) := He.glo_ok X G (cd.fact 5 (f := .glo "is_letters") rfl)
  have g_check_letters : mg "check_letters" = some (.ref (He.ga K "check_letters")) := He.glo_ok X G (cd.fact 6 (f := .glo "check_letters") rfl)
  have g_check_length : mg "check_length" = some (.ref (He.ga K "check_length")) := He.glo_ok X G (cd.fact 7 (f := .glo "check_length") rfl)
  have g_is_word_of : mg "is_word_of" = some (.ref (He.ga K "is_word_of")) := He.glo_ok X G (cd.fact 8 (f := .glo "is_word_of") rfl)
  have g_check_word : mg "check_word" = some (.ref (He.ga K "check_word")) := He.glo_ok X G (cd.fact 9 (f := .glo "check_word") rfl)
  have g_first_words : mg "first_words" = some (.ref (He.ga K "first_words")) := He.glo_ok X G (cd.fact 10 (f := .glo "first_words") rfl)
  have g_explored : mg "explored" = some (.ref (He.ga K "explored")) := He.glo_ok X G (cd.fact 11 (f := .glo "explored") rfl)
  have g_first_words_to : mg "first_words_to" = some (.ref (He.ga K "first_words_to")) := He.glo_ok X G (cd.fact 12 (f := .glo "first_words_to") rfl)
  have g_numbered : mg "numbered" = some (.ref (He.ga K "numbered")) := He.glo_ok X G (cd.fact 13 (f := .glo "numbered") rfl)
  have g_least_form : mg "least_form" = some (.ref (He.ga K "least_form")) := He.glo_ok X G (cd.fact 14 (f := .glo "least_form") rfl)
  have g_are_steps : mg "are_steps" = some (.ref (He.ga K "are_steps")) := He.glo_ok X G (cd.fact 15 (f := .glo "are_steps") rfl)
  have g_is_row : mg "is_row" = some (.ref (He.ga K "is_row")) := He.glo_ok X G (cd.fact 16 (f := .glo "is_row") rfl)
  have g_check_machine : mg "check_machine" = some (.ref (He.ga K "check_machine")) := He.glo_ok X G (cd.fact 17 (f := .glo "check_machine") rfl)
  have g_led_to : mg "led_to" = some (.ref (He.ga K "led_to")) := He.glo_ok X G (cd.fact 18 (f := .glo "led_to") rfl)
  have g_lets : mg "lets" = some (.ref (He.ga K "lets")) := He.glo_ok X G (cd.fact 19 (f := .glo "lets") rfl)
  have g_is_empty : mg "is_empty" = some (.ref (He.ga K "is_empty")) := He.glo_ok X G (cd.fact 20 (f := .glo "is_empty") rfl)
  have g_shortest : mg "shortest" = some (.ref (He.ga K "shortest")) := He.glo_ok X G (cd.fact 21 (f := .glo "shortest") rfl)
  have g_words_of : mg "words_of" = some (.ref (He.ga K "words_of")) := He.glo_ok X G (cd.fact 22 (f := .glo "words_of") rfl)
  have g__law_pot : mg "_law_pot" = some (.ref (He.ga K "_law_pot")) := He.glo_ok X G (cd.fact 23 (f := .glo "_law_pot") rfl)
  have g__law_draw : mg "_law_draw" = some (.ref (He.ga K "_law_draw")) := He.glo_ok X G (cd.fact 24 (f := .glo "_law_draw") rfl)
  have g__law_machine : mg "_law_machine" = some (.ref (He.ga K "_law_machine")) := He.glo_ok X G (cd.fact 25 (f := .glo "_law_machine") rfl)
  have g__law_led : mg "_law_led" = some (.ref (He.ga K "_law_led")) := He.glo_ok X G (cd.fact 26 (f := .glo "_law_led") rfl)
  have g__law_words : mg "_law_words" = some (.ref (He.ga K "_law_words")) := He.glo_ok X G (cd.fact 27 (f := .glo "_law_words") rfl)
  have g__law_reached : mg "_law_reached" = some (.ref (He.ga K "_law_reached")) := He.glo_ok X G (cd.fact 28 (f := .glo "_law_reached") rfl)
  have g__law_least : mg "_law_least" = some (.ref (He.ga K "_law_least")) := He.glo_ok X G (cd.fact 29 (f := .glo "_law_least") rfl)
  have g__law_is : mg "_law_is" = some (.ref (He.ga K "_law_is")) := He.glo_ok X G (cd.fact 30 (f := .glo "_law_is") rfl)
  have g__law_named : mg "_law_named" = some (.ref (He.ga K "_law_named")) := He.glo_ok X G (cd.fact 31 (f := .glo "_law_named") rfl)
  have g__law_words_right : mg "_law_words_right" = some (.ref (He.ga K "_law_words_right")) := He.glo_ok X G (cd.fact 32 (f := .glo "_law_words_right") rfl)
  have g__law_copied_right : mg "_law_copied_right" = some (.ref (He.ga K "_law_copied_right")) := He.glo_ok X G (cd.fact 33 (f := .glo "_law_copied_right") rfl)
  have g_law : mg "law" = some (.ref (He.ga K "law")) := He.glo_ok X G (cd.fact 34 (f := .glo "law") rfl)
  have g_Machine : mg "Machine" = some (.ref (He.ga K "Machine")) := He.glo_ok X G (cd.fact 35 (f := .glo "Machine") rfl)
  have cl : Cls K (He.ga K "Machine") := He.cls_ok (cd.fact 58 (f := .cls "Machine") rfl)
  have c_Machine : ClsD K ca "Machine" ["_letters", "_steps", "_ends"] := ⟨cl, fun f hf => by
    rcases List.mem_cons.mp hf with rfl | hf
    · exact He.noat_ok (cd.fact 63 (f := .noat "Machine" "_letters") rfl)
    rcases List.mem_cons.mp hf with rfl | hf
    · exact He.noat_ok (cd.fact 64 (f := .noat "Machine" "_steps") rfl)
    rcases List.mem_cons.mp hf with rfl | hf
    · exact He.noat_ok (cd.fact 65 (f := .noat "Machine" "_ends") rfl)
    · exact nomatch hf⟩
  obtain ⟨x1, xr⟩ := He.ba c.extra
  obtain ⟨x2, xr⟩ := He.ba xr
  obtain ⟨x3, x4⟩ := He.ba xr
  have z_Machine : IsC K ca mg "Machine" := icB_ok x3 g_Machine cl
  obtain ⟨f_is_integer, D_is_integer⟩ : ∃ fd, FunD K "is_integer" "is_integer" (defArgs (top 1)) (defBody (top 1)) (defScope (top 1)) [] [] (He.ga K "is_integer") fd := cd.def_ 0 (d := dd "is_integer" (top 1)) rfl
  obtain ⟨f_is_count, D_is_count⟩ : ∃ fd, FunD K "is_count" "is_count" (defArgs (top 2)) (defBody (top 2)) (defScope (top 2)) [] [] (He.ga K "is_count") fd := cd.def_ 1 (d := dd "is_count" (top 2)) rfl
  obtain ⟨f_is_below, D_is_below⟩ : ∃ fd, FunD K "is_below" "is_below" (defArgs (top 3)) (defBody (top 3)) (defScope (top 3)) [] [] (He.ga K "is_below") fd := cd.def_ 2 (d := dd "is_below" (top 3)) rfl
  obtain ⟨f_is_listing, D_is_listing⟩ : ∃ fd, FunD K "is_listing" "is_listing" (defArgs (top 4)) (defBody (top 4)) (defScope (top 4)) [] [] (He.ga K "is_listing") fd := cd.def_ 3 (d := dd "is_listing" (top 4)) rfl
  obtain ⟨f_are_unlike_below, D_are_unlike_below⟩ : ∃ fd, FunD K "are_unlike_below" "are_unlike_below" (defArgs (top 5)) (defBody (top 5)) (defScope (top 5)) [] [] (He.ga K "are_unlike_below") fd := cd.def_ 4 (d := dd "are_unlike_below" (top 5)) rfl
  obtain ⟨f_is_letters, D_is_letters⟩ : ∃ fd, FunD K "is_letters" "is_letters" (defArgs (top 20)) (defBody (top 20)) (defScope (top 20)) [] [] (He.ga K "is_letters") fd := cd.def_ 5 (d := dd "is_letters" (top 20)) rfl
  obtain ⟨f_check_letters, D_check_letters⟩ : ∃ fd, FunD K "check_letters" "check_letters" (defArgs (top 21)) (defBody (top 21)) (defScope (top 21)) [] [] (He.ga K "check_letters") fd := cd.def_ 6 (d := dd "check_letters" (top 21)) rfl
  obtain ⟨f_check_length, D_check_length⟩ : ∃ fd, FunD K "check_length" "check_length" (defArgs (top 22)) (defBody (top 22)) (defScope (top 22)) [] [] (He.ga K "check_length") fd := cd.def_ 7 (d := dd "check_length" (top 22)) rfl
  obtain ⟨f_is_word_of, D_is_word_of⟩ : ∃ fd, FunD K "is_word_of" "is_word_of" (defArgs (top 23)) (defBody (top 23)) (defScope (top 23)) [] [] (He.ga K "is_word_of") fd := cd.def_ 8 (d := dd "is_word_of" (top 23)) rfl
  obtain ⟨f_check_word, D_check_word⟩ : ∃ fd, FunD K "check_word" "check_word" (defArgs (top 24)) (defBody (top 24)) (defScope (top 24)) [] [] (He.ga K "check_word") fd := cd.def_ 9 (d := dd "check_word" (top 24)) rfl
  obtain ⟨f_first_words, D_first_words⟩ : ∃ fd, FunD K "first_words" "first_words" (defArgs (top 25)) (defBody (top 25)) (defScope (top 25)) [] [] (He.ga K "first_words") fd := cd.def_ 10 (d := dd "first_words" (top 25)) rfl
  obtain ⟨f_explored, D_explored⟩ : ∃ fd, FunD K "explored" "explored" (defArgs (top 28)) (defBody (top 28)) (defScope (top 28)) [.non, .non] [] (He.ga K "explored") fd := cd.def_ 11 (d := dx) rfl
  obtain ⟨f_first_words_to, D_first_words_to⟩ : ∃ fd, FunD K "first_words_to" "first_words_to" (defArgs (top 29)) (defBody (top 29)) (defScope (top 29)) [] [] (He.ga K "first_words_to") fd := cd.def_ 12 (d := dd "first_words_to" (top 29)) rfl
  obtain ⟨f_numbered, D_numbered⟩ : ∃ fd, FunD K "numbered" "numbered" (defArgs (top 30)) (defBody (top 30)) (defScope (top 30)) [] [] (He.ga K "numbered") fd := cd.def_ 13 (d := dd "numbered" (top 30)) rfl
  obtain ⟨f_least_form, D_least_form⟩ : ∃ fd, FunD K "least_form" "least_form" (defArgs (top 31)) (defBody (top 31)) (defScope (top 31)) [] [] (He.ga K "least_form") fd := cd.def_ 14 (d := dd "least_form" (top 31)) rfl
  obtain ⟨f_are_steps, D_are_steps⟩ : ∃ fd, FunD K "are_steps" "are_steps" (defArgs (top 35)) (defBody (top 35)) (defScope (top 35)) [] [] (He.ga K "are_steps") fd := cd.def_ 15 (d := dd "are_steps" (top 35)) rfl
  obtain ⟨f_is_row, D_is_row⟩ : ∃ fd, FunD K "is_row" "is_row" (defArgs (top 36)) (defBody (top 36)) (defScope (top 36)) [] [] (He.ga K "is_row") fd := cd.def_ 16 (d := dd "is_row" (top 36)) rfl
  obtain ⟨f_check_machine, D_check_machine⟩ : ∃ fd, FunD K "check_machine" "check_machine" (defArgs (top 37)) (defBody (top 37)) (defScope (top 37)) [] [] (He.ga K "check_machine") fd := cd.def_ 17 (d := dd "check_machine" (top 37)) rfl
  obtain ⟨f_led_to, D_led_to⟩ : ∃ fd, FunD K "led_to" "led_to" (defArgs (top 38)) (defBody (top 38)) (defScope (top 38)) [] [] (He.ga K "led_to") fd := cd.def_ 18 (d := dd "led_to" (top 38)) rfl
  obtain ⟨f_lets, D_lets⟩ : ∃ fd, FunD K "lets" "lets" (defArgs (top 39)) (defBody (top 39)) (defScope (top 39)) [] [] (He.ga K "lets") fd := cd.def_ 19 (d := dd "lets" (top 39)) rfl
  obtain ⟨f_is_empty, D_is_empty⟩ : ∃ fd, FunD K "is_empty" "is_empty" (defArgs (top 40)) (defBody (top 40)) (defScope (top 40)) [] [] (He.ga K "is_empty") fd := cd.def_ 20 (d := dd "is_empty" (top 40)) rfl
  obtain ⟨f_shortest, D_shortest⟩ : ∃ fd, FunD K "shortest" "shortest" (defArgs (top 41)) (defBody (top 41)) (defScope (top 41)) [] [] (He.ga K "shortest") fd := cd.def_ 21 (d := dd "shortest" (top 41)) rfl
  obtain ⟨f_words_of, D_words_of⟩ : ∃ fd, FunD K "words_of" "words_of" (defArgs (top 42)) (defBody (top 42)) (defScope (top 42)) [] [] (He.ga K "words_of") fd := cd.def_ 22 (d := dd "words_of" (top 42)) rfl
  obtain ⟨f__law_pot, D__law_pot⟩ : ∃ fd, FunD K "_law_pot" "_law_pot" (defArgs (top 44)) (defBody (top 44)) (defScope (top 44)) [] [] (He.ga K "_law_pot") fd := cd.def_ 23 (d := dd "_law_pot" (top 44)) rfl
  obtain ⟨f__law_draw, D__law_draw⟩ : ∃ fd, FunD K "_law_draw" "_law_draw" (defArgs (top 45)) (defBody (top 45)) (defScope (top 45)) [] [] (He.ga K "_law_draw") fd := cd.def_ 24 (d := dd "_law_draw" (top 45)) rfl
  obtain ⟨f__law_machine, D__law_machine⟩ : ∃ fd, FunD K "_law_machine" "_law_machine" (defArgs (top 46)) (defBody (top 46)) (defScope (top 46)) [] [] (He.ga K "_law_machine") fd := cd.def_ 25 (d := dd "_law_machine" (top 46)) rfl
  obtain ⟨f__law_led, D__law_led⟩ : ∃ fd, FunD K "_law_led" "_law_led" (defArgs (top 47)) (defBody (top 47)) (defScope (top 47)) [] [] (He.ga K "_law_led") fd := cd.def_ 26 (d := dd "_law_led" (top 47)) rfl
  obtain ⟨f__law_words, D__law_words⟩ : ∃ fd, FunD K "_law_words" "_law_words" (defArgs (top 48)) (defBody (top 48)) (defScope (top 48)) [] [] (He.ga K "_law_words") fd := cd.def_ 27 (d := dd "_law_words" (top 48)) rfl
  obtain ⟨f__law_reached, D__law_reached⟩ : ∃ fd, FunD K "_law_reached" "_law_reached" (defArgs (top 49)) (defBody (top 49)) (defScope (top 49)) [] [] (He.ga K "_law_reached") fd := cd.def_ 28 (d := dd "_law_reached" (top 49)) rfl
  obtain ⟨f__law_least, D__law_least⟩ : ∃ fd, FunD K "_law_least" "_law_least" (defArgs (top 50)) (defBody (top 50)) (defScope (top 50)) [] [] (He.ga K "_law_least") fd := cd.def_ 29 (d := dd "_law_least" (top 50)) rfl
  obtain ⟨f__law_is, D__law_is⟩ : ∃ fd, FunD K "_law_is" "_law_is" (defArgs (top 51)) (defBody (top 51)) (defScope (top 51)) [] [] (He.ga K "_law_is") fd := cd.def_ 30 (d := dd "_law_is" (top 51)) rfl
  obtain ⟨f__law_named, D__law_named⟩ : ∃ fd, FunD K "_law_named" "_law_named" (defArgs (top 52)) (defBody (top 52)) (defScope (top 52)) [] [] (He.ga K "_law_named") fd := cd.def_ 31 (d := dd "_law_named" (top 52)) rfl
  obtain ⟨f__law_words_right, D__law_words_right⟩ : ∃ fd, FunD K "_law_words_right" "_law_words_right" (defArgs (top 53)) (defBody (top 53)) (defScope (top 53)) [] [] (He.ga K "_law_words_right") fd := cd.def_ 32 (d := dd "_law_words_right" (top 53)) rfl
  obtain ⟨f__law_copied_right, D__law_copied_right⟩ : ∃ fd, FunD K "_law_copied_right" "_law_copied_right" (defArgs (top 54)) (defBody (top 54)) (defScope (top 54)) [] [] (He.ga K "_law_copied_right") fd := cd.def_ 33 (d := dd "_law_copied_right" (top 54)) rfl
  obtain ⟨f_M__init__, D_M__init__⟩ : ∃ fd, FunD K "__init__" "Machine.__init__" (defArgs (mth (top 34) 0)) (defBody (mth (top 34) 0)) (defScope (mth (top 34) 0)) [] [] (He.ma K (He.ga K "Machine") "__init__") fd := cd.def_ 35 (d := dm "__init__" "Machine.__init__" 0) rfl
  obtain ⟨f_Msteps, D_Msteps⟩ : ∃ fd, FunD K "steps" "Machine.steps" (defArgs (mth (top 34) 3)) (defBody (mth (top 34) 3)) (defScope (mth (top 34) 3)) [] [] (He.ma K (He.ga K "Machine") "steps") fd := cd.def_ 36 (d := dm "steps" "Machine.steps" 3) rfl
  obtain ⟨f_Mends, D_Mends⟩ : ∃ fd, FunD K "ends" "Machine.ends" (defArgs (mth (top 34) 4)) (defBody (mth (top 34) 4)) (defScope (mth (top 34) 4)) [] [] (He.ma K (He.ga K "Machine") "ends") fd := cd.def_ 37 (d := dm "ends" "Machine.ends" 4) rfl
  obtain ⟨f_M__eq__, D_M__eq__⟩ : ∃ fd, FunD K "__eq__" "Machine.__eq__" (defArgs (mth (top 34) 5)) (defBody (mth (top 34) 5)) (defScope (mth (top 34) 5)) [] [] (He.ma K (He.ga K "Machine") "__eq__") fd := cd.def_ 38 (d := dm "__eq__" "Machine.__eq__" 5) rfl
  obtain ⟨f_Mletters, D_Mletters⟩ : ∃ fd, FunD K "letters" "Machine.letters" (defArgs (mth (top 34) 1)) (defBody (mth (top 34) 1)) (defScope (mth (top 34) 1)) [] [] (He5.wf K (He.ga K "Machine") "property" "letters") fd := c.get 0 (d := dg "letters" "Machine.letters" 1) rfl
  obtain ⟨f_Mstates, D_Mstates⟩ : ∃ fd, FunD K "states" "Machine.states" (defArgs (mth (top 34) 2)) (defBody (mth (top 34) 2)) (defScope (mth (top 34) 2)) [] [] (He5.wf K (He.ga K "Machine") "property" "states") fd := c.get 1 (d := dg "states" "Machine.states" 2) rfl
  have E_is_integer : FnE P w K mg base "is_integer" 1 ["value"] (spP K ca m_is_integer) := ⟨⟨f_is_integer, gP D_is_integer sc_is_integer (by decide) (b_is_integer q_bool q_int q_isinstance), D_is_integer.bindsN (fun _ _ _ _ _ _ us hl => match us, hl with | [_], _ => rfl)⟩, D_is_integer.kp, g_is_integer⟩
  have E_is_count : FnE P w K mg base "is_count" 2 ["value"] (spP K ca m_is_count) := ⟨⟨f_is_count, gP D_is_count sc_is_count (by decide) (b_is_count (E_is_integer.up (by decide))), D_is_count.bindsN (fun _ _ _ _ _ _ us hl => match us, hl with | [_], _ => rfl)⟩, D_is_count.kp, g_is_count⟩
  have E_is_below : FnE P w K mg base "is_below" 3 ["value", "limit"] (spP K ca m_is_below) := ⟨⟨f_is_below, gP D_is_below sc_is_below (by decide) (b_is_below (E_is_count.up (by decide))), D_is_below.bindsN (fun _ _ _ _ _ _ us hl => match us, hl with | [_, _], _ => rfl)⟩, D_is_below.kp, g_is_below⟩
  have E_is_listing : FnE P w K mg base "is_listing" 1 ["value"] (spP K ca m_is_listing) := ⟨⟨f_is_listing, gP D_is_listing sc_is_listing (by decide) (b_is_listing q_isinstance q_list q_tuple), D_is_listing.bindsN (fun _ _ _ _ _ _ us hl => match us, hl with | [_], _ => rfl)⟩, D_is_listing.kp, g_is_listing⟩
  have E_are_unlike_below : FnE P w K mg base "are_unlike_below" 4 ["value", "limit"] (spP K ca m_are_unlike_below) := ⟨⟨f_are_unlike_below, gP D_are_unlike_below sc_are_unlike_below (by decide) (b_are_unlike_below q_all q_len q_set (E_is_below.up (by decide)) (E_is_listing.up (by decide))), D_are_unlike_below.bindsN (fun _ _ _ _ _ _ us hl => match us, hl with | [_, _], _ => rfl)⟩, D_are_unlike_below.kp, g_are_unlike_below⟩
  have E_is_letters : FnE P w K mg base "is_letters" 2 ["value"] (spP K ca m_is_letters) := ⟨⟨f_is_letters, gP D_is_letters sc_is_letters (by decide) (b_is_letters q_SIGNS q_len (E_is_integer.up (by decide))), D_is_letters.bindsN (fun _ _ _ _ _ _ us hl => match us, hl with | [_], _ => rfl)⟩, D_is_letters.kp, g_is_letters⟩
  have E_check_letters : FnE P w K mg base "check_letters" 3 ["letters"] (spP K ca m_check_letters) := ⟨⟨f_check_letters, gP D_check_letters sc_check_letters (by decide) (b_check_letters (E_is_letters.up (by decide))), D_check_letters.bindsN (fun _ _ _ _ _ _ us hl => match us, hl with | [_], _ => rfl)⟩, D_check_letters.kp, g_check_letters⟩
  have E_check_length : FnE P w K mg base "check_length" 4 ["length"] (spP K ca m_check_length) := ⟨⟨f_check_length, gP D_check_length sc_check_length (by decide) (b_check_length q_GREATEST_LENGTH (E_is_below.up (by decide))), D_check_length.bindsN (fun _ _ _ _ _ _ us hl => match us, hl with | [_], _ => rfl)⟩, D_check_length.kp, g_check_length⟩
  have E_is_word_of : FnE P w K mg base "is_word_of" 1 ["letters", "value"] (spP K ca m_is_word_of) := ⟨⟨f_is_word_of, gP D_is_word_of sc_is_word_of (by decide) (b_is_word_of q_LONGEST_WORD q_SIGNS q_all q_isinstance q_len q_str), D_is_word_of.bindsN (fun _ _ _ _ _ _ us hl => match us, hl with | [_, _], _ => rfl)⟩, D_is_word_of.kp, g_is_word_of⟩
  have E_check_word : FnE P w K mg base "check_word" 2 ["letters", "word"] (spP K ca m_check_word) := ⟨⟨f_check_word, gP D_check_word sc_check_word (by decide) (b_check_word (E_is_word_of.up (by decide))), D_check_word.bindsN (fun _ _ _ _ _ _ us hl => match us, hl with | [_, _], _ => rfl)⟩, D_check_word.kp, g_check_word⟩
  have E_is_row : FnE P w K mg base "is_row" 4 ["letters", "states", "value"] (spP K ca m_is_row) := ⟨⟨f_is_row, gP D_is_row sc_is_row (by decide) (b_is_row q_all q_len (E_is_below.up (by decide)) (E_is_listing.up (by decide))), D_is_row.bindsN (fun _ _ _ _ _ _ us hl => match us, hl with | [_, _, _], _ => rfl)⟩, D_is_row.kp, g_is_row⟩
  have E_are_steps : FnE P w K mg base "are_steps" 5 ["letters", "value"] (spP K ca m_are_steps) := ⟨⟨f_are_steps, gP D_are_steps sc_are_steps (by decide) (b_are_steps q_GREATEST_PASSED q_all q_len (E_is_listing.up (by decide)) (E_is_row.up (by decide))), D_are_steps.bindsN (fun _ _ _ _ _ _ us hl => match us, hl with | [_, _], _ => rfl)⟩, D_are_steps.kp, g_are_steps⟩
  have E_numbered : ∀ I : Nm, FnE P w K mg base "numbered" 1 ["marks"] (@spP I K ca semNumd) := fun I => by
    letI := I
    exact ⟨⟨f_numbered, numd_G (k := 0) D_numbered sc_numbered rfl (b_numbered q_len), D_numbered.bindsN (fun _ _ _ _ _ _ us hl => match us, hl with | [_], _ => rfl)⟩, D_numbered.kp, g_numbered⟩
  obtain ⟨ds0, hd0, hb0⟩ := D_explored.binds1 (ps := ["begin", "letters", "lead", "what", "limit"]) 3 0 (by simp) (by rfl) (fun T kV doc pm an cdv ct us its hl hi => match us, its, hl, hi with | [_, _, _], [_, _], _, _ => ⟨_, rfl, rfl⟩)
  have G_lf : FnG P w K mg base 3 (He.ga K "least_form") f_least_form ["letters", "steps", "ends"] (spD K ca m_least_form) := G_least_form I (k := 1) D_least_form (codeAt (p := lfN) D_least_form) TB hm hu q_GREATEST_STATES q_enumerate q_len q_max q_range (by decide) E_numbered (fun I' fa F' NK => CE_explored q_len q_range D_explored D_explored.kp g_explored hb0 hd0 I' fa F' NK)
  have b_lf : Binds K f_least_form ["letters", "steps", "ends"] [] := D_least_form.bindsN (fun _ _ _ _ _ _ us hl => match us, hl with | [_, _, _], _ => rfl)
  have E_least_formD : FnE P w K mg base "least_form" 3 ["letters", "steps", "ends"] (spD K ca m_least_form) := ⟨⟨f_least_form, G_lf, b_lf⟩, D_least_form.kp, g_least_form⟩
  have E_least_form : FnE P w K mg base "least_form" 3 ["letters", "steps", "ends"] (spP K ca m_least_form) := ⟨⟨f_least_form, spD_of least_form_sh G_lf, b_lf⟩, D_least_form.kp, g_least_form⟩
  have Mk0 : Mk K (ca "Machine") (He.ma K (He.ga K "Machine") "__init__") := He.mkr_ok (cd.fact 59 (f := .mkr "Machine") rfl)
  have G_init : FnG P w K mg base 6 (He.ma K (He.ga K "Machine") "__init__") f_M__init__ ["self", "letters", "steps", "ends"] (spB K ca m_Machine___init__) := gB D_M__init__ sc_Machine___init__ (by decide) (b_Machine___init__ c_Machine q_len (E_are_steps.up (by decide)) (E_are_unlike_below.up (by decide)) (E_check_letters.up (by decide)) (E_least_form.up (by decide)))
  have b_init : Binds K f_M__init__ ["self", "letters", "steps", "ends"] [] := D_M__init__.bindsN (fun _ _ _ _ _ _ us hl => match us, hl with | [_, _, _, _], _ => rfl)
  have E_Machine : MkP P w K ca mg base "Machine" 7 m_Machine := ⟨g_Machine, _, f_M__init__, _, 6, m_Machine___init__, Mk0, rfl, G_init, b_init, rfl⟩
  have E_Machine_kends_steps_letters : MkK P w K ca mg base "Machine" 7 ["ends", "steps", "letters"] [2, 1, 0] m_Machine := ⟨g_Machine, _, f_M__init__, _, 6, m_Machine___init__, Mk0, rfl, G_init, mkb_of D_M__init__ (fun _ _ _ _ _ _ y ws hl => match ws, hl with | _ :: _ :: _ :: _, _ => rfl | [], hl => nomatch hl | [_], hl => nomatch hl | [_, _], hl => nomatch hl), rfl⟩
  have G_initI : FnG P w K mg base 6 (He.ma K (He.ga K "Machine") "__init__") f_M__init__ ["self", "letters", "steps", "ends"] (spI K ca "Machine" mI_Machine) := gI D_M__init__ sc_Machine___init__ (by decide) (fun cdv A out s H E gd hr => bI_Machine c_Machine q_len (E_are_steps.up (by decide)) (E_are_unlike_below.up (by decide)) (E_check_letters.up (by decide)) (E_least_formD.up (by decide)) cdv A out s H E gd hr)
  have E_MachineD : MkD P w K ca mg base "Machine" 7 mI_Machine := ⟨g_Machine, _, f_M__init__, _, 6, Mk0, rfl, G_initI, b_init⟩
  have E_Machine_letters : FnPr P w K ca mg base "Machine" "letters" 2 m_Machine_letters := ⟨cl, _, _, f_Mletters, 1, propB_ok x1, rfl, gP D_Mletters sc_Machine_letters (by decide) (b_Machine_letters c_Machine), D_Mletters.bindsN (fun _ _ _ _ _ _ us hl => match us, hl with | [_], _ => rfl)⟩
  have E_Machine_states : FnPr P w K ca mg base "Machine" "states" 2 m_Machine_states := ⟨cl, _, _, f_Mstates, 1, propB_ok x2, rfl, gP D_Mstates sc_Machine_states (by decide) (b_Machine_states c_Machine q_len), D_Mstates.bindsN (fun _ _ _ _ _ _ us hl => match us, hl with | [_], _ => rfl)⟩
  have M_steps : Meth K (ca "Machine") "steps" (He.ma K (He.ga K "Machine") "steps") := He.meth_ok (cd.fact 60 (f := .meth "Machine" "steps") rfl)
  have E_Machine_steps : FnM P w K ca mg base "Machine" "steps" 1 m_Machine_steps := ⟨cl, _, f_Msteps, M_steps, gP D_Msteps sc_Machine_steps (by decide) (b_Machine_steps c_Machine q_list), D_Msteps.bindsN (fun _ _ _ _ _ _ us hl => match us, hl with | [_], _ => rfl)⟩
  have E_Machine_stepsD : FnMD P w K ca mg base "Machine" "steps" 1 mD_steps := ⟨cl, _, f_Msteps, M_steps, gPD D_Msteps sc_Machine_steps' (by decide) (fun cdv A out s H E gd hr => bD_Machine_steps c_Machine q_list cdv A out s H E gd hr), D_Msteps.bindsN (fun _ _ _ _ _ _ us hl => match us, hl with | [_], _ => rfl)⟩
  have M_ends : Meth K (ca "Machine") "ends" (He.ma K (He.ga K "Machine") "ends") := He.meth_ok (cd.fact 61 (f := .meth "Machine" "ends") rfl)
  have E_Machine_ends : FnM P w K ca mg base "Machine" "ends" 1 m_Machine_ends := ⟨cl, _, f_Mends, M_ends, gP D_Mends sc_Machine_ends (by decide) (b_Machine_ends c_Machine q_list), D_Mends.bindsN (fun _ _ _ _ _ _ us hl => match us, hl with | [_], _ => rfl)⟩
  have E_Machine_endsD : FnMD P w K ca mg base "Machine" "ends" 1 mD_ends := ⟨cl, _, f_Mends, M_ends, gPD D_Mends sc_Machine_ends' (by decide) (fun cdv A out s H E gd hr => bD_Machine_ends c_Machine q_list cdv A out s H E gd hr), D_Mends.bindsN (fun _ _ _ _ _ _ us hl => match us, hl with | [_], _ => rfl)⟩
  have M_eq : Meth K (ca "Machine") "__eq__" (He.ma K (He.ga K "Machine") "__eq__") := He.meth_ok (cd.fact 62 (f := .meth "Machine" "__eq__") rfl)
  have E_Machine___eq__ : EqC P w K ca mg base "Machine" 1 m_Machine___eq__ := ⟨⟨_, f_M__eq__, M_eq.at_, M_eq.fn, gP D_M__eq__ sc_Machine___eq__ (by decide) (b_Machine___eq__ c_Machine z_Machine q_isinstance), D_M__eq__.bindsN (fun _ _ _ _ _ _ us hl => match us, hl with | [_, _], _ => rfl)⟩, eqB_ok x4⟩
  have E_check_machine : FnE P w K mg base "check_machine" 1 ["machine"] (spP K ca m_check_machine) := ⟨⟨f_check_machine, gP D_check_machine sc_check_machine (by decide) (b_check_machine z_Machine q_isinstance), D_check_machine.bindsN (fun _ _ _ _ _ _ us hl => match us, hl with | [_], _ => rfl)⟩, D_check_machine.kp, g_check_machine⟩
  have E_led_to : FnE P w K mg base "led_to" 2 ["machine", "word"] (spP K ca m_led_to) := ⟨⟨f_led_to, gP D_led_to sc_led_to (by decide) (b_led_to q_SIGNS (E_Machine_steps.up (by decide))), D_led_to.bindsN (fun _ _ _ _ _ _ us hl => match us, hl with | [_, _], _ => rfl)⟩, D_led_to.kp, g_led_to⟩
  have E_lets : FnE P w K mg base "lets" 3 ["machine", "word"] (spP K ca m_lets) := ⟨⟨f_lets, gP D_lets sc_lets (by decide) (b_lets (E_Machine_ends.up (by decide)) (E_Machine_letters.up (by decide)) (E_check_machine.up (by decide)) (E_check_word.up (by decide)) (E_led_to.up (by decide))), D_lets.bindsN (fun _ _ _ _ _ _ us hl => match us, hl with | [_, _], _ => rfl)⟩, D_lets.kp, g_lets⟩
  have E_is_empty_G : FnG P w K mg base 2 (He.ga K "is_empty") f_is_empty ["machine"] (spP K ca m_is_empty) := gP D_is_empty sc_is_empty (by decide) (b_is_empty (E_Machine_ends.up (by decide)) (E_check_machine.up (by decide)))
  have E_is_empty : FnE P w K mg base "is_empty" 2 ["machine"] (spP K ca m_is_empty) := ⟨⟨f_is_empty, gP D_is_empty sc_is_empty (by decide) (b_is_empty (E_Machine_ends.up (by decide)) (E_check_machine.up (by decide))), D_is_empty.bindsN (fun _ _ _ _ _ _ us hl => match us, hl with | [_], _ => rfl)⟩, D_is_empty.kp, g_is_empty⟩
  have E_first_words_to_G : FnG P w K mg base 1 (He.ga K "first_words_to") f_first_words_to ["steps"] (spP K ca m_first_words_to) := gP D_first_words_to sc_first_words_to (by decide) (b_first_words_to q_SIGNS q_enumerate q_len q_range q_zip)
  have E_first_words_to : FnE P w K mg base "first_words_to" 1 ["steps"] (spP K ca m_first_words_to) := ⟨⟨f_first_words_to, gP D_first_words_to sc_first_words_to (by decide) (b_first_words_to q_SIGNS q_enumerate q_len q_range q_zip), D_first_words_to.bindsN (fun _ _ _ _ _ _ us hl => match us, hl with | [_], _ => rfl)⟩, D_first_words_to.kp, g_first_words_to⟩
  have E_shortest_G : FnG P w K mg base 2 (He.ga K "shortest") f_shortest ["machine"] (spP K ca m_shortest) := gP D_shortest sc_shortest (by decide) (b_shortest (E_Machine_ends.up (by decide)) (E_Machine_steps.up (by decide)) (E_check_machine.up (by decide)) (E_first_words_to.up (by decide)))
  have E_shortest : FnE P w K mg base "shortest" 2 ["machine"] (spP K ca m_shortest) := ⟨⟨f_shortest, gP D_shortest sc_shortest (by decide) (b_shortest (E_Machine_ends.up (by decide)) (E_Machine_steps.up (by decide)) (E_check_machine.up (by decide)) (E_first_words_to.up (by decide))), D_shortest.bindsN (fun _ _ _ _ _ _ us hl => match us, hl with | [_], _ => rfl)⟩, D_shortest.kp, g_shortest⟩
  have E_first_words_G : FnG P w K mg base 5 (He.ga K "first_words") f_first_words ["letters", "length"] (spP K ca m_first_words) := gP D_first_words sc_first_words (by decide) (b_first_words q_SIGNS q_range (E_check_length.up (by decide)) (E_check_letters.up (by decide)))
  have E_first_words : FnE P w K mg base "first_words" 5 ["letters", "length"] (spP K ca m_first_words) := ⟨⟨f_first_words, gP D_first_words sc_first_words (by decide) (b_first_words q_SIGNS q_range (E_check_length.up (by decide)) (E_check_letters.up (by decide))), D_first_words.bindsN (fun _ _ _ _ _ _ us hl => match us, hl with | [_, _], _ => rfl)⟩, D_first_words.kp, g_first_words⟩
  have E_words_of_G : FnG P w K mg base 6 (He.ga K "words_of") f_words_of ["machine", "length"] (spP K ca m_words_of) := gP D_words_of sc_words_of (by decide) (b_words_of (E_Machine_ends.up (by decide)) (E_Machine_letters.up (by decide)) (E_check_length.up (by decide)) (E_check_machine.up (by decide)) (E_first_words.up (by decide)) (E_led_to.up (by decide)))
  have E_words_of : FnE P w K mg base "words_of" 6 ["machine", "length"] (spP K ca m_words_of) := ⟨⟨f_words_of, gP D_words_of sc_words_of (by decide) (b_words_of (E_Machine_ends.up (by decide)) (E_Machine_letters.up (by decide)) (E_check_length.up (by decide)) (E_check_machine.up (by decide)) (E_first_words.up (by decide)) (E_led_to.up (by decide))), D_words_of.bindsN (fun _ _ _ _ _ _ us hl => match us, hl with | [_, _], _ => rfl)⟩, D_words_of.kp, g_words_of⟩
  have E_is_empty_kmachine : FnK P w K mg base "is_empty" 2 ["machine"] ["machine"] [0] (spP K ca m_is_empty) := ⟨⟨f_is_empty, E_is_empty_G, kb_of D_is_empty (by decide) (fun _ _ _ _ _ _ ws hl => match ws, hl with | _ :: _, _ => rfl | [], hl => nomatch hl)⟩, D_is_empty.kp, g_is_empty⟩
  have E_shortest_kmachine : FnK P w K mg base "shortest" 2 ["machine"] ["machine"] [0] (spP K ca m_shortest) := ⟨⟨f_shortest, E_shortest_G, kb_of D_shortest (by decide) (fun _ _ _ _ _ _ ws hl => match ws, hl with | _ :: _, _ => rfl | [], hl => nomatch hl)⟩, D_shortest.kp, g_shortest⟩
  have E_words_of_klength_machine : FnK P w K mg base "words_of" 6 ["machine", "length"] ["length", "machine"] [1, 0] (spP K ca m_words_of) := ⟨⟨f_words_of, E_words_of_G, kb_of D_words_of (by decide) (fun _ _ _ _ _ _ ws hl => match ws, hl with | _ :: _ :: _, _ => rfl | [], hl => nomatch hl | [_], hl => nomatch hl)⟩, D_words_of.kp, g_words_of⟩
  have E_first_words_klength_letters : FnK P w K mg base "first_words" 5 ["letters", "length"] ["length", "letters"] [1, 0] (spP K ca m_first_words) := ⟨⟨f_first_words, E_first_words_G, kb_of D_first_words (by decide) (fun _ _ _ _ _ _ ws hl => match ws, hl with | _ :: _ :: _, _ => rfl | [], hl => nomatch hl | [_], hl => nomatch hl)⟩, D_first_words.kp, g_first_words⟩
  have E_law_pot : FnE P w K mg base "_law_pot" 1 ["_law_script", "_law_k"] (spP K ca m_law_pot) := ⟨⟨f__law_pot, gP D__law_pot sc_law_pot (by decide) (b_law_pot q_abs q_int q_len q_max), D__law_pot.bindsN (fun _ _ _ _ _ _ us hl => match us, hl with | [_, _], _ => rfl)⟩, D__law_pot.kp, g__law_pot⟩
  have E_law_draw : FnE P w K mg base "_law_draw" 1 ["_law_pot_here", "_law_many"] (spB K ca m_law_draw) := ⟨⟨f__law_draw, gB D__law_draw sc_law_draw (by decide) (b_law_draw q_divmod q_int), D__law_draw.bindsN (fun _ _ _ _ _ _ us hl => match us, hl with | [_, _], _ => rfl)⟩, D__law_draw.kp, g__law_draw⟩
  have E_law_machine : FnE P w K mg base "_law_machine" 2 ["_law_pot_here", "_law_letters", "_law_most"] (spB K ca m_law_machine) := ⟨⟨f__law_machine, gB D__law_machine sc_law_machine (by decide) (b_law_machine q_range (E_law_draw.up (by decide))), D__law_machine.bindsN (fun _ _ _ _ _ _ us hl => match us, hl with | [_, _, _], _ => rfl)⟩, D__law_machine.kp, g__law_machine⟩
  have E_law_led : FnE P w K mg base "_law_led" 1 ["_law_steps", "_law_word"] (spP K ca m_law_led) := ⟨⟨f__law_led, gP D__law_led sc_law_led (by decide) (b_law_led ), D__law_led.bindsN (fun _ _ _ _ _ _ us hl => match us, hl with | [_, _], _ => rfl)⟩, D__law_led.kp, g__law_led⟩
  have E_law_words : FnE P w K mg base "_law_words" 1 ["_law_letters", "_law_length"] (spP K ca m_law_words) := ⟨⟨f__law_words, gP D__law_words sc_law_words (by decide) (b_law_words q_range), D__law_words.bindsN (fun _ _ _ _ _ _ us hl => match us, hl with | [_, _], _ => rfl)⟩, D__law_words.kp, g__law_words⟩
  have E_law_reached : FnE P w K mg base "_law_reached" 1 ["_law_steps"] (spP K ca m_law_reached) := ⟨⟨f__law_reached, gP D__law_reached sc_law_reached (by decide) (b_law_reached q_len), D__law_reached.bindsN (fun _ _ _ _ _ _ us hl => match us, hl with | [_], _ => rfl)⟩, D__law_reached.kp, g__law_reached⟩
  have E_law_least : FnE P w K mg base "_law_least" 2 ["_law_machine_here"] (spP K ca m_law_least) := ⟨⟨f__law_least, gP D__law_least sc_law_least (by decide) (b_law_least q_enumerate q_int q_len q_range q_sorted (E_law_reached.up (by decide))), D__law_least.bindsN (fun _ _ _ _ _ _ us hl => match us, hl with | [_], _ => rfl)⟩, D__law_least.kp, g__law_least⟩
  have E_law_is : FnE P w K mg base "_law_is" 3 ["_law_machine_here", "_law_letters", "_law_least_here"] (spP K ca m_law_is) := ⟨⟨f__law_is, gP D__law_is sc_law_is (by decide) (b_law_is q_len q_repr (E_Machine_ends.up (by decide)) (E_Machine_letters.up (by decide)) (E_Machine_states.up (by decide)) (E_Machine_steps.up (by decide))), D__law_is.bindsN (fun _ _ _ _ _ _ us hl => match us, hl with | [_, _, _], _ => rfl)⟩, D__law_is.kp, g__law_is⟩
  have E_law_named : FnE P w K mg base "_law_named" 2 ["_law_pot_here", "_law_machine_here"] (spB K ca m_law_named) := ⟨⟨f__law_named, gB D__law_named sc_law_named (by decide) (b_law_named q_len q_list q_range (E_law_draw.up (by decide))), D__law_named.bindsN (fun _ _ _ _ _ _ us hl => match us, hl with | [_, _], _ => rfl)⟩, D__law_named.kp, g__law_named⟩
  have E_law_words_right : FnE P w K mg base "_law_words_right" 7 ["_law_machine_here", "_law_letters", "_law_told"] (spP K ca m_law_words_right) := ⟨⟨f__law_words_right, gP D__law_words_right sc_law_words_right (by decide) (b_law_words_right q_len (E_law_led.up (by decide)) (E_law_reached.up (by decide)) (E_law_words.up (by decide)) (E_first_words.up (by decide)) (E_first_words_klength_letters.up (by decide)) (E_is_empty.up (by decide)) (E_is_empty_kmachine.up (by decide)) (E_lets.up (by decide)) (E_shortest_kmachine.up (by decide)) (E_words_of.up (by decide)) (E_words_of_klength_machine.up (by decide))), D__law_words_right.bindsN (fun _ _ _ _ _ _ us hl => match us, hl with | [_, _, _], _ => rfl)⟩, D__law_words_right.kp, g__law_words_right⟩
  have E_law_copied_right : FnE P w K mg base "_law_copied_right" 8 ["_law_machine_here", "_law_letters", "_law_told", "_law_least_here"] (spP K ca m_law_copied_right) := ⟨⟨f__law_copied_right, G_cop (k := 7) D__law_copied_right q_list (E_MachineD.up (by decide)) (E_Machine_stepsD.up (by decide)) (E_Machine_endsD.up (by decide)) (E_law_is.up (by decide)) (E_Machine___eq__.up (by decide)), D__law_copied_right.bindsN (fun _ _ _ _ _ _ us hl => match us, hl with | [_, _, _, _], _ => rfl)⟩, D__law_copied_right.kp, g__law_copied_right⟩
  exact gP D_law sc_law (by decide) (b_law q_len q_repr q_tuple (E_Machine.up (by decide)) (E_Machine___eq__.up (by decide)) (E_Machine_kends_steps_letters.up (by decide)) (E_law_copied_right.up (by decide)) (E_law_draw.up (by decide)) (E_law_is.up (by decide)) (E_law_least.up (by decide)) (E_law_machine.up (by decide)) (E_law_named.up (by decide)) (E_law_pot.up (by decide)) (E_law_words_right.up (by decide)))
end
end Dv

end

/-! X4 -/
section
set_option maxHeartbeats 0
/-! X4: the head. -/
namespace Dv
open PySem PySem.Spec PyProof.Rows L2
abbrev R11 : PySem.W.OpenRow := PySem.W.OpenLaw.row PySem.Challenge.rw_widefills_k11_whole_least_machines
abbrev hk11 : PySem.W.Hook := hookZ 6 fa11 fn11 tf11 ex11 ga11
noncomputable def ob11 (s : PySem.W.SharedT) : AlZ := obsZ 6 fa11 fn11 tf11 ex11 ga11 (HandSHeadRun.getT s)
theorem ob11_eq (s : PySem.W.SharedT) : ob11 s = hk11.obs s.abs := obsZ_eq (HandSHeadRun.getT_eq s)
def nmA : List Str := ["is_integer", "is_count", "is_below", "is_listing", "are_unlike_below", "FillError", "InvalidLetters", "InvalidMachine", "InvalidWord", "InvalidEnds", "InvalidLength", "InvalidSteps"]
def nmB : List Str := ["LimitError", "TooMany", "SIGNS", "LONGEST_WORD", "GREATEST_LENGTH", "is_letters", "check_letters", "check_length", "is_word_of", "check_word", "first_words", "GREATEST_STATES", "explored"]
def nmC : List Str := ["first_words_to", "numbered", "least_form", "GREATEST_PASSED", "Machine", "are_steps", "is_row", "check_machine", "led_to", "lets", "is_empty", "shortest"]
def nmD : List Str := ["words_of", "_law_pot", "_law_draw", "_law_machine", "_law_led", "_law_words", "_law_reached", "_law_least", "_law_is", "_law_named", "_law_words_right", "_law_copied_right"]
def names11 : List Str := nmA ++ nmB ++ nmC ++ nmD
theorem run11 (w : World) : HandSHeadRun.RunEq R11 (PySem.W.view R11.prog [55]) hk11 ob11 6000 names11 w := by
  intro os
  kernel_rfl
end Dv

end

/-! X5 -/
set_option maxHeartbeats 0
/-! X5: the law. -/
namespace Dv
open NdefX PySem PySem.Spec PyProof.Rows L2 LamX
/-- the tables that this text's nested defs write -/
@[reducible] def nmT (K : PySem.W.Frag) : Nm := ⟨[((He.cT K lfN).2, fun _ _ => qLead)], [], fun _ => True, fun _ _ => trivial⟩
theorem end11 {P : Program} {w : World} {K : PySem.W.Frag} {h : Heap} {mg : Str → Option Value} {f : Addr} (X : K.In h) (G : h.Ns mainGlobals mg) (hfa : mg ("law" : Str) = some (.ref f)) (c : SaysZ fa11 fn11 tf11 ex11 ga11 w h K) :
    ∃ (fd : FuncData) (sp : Sp) (cs : List (Addr × Addr)), (∀ p ∈ cs, PySem.W.codeHdIn K p.1 p.2 = true ∧ K.lookup p.2 = none ∧ h.get? p.2 = some { cls := .none, data := .fields #[] }) ∧ (∀ (s : Shared) (u : Value), BindsTo s fd ⟨[u], []⟩ [("_law_script", u)]) ∧
      (∀ (Hs H : Hp) (a : Addr) (ns : List Int), ns.length ≤ 63 → Began K a ns (cs.map (·.2)) Hs H → sp [.ref a] H (fun v _ => v = .bl true) fun _ _ _ => False) ∧ ∀ base : Heap, K.In base → base.Ns mainGlobals mg → (∀ p ∈ cs, TabB base mg p.1 p.2) → FnG P w K mg base 9 f fd ["_law_script"] sp := by
  have hf : mg ("law" : Str) = some (.ref (He.ga K "law")) := He.glo_ok X G (c.x.t.d.fact 34 (f := .glo "law") rfl)
  rw [hfa] at hf
  cases hf
  obtain ⟨fd, D⟩ : ∃ fd, FunD K "law" "law" (defArgs (top 55)) (defBody (top 55)) (defScope (top 55)) [] [] (He.ga K "law") fd := c.x.t.d.def_ 34 (d := dd "law" (top 55)) rfl
  have bd := D.bindsA (ps := ["_law_script"]) fun _ _ _ _ _ _ us hl => match us, hl with | [_], _ => rfl
  refine ⟨fd, @spP (nmT K) K (fun x => He.ga K x) m_law, [He.cT K lfN], fun p hp => ?_, fun s u => bd s [u] rfl, fun Hs H a ns hl B => ?_, fun base _ _ TB => ?_⟩
  · obtain rfl := List.mem_singleton.mp hp
    exact ⟨c.x.hd lfN List.mem_cons_self, c.x.out lfN List.mem_cons_self, c.x.empty lfN List.mem_cons_self⟩
  · have nt : NTs Hs := fun b o e ps z => by
      rcases B.only b with q | ⟨u, xs, q⟩
      · rw [q] at e; cases e
      · rw [q] at e
        cases e
        cases z
    have tb : @Tb (nmT K) H := ⟨fun p hp => by
      obtain rfl := List.mem_singleton.mp hp
      exact TabN.nil (B.tab _ List.mem_cons_self), fun p hp => nomatch hp⟩
    exact ⟨Hs, [.scr ns], .sh (.bl true), @Bs.mk (nmT K) _ _ B.ex nt tb trivial, .cons (.scr B.sq) .nil, law_ok ns, fun v Hs' H' t r => by
      cases r
      rfl⟩
  · exact law_facts (nmT K) X G c (TB _ List.mem_cons_self) List.mem_cons_self (fun p hp _ => by
      obtain rfl := List.mem_singleton.mp hp
      rfl) D
end Dv
open PySem PySem.W PySem.Calls PyProof.Rows
theorem PySem.Challenge.cw_widefills_k11_whole_least_machines_holds : PySem.Challenge.rw_widefills_k11_whole_least_machines.Holds := by
  w_on; o_law
  refine HandSHeadRun.head_any (r := OpenLaw.row PySem.Challenge.rw_widefills_k11_whole_least_machines) (q := view (OpenLaw.row PySem.Challenge.rw_widefills_k11_whole_least_machines).prog [55]) (H := Dv.hk11) (ob := Dv.ob11) (M := 6000) (loose := Dv.names11) (d := HandSHeadRun.topDef (OpenLaw.row PySem.Challenge.rw_widefills_k11_whole_least_machines).prog 55) (kwd := []) Dv.ob11_eq
    (by kernel_rfl) (fun s => by kernel_rfl) Dv.run11 (by kernel_rfl) (by kernel_rfl) (by kernel_rfl) (by rfl) (by first | assumption | decide +kernel) (by decide +kernel) ⟨rfl, rfl, rfl, rfl, rfl, by decide +kernel⟩ ?hw ?hc
  case hw => w_witness2
  case hc =>
    letI : Dv.Nm := Dv.nmT []
    refine Dv.walk_GT (l := PySem.Challenge.rw_widefills_k11_whole_least_machines) (n := 63) (k := 9) (x := "_law_script") rfl (by decide) (by kernel_rfl) ⟨rfl, by decide, by decide⟩ ?F
    intro w mg fa h Y G hmg0
    obtain ⟨K, KX, c⟩ := Y
    have hmg : mg ("law" : PySem.Str) = some (.ref fa) := by
      have e : (HandSHeadRun.topDef (OpenLaw.row PySem.Challenge.rw_widefills_k11_whole_least_machines).prog 55).name = ("law" : PySem.Str) := by kernel_rfl
      rw [← e]
      exact hmg0
    obtain ⟨fd, sp, cs, q⟩ := Dv.end11 (P := (PySem.Challenge.rw_widefills_k11_whole_least_machines).prog) (w := w) KX G hmg c
    exact ⟨K, fd, sp, cs, KX, q⟩
