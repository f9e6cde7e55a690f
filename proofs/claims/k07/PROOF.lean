import PyProof.Rows.All
import Wide.All
import OpenK.AllK
import Wide.FinOn
import HandS.Base
import HandS.Call
import HandS.List
import HandS.Comp
import HandS.Ends
import HandS.Dict
import HandS.Iter
import HandS.Text
import HandS.Words
import HandS.WordsList
import HandS.WordsDict
import HandS.Exc
import HandS.IsInst
import HandS.AnyAll
import HandS.TupAny
import HandS.GenOver
import HandS.Lambda
import HandS.Deep
import HandS.GenList
import HandS.EndTab
import HandS.Conv
import HandS.DictComp
import HandS.SortKw
import KE.DataMinMax
import PyProof.EnumMake
import PyProof.Draws
import HandS.More
import KE.KEqNest
import PyProof.NeKinds
import HandS.RaiseMore
import HandS.FStr
import HandS.WordsExc
import KE.KExcIs
import PyProof.StrOps2
import KE.SortKeyHeap
import KE.KDictSum
import KE.KDictCopyH
import KE.SortData
import PyProof.Rows.StrFirst
import KE.KNestM
import PySem.Challenge.RW_mendread_k07_whole_no_cheaper
set_option Elab.async false
set_option linter.all false
set_option maxRecDepth 100000
set_option maxHeartbeats 1000000
namespace DS
open PySem L2

abbrev D := PyData

/-! ## data over an abstract heap -/
def kD : Key → D
  | .inl i => .int i
  | .inr x => .str x
def sD : V → D
  | .bl b => .bool b
  | .int i => .int i
  | .str x => .str x
  | _ => .none
def flat : V → Bool
  | .non => true
  | .bl _ => true
  | .int _ => true
  | .str _ => true
  | _ => false
def enK (p : Key × V) : D × D := (kD p.1, sD p.2)
def enT (p : List Key × V) : D × D := (.tuple (p.1.map kD), sD p.2)

mutual
inductive Rp (K : PySem.W.Frag) (F : Hp) : V → D → Prop
  | non : Rp K F .non .none
  | bl (b : Bool) : Rp K F (.bl b) (.bool b)
  | int (i : Int) : Rp K F (.int i) (.int i)
  | str (x : Str) : Rp K F (.str x) (.str x)
  | lst {a : Addr} {xs : List V} {ds : List D} : SqL K F a xs → Rps K F xs ds → Rp K F (.ref a) (.list ds)
  | tup {a : Addr} {xs : List V} {ds : List D} : F a = some (.tup xs) → Rps K F xs ds → Rp K F (.ref a) (.tuple ds)
  | dK {a : Addr} {kvs : List (Key × V)} : Rd F a (.dK kvs) → (kvs.all fun p => flat p.2) = true → Rp K F (.ref a) (.dict (kvs.map enK))
  | dT {a : Addr} {kvs : List (List Key × V)} {es : List (D × D)} : F a = some (.dT kvs) → Ents K F kvs es → kvs ≠ [] → Rp K F (.ref a) (.dict es)
inductive Rps (K : PySem.W.Frag) (F : Hp) : List V → List D → Prop
  | nil : Rps K F [] []
  | cons {v : V} {vs : List V} {d : D} {ds : List D} : Rp K F v d → Rps K F vs ds → Rps K F (v :: vs) (d :: ds)
inductive Ents (K : PySem.W.Frag) (F : Hp) : List (List Key × V) → List (D × D) → Prop
  | nil : Ents K F [] []
  | cons {k : List Key} {v : V} {kvs : List (List Key × V)} {d : D} {es : List (D × D)} : Rp K F v d → Ents K F kvs es → Ents K F ((k, v) :: kvs) ((.tuple (k.map kD), d) :: es)
end

/-- what stands stays -/
def Ext (F F' : Hp) : Prop := ∀ a o, F a = some o → F' a = some o
theorem Ext.refl (F : Hp) : Ext F F := fun _ _ h => h
theorem Ext.trans {F G H : Hp} (a : Ext F G) (b : Ext G H) : Ext F H := fun x u h => b x u (a x u h)
theorem Ext.of {F F' : Hp} (h : ∀ a o, F a = some o → F' a = some o) : Ext F F' := h
theorem Ext.upd {F : Hp} {p : Addr} {o : HO} (h : F p = none) : Ext F (L2.upd F p o) := fun a u e => by
  rw [upd_ne (ne_of_none e h)]
  exact e
theorem Ext.rd {F F' : Hp} (e : Ext F F') {a : Addr} {u : HO} (r : Rd F a u) : Rd F' a u := by
  rcases r with r | ⟨o, r⟩
  · exact .inl (e a _ r)
  · exact .inr ⟨o, e a _ r⟩
section
variable {K : PySem.W.Frag} {F F' H H' : Hp}
theorem Ext.sqL (e : Ext F F') {a : Addr} {xs : List V} (h : SqL K F a xs) : SqL K F' a xs := by
  rcases h with h | h
  · exact .inl (e.rd h)
  · exact .inr h
theorem Ext.sqT (e : Ext F F') {a : Addr} {xs : List V} (h : SqT K F a xs) : SqT K F' a xs := by
  rcases h with h | h
  · exact .inl (e.rd h)
  · exact .inr h
mutual
theorem Rp.ext (e : Ext F F') : ∀ {v : V} {d : D}, Rp K F v d → Rp K F' v d
  | _, _, .non => .non
  | _, _, .bl b => .bl b
  | _, _, .int i => .int i
  | _, _, .str x => .str x
  | _, _, .lst s r => .lst (e.sqL s) (Rps.ext e r)
  | _, _, .tup s r => .tup (e _ _ s) (Rps.ext e r)
  | _, _, .dK r f => .dK (e.rd r) f
  | _, _, .dT r f n => .dT (e _ _ r) (Ents.ext e f) n
theorem Rps.ext (e : Ext F F') : ∀ {vs : List V} {ds : List D}, Rps K F vs ds → Rps K F' vs ds
  | _, _, .nil => .nil
  | _, _, .cons a b => .cons (Rp.ext e a) (Rps.ext e b)
theorem Ents.ext (e : Ext F F') : ∀ {kvs : List (List Key × V)} {es : List (D × D)}, Ents K F kvs es → Ents K F' kvs es
  | _, _, .nil => .nil
  | _, _, .cons a b => .cons (Rp.ext e a) (Ents.ext e b)
end
theorem Rps.len : ∀ {vs : List V} {ds : List D}, Rps K F vs ds → vs.length = ds.length
  | _, _, .nil => rfl
  | _, _, .cons _ b => by rw [List.length_cons, List.length_cons, Rps.len b]
theorem Rps.app : ∀ {vs ws : List V} {ds es : List D}, Rps K F vs ds → Rps K F ws es → Rps K F (vs ++ ws) (ds ++ es)
  | _, _, _, _, .nil, s => s
  | _, _, _, _, .cons a b, s => .cons a (Rps.app b s)
theorem Rps.get : ∀ {vs : List V} {ds : List D} {i : Nat} {d : D}, Rps K F vs ds → ds[i]? = some d → ∃ v, vs[i]? = some v ∧ Rp K F v d
  | _, _, _, _, .nil, e => by simp at e
  | _, _, 0, _, .cons a b, e => by
    simp at e
    subst e
    exact ⟨_, rfl, a⟩
  | _, _, i + 1, _, .cons a b, e => by
    obtain ⟨v, h1, h2⟩ := Rps.get (i := i) b (by simpa using e)
    exact ⟨v, by simpa using h1, h2⟩
theorem Rps.get' : ∀ {vs : List V} {ds : List D} {i : Nat} {v : V}, Rps K F vs ds → vs[i]? = some v → ∃ d, ds[i]? = some d ∧ Rp K F v d
  | _, _, _, _, .nil, e => by simp at e
  | _, _, 0, _, .cons a b, e => by
    simp at e
    subst e
    exact ⟨_, rfl, a⟩
  | _, _, i + 1, _, .cons a b, e => by
    obtain ⟨v, h1, h2⟩ := Rps.get' (i := i) b (by simpa using e)
    exact ⟨v, by simpa using h1, h2⟩
theorem Rps.take : ∀ {vs : List V} {ds : List D} (n : Nat), Rps K F vs ds → Rps K F (vs.take n) (ds.take n)
  | _, _, 0, _ => .nil
  | _, _, _ + 1, .nil => .nil
  | _, _, n + 1, .cons a b => .cons a (Rps.take n b)
theorem Rps.drop : ∀ {vs : List V} {ds : List D} (n : Nat), Rps K F vs ds → Rps K F (vs.drop n) (ds.drop n)
  | _, _, 0, r => r
  | _, _, _ + 1, .nil => .nil
  | _, _, n + 1, .cons a b => Rps.drop n b
theorem Rps.dropLast {vs : List V} {ds : List D} (h : Rps K F vs ds) : Rps K F vs.dropLast ds.dropLast := by
  rw [List.dropLast_eq_take, List.dropLast_eq_take, h.len]
  exact h.take _
theorem Rps.rev : ∀ {vs : List V} {ds : List D}, Rps K F vs ds → Rps K F vs.reverse ds.reverse
  | _, _, .nil => .nil
  | _, _, .cons a b => by
    rw [List.reverse_cons, List.reverse_cons]
    exact (Rps.rev b).app (.cons a .nil)
theorem Rps.set {v : V} {d : D} (r : Rp K F v d) : ∀ {vs : List V} {ds : List D} (i : Nat), Rps K F vs ds → Rps K F (vs.set i v) (ds.set i d)
  | _, _, _, .nil => .nil
  | _, _, 0, .cons _ t => .cons r t
  | _, _, i + 1, .cons q t => .cons q (Rps.set r i t)
theorem Rps.insert {v : V} {d : D} (r : Rp K F v d) {vs : List V} {ds : List D} (i : Nat) (h : Rps K F vs ds) : Rps K F (vs.take i ++ v :: vs.drop i) (ds.take i ++ d :: ds.drop i) :=
  (h.take i).app (.cons r (h.drop i))
end

/-! ## a frame's names -/
inductive Cell where
  /-- data that is shared: read alone -/
  | sh (d : D)
  /-- a list or a dict of this frame's own -/
  | ow (d : D)
  /-- a list or a dict that the caller lends, to be changed -/
  | io (a : Addr) (d : D)
def Cell.got : Cell → D
  | .sh d => d
  | .ow d => d
  | .io _ d => d
def Cell.mine : Cell → Bool
  | .sh _ => false
  | _ => true
abbrev Nv := List (Option Cell)
def Own (K : PySem.W.Frag) (F H : Hp) (a : Addr) : D → Prop
  | .list ds => ∃ xs, H a = some (.lst xs) ∧ Rps K F xs ds
  | .dict es => (∃ kvs, H a = some (.dK kvs) ∧ (kvs.all fun p => flat p.2) = true ∧ es = kvs.map enK) ∨ ∃ kvs, H a = some (.dT kvs) ∧ Ents K F kvs es ∧ kvs ≠ []
  | _ => False
theorem Own.ext {K : PySem.W.Frag} {F F' H H' : Hp} {a : Addr} : ∀ {d : D}, Ext F F' → H' a = H a → Own K F H a d → Own K F' H' a d
  | .list ds, e, h, ⟨xs, h1, h2⟩ => ⟨xs, by rw [h]; exact h1, h2.ext e⟩
  | .dict es, e, h, .inl ⟨kvs, h1, h2⟩ => .inl ⟨kvs, by rw [h]; exact h1, h2⟩
  | .dict es, e, h, .inr ⟨kvs, h1, h2, h3⟩ => .inr ⟨kvs, by rw [h]; exact h1, h2.ext e, h3⟩
theorem Own.rp {K : PySem.W.Frag} {F H : Hp} {a : Addr} : ∀ {d : D}, Own K F H a d → ∃ o, H a = some o ∧ ∀ G, Ext F G → G a = some o → Rp K G (.ref a) d
  | .list ds, ⟨xs, h1, h2⟩ => ⟨_, h1, fun G e g => .lst (.inl (.inl g)) (h2.ext e)⟩
  | .dict es, .inl ⟨kvs, h1, h2, h3⟩ => ⟨_, h1, fun G e g => by rw [h3]; exact .dK (.inl g) h2⟩
  | .dict es, .inr ⟨kvs, h1, h2, h4⟩ => ⟨_, h1, fun G e g => .dT g (h2.ext e) h4⟩
/-- neither a table nor known by a saying alone -/
def Pl (o : HO) : Prop := (∀ ps, o ≠ .tbl ps) ∧ (∀ φ, o ≠ .ext φ) ∧ ∀ xs, o ≠ .tup xs
theorem pl_lst {xs : List V} : Pl (.lst xs) := ⟨fun _ z => (by cases z), fun _ z => (by cases z), fun _ z => (by cases z)⟩
theorem pl_dK {xs : List (Key × V)} : Pl (.dK xs) := ⟨fun _ z => (by cases z), fun _ z => (by cases z), fun _ z => (by cases z)⟩
theorem pl_dT {xs : List (List Key × V)} : Pl (.dT xs) := ⟨fun _ z => (by cases z), fun _ z => (by cases z), fun _ z => (by cases z)⟩
theorem Own.pl {K : PySem.W.Frag} {F H : Hp} {a : Addr} {o : HO} : ∀ {d : D}, Own K F H a d → H a = some o → Pl o
  | .list ds, ⟨xs, h1, h2⟩, e => by
    rw [h1] at e
    cases e
    exact pl_lst
  | .dict es, .inl ⟨kvs, h1, h2⟩, e => by
    rw [h1] at e
    cases e
    exact pl_dK
  | .dict es, .inr ⟨kvs, h1, h2, h4⟩, e => by
    rw [h1] at e
    cases e
    exact pl_dT
def Mine (σ : L2.St) (ρ : Nv) (a : Addr) : Prop := ∃ (i : Nat) (c : Cell), ρ[i]? = some (some c) ∧ c.mine = true ∧ σ[i]? = some (some (.ref a))

/-- a code object's table, whatever it has by now -/
def tabP (p : Addr) : Heap → Prop := fun h => ∃ ps : Array Value, h.get? p = some { cls := .none, data := .fields ps } ∧ TriplesOk ps.toList

/-- a table of code objects: of generator expressions, by a saying alone; of lambdas of one name, as it stands -/
abbrev Tb := Addr × Option Str
def TabIn (F H : Hp) (t : Tb) : Prop := match t.2 with
  | none => F t.1 = some (.ext (tabP t.1))
  | some q => LamX.TabS H t.1 q ∧ F t.1 = none
theorem TabIn.to {F F' H H' : Hp} {t : Tb} (h : TabIn F H t) (h1 : F t.1 = some (.ext (tabP t.1)) → F' t.1 = some (.ext (tabP t.1))) (h2 : ∀ ps, H t.1 = some (.tbl ps) → F t.1 = none → H' t.1 = some (.tbl ps) ∧ F' t.1 = none) (h3 : ∀ c φ, H c = some (.ext φ) → H' c = some (.ext φ)) : TabIn F' H' t := by
  obtain ⟨p, k⟩ := t
  cases k with
  | none => exact h1 h
  | some q =>
    obtain ⟨⟨ps, e1, e2, e3⟩, e4⟩ := h
    obtain ⟨g1, g2⟩ := h2 ps e1 e4
    refine ⟨⟨ps, g1, e2, fun pos cv hc => ?_⟩, g2⟩
    obtain ⟨c, x1, x2⟩ := e3 pos cv hc
    exact ⟨c, x1, h3 c _ x2⟩
/-- tuples are for all to read -/
def TpIn (F H : Hp) : Prop := ∀ a xs, H a = some (.tup xs) → F a = some (.tup xs)
theorem TpIn.new {F H : Hp} {p : Addr} {o : HO} (h : TpIn F H) : TpIn (L2.upd F p o) (L2.upd H p o) := fun a xs e => by
  by_cases ha : a = p
  · subst ha
    rw [upd_same] at e ⊢
    exact e
  · rw [upd_ne ha] at e ⊢
    exact h a xs e
theorem TpIn.give {F H : Hp} {p : Addr} {o : HO} (h : TpIn F H) (hp : H p = some o) : TpIn (L2.upd F p o) H := fun a xs e => by
  by_cases ha : a = p
  · subst ha
    rw [upd_same, ← hp]
    exact e
  · rw [upd_ne ha]
    exact h a xs e
theorem TpIn.set {F H : Hp} {p : Addr} {o : HO} (h : TpIn F H) (ho : ∀ xs, o ≠ .tup xs) : TpIn F (L2.upd H p o) := fun a xs e => by
  by_cases ha : a = p
  · subst ha
    rw [upd_same] at e
    exact (ho xs (Option.some.inj e)).elim
  · rw [upd_ne ha] at e
    exact h a xs e
/-- how a frame lies: Z is others', F is read by anyone, the rest is its own -/
structure Rep (K : PySem.W.Frag) (cs : List Tb) (Z F H : Hp) (σ : L2.St) (ρ : Nv) : Prop where
  len : σ.length = ρ.length
  fh : ∀ a o, F a = some o → H a = some o
  zh : ∀ a o, Z a = some o → H a = some o ∧ F a = none
  mine : ∀ (i : Nat) (c : Cell), ρ[i]? = some (some c) → c.mine = true → ∃ a, σ[i]? = some (some (.ref a)) ∧ F a = none ∧ Z a = none ∧ Own K F H a c.got
  sh : ∀ (i : Nat) (d : D), ρ[i]? = some (some (.sh d)) → ∃ v, σ[i]? = some (some v) ∧ Rp K F v d
  inj : ∀ (i j : Nat) (c e : Cell) (a : Addr), ρ[i]? = some (some c) → c.mine = true → ρ[j]? = some (some e) → e.mine = true → σ[i]? = some (some (.ref a)) → σ[j]? = some (some (.ref a)) → i = j
  io : ∀ (i : Nat) (a : Addr) (d : D), ρ[i]? = some (some (.io a d)) → σ[i]? = some (some (.ref a))
  tab : (∀ a ps, Z a ≠ some (.tbl ps) ∧ F a ≠ some (.tbl ps)) ∧ ∀ t ∈ cs, TabIn F H t
  tp : TpIn F H

/-- a value that is data now: shared, or in a name of this frame's own -/
def Vw (K : PySem.W.Frag) (F : Hp) (σ : L2.St) (ρ : Nv) (v : V) (d : D) : Prop := Rp K F v d ∨ ∃ (i : Nat) (c : Cell), ρ[i]? = some (some c) ∧ c.mine = true ∧ c.got = d ∧ σ[i]? = some (some v)

section
variable {K : PySem.W.Frag} {cs : List Tb} {Z F F' H H' : Hp} {σ : L2.St} {ρ : Nv} {v : V} {d : D}
theorem Vw.ext (e : Ext F F') (h : Vw K F σ ρ v d) : Vw K F' σ ρ v d := by
  rcases h with h | h
  · exact .inl (h.ext e)
  · exact .inr h
theorem Rep.ex (R : Rep K cs Z F H σ ρ) : Ext F H := Ext.of R.fh
/-- as data over the whole heap -/
theorem Rep.all (R : Rep K cs Z F H σ ρ) (h : Vw K F σ ρ v d) : Rp K H v d := by
  rcases h with h | ⟨i, c, h1, h2, rfl, h3⟩
  · exact h.ext R.ex
  · obtain ⟨a, e, _, _, o⟩ := R.mine i c h1 h2
    rw [h3] at e
    cases e
    obtain ⟨ob, q1, q2⟩ := o.rp
    exact q2 H R.ex q1
theorem Rep.lst (R : Rep K cs Z F H σ ρ) {ds : List D} (h : Vw K F σ ρ v (.list ds)) : ∃ a xs, v = .ref a ∧ SqL K H a xs ∧ Rps K F xs ds := by
  rcases h with h | ⟨i, c, h1, h2, h4, h3⟩
  · cases h with
    | lst s r => exact ⟨_, _, rfl, R.ex.sqL s, r⟩
  · obtain ⟨a, e, _, _, o⟩ := R.mine i c h1 h2
    rw [h3] at e
    cases e
    rw [h4] at o
    obtain ⟨xs, q1, q2⟩ := o
    exact ⟨a, xs, rfl, .inl (.inl q1), q2⟩
theorem Rep.tup (R : Rep K cs Z F H σ ρ) {ds : List D} (h : Vw K F σ ρ v (.tuple ds)) : ∃ a xs, v = .ref a ∧ F a = some (.tup xs) ∧ SqT K H a xs ∧ Rps K F xs ds := by
  rcases h with h | ⟨i, c, h1, h2, h4, h3⟩
  · cases h with
    | tup s r => exact ⟨_, _, rfl, s, R.ex.sqT (.inl (.inl s)), r⟩
  · obtain ⟨a, e, _, _, o⟩ := R.mine i c h1 h2
    rw [h4] at o
    exact o.elim
/-- a new object, shared at once -/
theorem nt_upd {F : Hp} {p : Addr} {o : HO} (h : ∀ a ps, F a ≠ some (.tbl ps)) (nt : ∀ ps, o ≠ .tbl ps) : ∀ a ps, upd F p o a ≠ some (.tbl ps) := fun a ps z => by
  by_cases ha : a = p
  · subst ha
    rw [upd_same] at z
    exact nt ps (Option.some.inj z)
  · rw [upd_ne ha] at z
    exact h a ps z
theorem Rep.new {p : Addr} {o : HO} (R : Rep K cs Z F H σ ρ) (hp : H p = none) (nt : ∀ ps, o ≠ .tbl ps := by intro _ z; cases z) : Rep K cs Z (upd F p o) (upd H p o) σ ρ ∧ Ext F (upd F p o) ∧ F p = none := by
  have fp : F p = none := by
    cases e : F p with
    | none => rfl
    | some u => rw [R.fh p u e] at hp; cases hp
  have hne : ∀ a u, H a = some u → a ≠ p := fun a u e => ne_of_none e hp
  refine ⟨⟨R.len, fun a u e => ?_, fun a u e => ?_, fun i c h1 h2 => ?_, fun i d h1 => ?_, R.inj, R.io, ⟨fun a ps => ⟨(R.tab.1 a ps).1, nt_upd (fun a ps => (R.tab.1 a ps).2) nt a ps⟩, fun q hq => ?_⟩, R.tp.new⟩, Ext.upd fp, fp⟩
  · by_cases h : a = p
    · subst h
      rw [upd_same] at e ⊢
      exact e
    · rw [upd_ne h] at e ⊢
      exact R.fh a u e
  · obtain ⟨q1, q2⟩ := R.zh a u e
    rw [upd_ne (hne a u q1), upd_ne (hne a u q1)]
    exact ⟨q1, q2⟩
  · obtain ⟨a, e, f, z, o⟩ := R.mine i c h1 h2
    obtain ⟨ob, q1, _⟩ := o.rp
    exact ⟨a, e, by rw [upd_ne (hne a _ q1)]; exact f, z, o.ext (Ext.upd fp) (upd_ne (hne a _ q1))⟩
  · obtain ⟨v, e, r⟩ := R.sh i d h1
    exact ⟨v, e, r.ext (Ext.upd fp)⟩
  · refine (R.tab.2 q hq).to (fun e => ?_) (fun ps e1 e2 => ?_) fun c φ e => ?_
    · rw [upd_ne (hne _ _ (R.fh _ _ e))]
      exact e
    · rw [upd_ne (hne _ _ e1), upd_ne (hne _ _ e1)]
      exact ⟨e1, e2⟩
    · rw [upd_ne (hne _ _ e)]
      exact e
/-- a new object, nobody's yet -/
theorem Rep.made {p : Addr} {o : HO} (R : Rep K cs Z F H σ ρ) (hp : H p = none) (nt2 : ∀ xs, o ≠ .tup xs := by intro _ z; cases z) : Rep K cs Z F (upd H p o) σ ρ ∧ F p = none ∧ Z p = none ∧ ¬ Mine σ ρ p := by
  have fp : F p = none := by
    cases e : F p with
    | none => rfl
    | some u => rw [R.fh p u e] at hp; cases hp
  have zp : Z p = none := by
    cases e : Z p with
    | none => rfl
    | some u => rw [(R.zh p u e).1] at hp; cases hp
  have hne : ∀ a u, H a = some u → a ≠ p := fun a u e => ne_of_none e hp
  refine ⟨⟨R.len, fun a u e => ?_, fun a u e => ?_, fun i c h1 h2 => ?_, R.sh, R.inj, R.io, ⟨R.tab.1, fun q hq => (R.tab.2 q hq).to (fun e => e) (fun ps e1 e2 => ⟨by rw [upd_ne (hne _ _ e1)]; exact e1, e2⟩) fun c φ e => by rw [upd_ne (hne _ _ e)]; exact e⟩, R.tp.set nt2⟩, fp, zp, ?_⟩
  · rw [upd_ne (hne a u (R.fh a u e))]
    exact R.fh a u e
  · obtain ⟨q1, q2⟩ := R.zh a u e
    rw [upd_ne (hne a u q1)]
    exact ⟨q1, q2⟩
  · obtain ⟨a, e, f, z, o⟩ := R.mine i c h1 h2
    obtain ⟨ob, q1, _⟩ := o.rp
    exact ⟨a, e, f, z, o.ext (Ext.refl F) (upd_ne (hne a _ q1))⟩
  · rintro ⟨i, c, h1, h2, h3⟩
    obtain ⟨a, e, f, z, o⟩ := R.mine i c h1 h2
    obtain ⟨ob, q1, _⟩ := o.rp
    rw [h3] at e
    cases e
    rw [hp] at q1
    cases q1
/-- what is nobody's becomes shared -/
theorem Rep.give {p : Addr} {o : HO} (R : Rep K cs Z F H σ ρ) (hp : H p = some o) (fp : F p = none) (zp : Z p = none) (mp : ¬ Mine σ ρ p) (pl : Pl o) : Rep K cs Z (upd F p o) H σ ρ := by
  refine ⟨R.len, fun a u e => ?_, fun a u e => ?_, fun i c h1 h2 => ?_, fun i d h1 => ?_, R.inj, R.io, ⟨fun a ps => ⟨(R.tab.1 a ps).1, nt_upd (fun a ps => (R.tab.1 a ps).2) pl.1 a ps⟩, fun q hq => ?_⟩, R.tp.give hp⟩
  · by_cases h : a = p
    · subst h
      rw [upd_same] at e
      cases e
      exact hp
    · rw [upd_ne h] at e
      exact R.fh a u e
  · obtain ⟨q1, q2⟩ := R.zh a u e
    have h : a ≠ p := ne_of_none e zp
    rw [upd_ne h]
    exact ⟨q1, q2⟩
  · obtain ⟨a, e, f, z, ow⟩ := R.mine i c h1 h2
    have h : a ≠ p := fun z => mp ⟨i, c, h1, h2, by rw [← z]; exact e⟩
    exact ⟨a, e, by rw [upd_ne h]; exact f, z, ow.ext (Ext.upd fp) rfl⟩
  · obtain ⟨v, e, r⟩ := R.sh i d h1
    exact ⟨v, e, r.ext (Ext.upd fp)⟩
  · refine (R.tab.2 q hq).to (fun e => ?_) (fun ps e1 e2 => ⟨e1, ?_⟩) fun c φ e => e
    · rw [upd_ne (ne_of_none e fp)]
      exact e
    · rw [upd_ne (fun z => by rw [z, hp] at e1; exact pl.1 ps (Option.some.inj e1))]
      exact e2
end

/-! ## expressions that change no name -/
def tP (K : PySem.W.Frag) (cs : List Tb) (f : Nv → Option D) : TE := fun σ H Q => ∃ Z F ρ d, Rep K cs Z F H σ ρ ∧ f ρ = some d ∧ ∀ v F' H', Ext F F' → Rep K cs Z F' H' σ ρ → Rp K F' v d → Q v H'
def tW (K : PySem.W.Frag) (cs : List Tb) (f : Nv → Option D) : TE := fun σ H Q => ∃ Z F ρ d, Rep K cs Z F H σ ρ ∧ f ρ = some d ∧ ∀ v F' H', Ext F F' → Rep K cs Z F' H' σ ρ → Vw K F' σ ρ v d → Q v H'
/-- a new list or dict, nobody's yet -/
def tN (K : PySem.W.Frag) (cs : List Tb) (f : Nv → Option D) : TE := fun σ H Q => ∃ Z F ρ d, Rep K cs Z F H σ ρ ∧ f ρ = some d ∧
  ∀ p F' H', Ext F F' → Rep K cs Z F' H' σ ρ → F' p = none → Z p = none → ¬ Mine σ ρ p → Own K F' H' p d → Q (.ref p) H'
def tPT (K : PySem.W.Frag) (cs : List Tb) (f : Nv → Option Bool) : TT := fun σ H Q => ∃ Z F ρ b, Rep K cs Z F H σ ρ ∧ f ρ = some b ∧ ∀ F' H', Ext F F' → Rep K cs Z F' H' σ ρ → Q b H'
def tPA (K : PySem.W.Frag) (cs : List Tb) (f : Nv → Option (List D)) : TA := fun σ H Q => ∃ Z F ρ ds, Rep K cs Z F H σ ρ ∧ f ρ = some ds ∧ ∀ vs F' H', Ext F F' → Rep K cs Z F' H' σ ρ → Rps K F' vs ds → Q vs H'
inductive Vws (K : PySem.W.Frag) (F : Hp) (σ : L2.St) (ρ : Nv) : List V → List D → Prop
  | nil : Vws K F σ ρ [] []
  | cons {v : V} {vs : List V} {d : D} {ds : List D} : Vw K F σ ρ v d → Vws K F σ ρ vs ds → Vws K F σ ρ (v :: vs) (d :: ds)
theorem Vws.ext {K : PySem.W.Frag} {F F' : Hp} {σ : L2.St} {ρ : Nv} (e : Ext F F') : ∀ {vs : List V} {ds : List D}, Vws K F σ ρ vs ds → Vws K F' σ ρ vs ds
  | _, _, .nil => .nil
  | _, _, .cons a b => .cons (a.ext e) (Vws.ext e b)
def tWA (K : PySem.W.Frag) (cs : List Tb) (f : Nv → Option (List D)) : TA := fun σ H Q => ∃ Z F ρ ds, Rep K cs Z F H σ ρ ∧ f ρ = some ds ∧ ∀ vs F' H', Ext F F' → Rep K cs Z F' H' σ ρ → Vws K F' σ ρ vs ds → Q vs H'

section
variable (cs : List Tb) (X : Cx)
structure EP' (e : Expr) (f : Nv → Option D) : Prop where
  h : PE X e (tP X.K cs f)
structure EW (e : Expr) (f : Nv → Option D) : Prop where
  h : PE X e (tW X.K cs f)
structure EN (e : Expr) (f : Nv → Option D) : Prop where
  h : PE X e (tN X.K cs f)
structure ET (e : Expr) (f : Nv → Option Bool) : Prop where
  h : PT X e (tPT X.K cs f)
structure EWs (es : List Expr) (f : Nv → Option (List D)) : Prop where
  h : PA X es (tWA X.K cs f)
structure EPs (es : List Expr) (f : Nv → Option (List D)) : Prop where
  h : PA X es (tPA X.K cs f)
end
section
variable {cs : List Tb} {X : Cx} {e a b c : Expr} {pos : Pos}
theorem pe_imp {t t' : TE} (h : PE X e t) (i : ∀ σ H Q, t' σ H Q → t σ H Q) : PE X e t' := ⟨fun pins s σ H Q I q => h.run pins s σ H Q I (i σ H Q q)⟩
theorem pt_imp {t t' : TT} (h : PT X e t) (i : ∀ σ H Q, t' σ H Q → t σ H Q) : PT X e t' := ⟨fun pins s σ H Q I q => h.run pins s σ H Q I (i σ H Q q)⟩
theorem pw_imp {t t' : TT} (h : PW X e t) (i : ∀ σ H Q, t' σ H Q → t σ H Q) : PW X e t' := ⟨fun wh pins s σ H Q I q => h.run wh pins s σ H Q I (i σ H Q q)⟩
theorem pa_imp {es : List Expr} {t t' : TA} (h : PA X es t) (i : ∀ σ H Q, t' σ H Q → t σ H Q) : PA X es t' := ⟨fun p pins s σ H Q I q => h.run p pins s σ H Q I (i σ H Q q)⟩
theorem ps_imp {st : Stmt} {t t' : TS} (h : PS X st t) (i : ∀ D σ H, t' D σ H → t D σ H) : PS X st t' := ⟨fun pins s σ H D I q => h.run pins s σ H D I (i D σ H q)⟩
theorem pss_imp {st : List Stmt} {t t' : TS} (h : PSs X st t) (i : ∀ D σ H, t' D σ H → t D σ H) : PSs X st t' := ⟨fun pins s σ H D I q => h.run pins s σ H D I (i D σ H q)⟩

theorem EP'.w {f : Nv → Option D} (h : EP' cs X e f) : EW cs X e f := ⟨pe_imp h.h fun _ _ _ ⟨Z, F, ρ, d, R, ef, q⟩ => ⟨Z, F, ρ, d, R, ef, fun v F' H' e' R' r => q v F' H' e' R' (.inl r)⟩⟩
theorem EN.p {f : Nv → Option D} (h : EN cs X e f) : EP' cs X e f := ⟨pe_imp h.h fun _ _ _ ⟨Z, F, ρ, d, R, ef, q⟩ => ⟨Z, F, ρ, d, R, ef, fun p F' H' e' R' fp zp mp ow => by
  obtain ⟨o, h1, h2⟩ := ow.rp
  exact q _ _ _ (e'.trans (Ext.upd fp)) (R'.give h1 fp zp mp (ow.pl h1)) (h2 _ (Ext.upd fp) upd_same)⟩⟩
theorem EN.w {f : Nv → Option D} (h : EN cs X e f) : EW cs X e f := h.p.w

/-! ### constants and names -/
theorem e_int {i : Int} {j : Nat} : EP' cs X (.Constant (.int i) j pos) (fun _ => some (.int i)) := ⟨pe_imp pe_int fun _ _ _ ⟨Z, F, ρ, d, R, ef, q⟩ => by
  cases ef
  exact q _ F _ (Ext.refl F) R (.int i)⟩
theorem e_str {i : Str} {j : Nat} : EP' cs X (.Constant (.str i) j pos) (fun _ => some (.str i)) := ⟨pe_imp pe_str fun _ _ _ ⟨Z, F, ρ, d, R, ef, q⟩ => by
  cases ef
  exact q _ F _ (Ext.refl F) R (.str i)⟩
theorem e_bool {i : Bool} {j : Nat} : EP' cs X (.Constant (.bool i) j pos) (fun _ => some (.bool i)) := ⟨pe_imp pe_bl fun _ _ _ ⟨Z, F, ρ, d, R, ef, q⟩ => by
  cases ef
  exact q _ F _ (Ext.refl F) R (.bl i)⟩
theorem e_none {j : Nat} : EP' cs X (.Constant .none j pos) (fun _ => some .none) := ⟨pe_imp pe_non fun _ _ _ ⟨Z, F, ρ, d, R, ef, q⟩ => by
  cases ef
  exact q _ F _ (Ext.refl F) R .non⟩
/-- a name, read as shared data -/
def nmP (i : Nat) : Nv → Option D := fun ρ => match ρ[i]? with
  | some (some (.sh d)) => some d
  | _ => none
/-- .. or as what it holds now -/
def nmW (i : Nat) : Nv → Option D := fun ρ => match ρ[i]? with
  | some (some c) => some c.got
  | _ => none
theorem e_nameP {i : Nat} {x : Str} (h : PE X (.Name x pos) (tVar i)) : EP' cs X (.Name x pos) (nmP i) := ⟨pe_imp h fun σ H Q ⟨Z, F, ρ, d, R, ef, q⟩ => by
  unfold nmP at ef
  split at ef
  · rename_i d' e
    cases ef
    obtain ⟨v, h1, h2⟩ := R.sh i _ e
    exact ⟨v, h1, q v F H (Ext.refl F) R h2⟩
  · cases ef⟩
theorem e_nameW {i : Nat} {x : Str} (h : PE X (.Name x pos) (tVar i)) : EW cs X (.Name x pos) (nmW i) := ⟨pe_imp h fun σ H Q ⟨Z, F, ρ, d, R, ef, q⟩ => by
  unfold nmW at ef
  split at ef
  · rename_i c e
    cases ef
    cases hc : c.mine with
    | true =>
      obtain ⟨a, h1, _⟩ := R.mine i c e hc
      exact ⟨.ref a, h1, q _ F H (Ext.refl F) R (.inr ⟨i, c, e, hc, rfl, h1⟩)⟩
    | false =>
      cases c with
      | sh d =>
        obtain ⟨v, h1, h2⟩ := R.sh i _ e
        exact ⟨v, h1, q v F H (Ext.refl F) R (.inl h2)⟩
      | ow d => cases hc
      | io a d => cases hc
  · cases ef⟩
/-- a constant of the module -/
theorem e_glob {x : Str} {v : V} {d : D} (h : PE X (.Name x pos) (tC v)) (r : ∀ F, Rp X.K F v d) : EP' cs X (.Name x pos) (fun _ => some d) := ⟨pe_imp h fun _ H Q ⟨Z, F, ρ, d, R, ef, q⟩ => by
  cases ef
  exact q _ F H (Ext.refl F) R (r F)⟩

/-! ### operators -/
/-- what an operator does with data -/
def OpS (X : Cx) (cs : List Tb) (r : R2) (g : D → D → Option D) : Prop := ∀ (Z F H : Hp) (σ : L2.St) (ρ : Nv) (v u : V) (x y d : D) (Q : VK), Rep X.K cs Z F H σ ρ → Vw X.K F σ ρ v x → Vw X.K F σ ρ u y → g x y = some d →
  (∀ w F' H', Ext F F' → Rep X.K cs Z F' H' σ ρ → Rp X.K F' w d → Q w H') → r v u H Q
def op2 (g : D → D → Option D) (fa fb : Nv → Option D) : Nv → Option D := fun ρ => (fa ρ).bind fun x => (fb ρ).bind fun y => g x y
theorem t_op2 {r : R2} {g : D → D → Option D} (h : OpS X cs r g) {fa fb : Nv → Option D} : ∀ σ H Q, tP X.K cs (op2 g fa fb) σ H Q → tOp r (tW X.K cs fa) (tW X.K cs fb) σ H Q := fun σ H Q ⟨Z, F, ρ, d, R, ef, q⟩ => by
  unfold op2 at ef
  cases ea : fa ρ with
  | none => rw [ea] at ef; cases ef
  | some x =>
    rw [ea] at ef
    cases eb : fb ρ with
    | none => rw [show (some x).bind _ = _ from rfl, eb] at ef; cases ef
    | some y =>
      rw [show (some x).bind _ = _ from rfl, eb] at ef
      exact ⟨Z, F, ρ, x, R, ea, fun v F1 H1 e1 R1 w1 => ⟨Z, F1, ρ, y, R1, eb, fun u F2 H2 e2 R2 w2 => h Z F2 H2 σ ρ v u x y d Q R2 (w1.ext e2) w2 ef fun w F' H' e3 R3 r3 => q w F' H' ((e1.trans e2).trans e3) R3 r3⟩⟩
end
end DS

namespace DS
open PySem L2

/-! ## operators by values -/
/-- an operator on data: what it is told of its operands, what it gives -/
def rD (K : PySem.W.Frag) (cs : List Tb) (g : D → D → Option D) : R2 := fun v u H Q => ∃ Z F σ ρ x y d, Rep K cs Z F H σ ρ ∧ Vw K F σ ρ v x ∧ Vw K F σ ρ u y ∧ g x y = some d ∧ ∀ w F' H', Ext F F' → Rep K cs Z F' H' σ ρ → Rp K F' w d → Q w H'
theorem t_opD {K : PySem.W.Frag} {cs : List Tb} {g : D → D → Option D} {fa fb : Nv → Option D} : ∀ σ H Q, tP K cs (op2 g fa fb) σ H Q → tOp (rD K cs g) (tW K cs fa) (tW K cs fb) σ H Q := fun σ H Q ⟨Z, F, ρ, d, R, ef, q⟩ => by
  unfold op2 at ef
  obtain ⟨x, ea, ef⟩ := Option.bind_eq_some_iff.mp ef
  obtain ⟨y, eb, ef⟩ := Option.bind_eq_some_iff.mp ef
  exact ⟨Z, F, ρ, x, R, ea, fun v F1 H1 e1 R1 w1 => ⟨Z, F1, ρ, y, R1, eb, fun u F2 H2 e2 R2 w2 => ⟨Z, F2, σ, ρ, x, y, d, R2, w1.ext e2, w2, ef, fun w F' H' e3 R3 r3 => q w F' H' ((e1.trans e2).trans e3) R3 r3⟩⟩⟩
section
variable {K : PySem.W.Frag} {cs : List Tb} {Z F H : Hp} {σ : L2.St} {ρ : Nv} {v : V}
theorem Rep.vsc (R : Rep K cs Z F H σ ρ) {d : D} (h : Vw K F σ ρ v d) (hd : ∀ H' a, ¬ Own K F H' a d) : Rp K F v d := by
  rcases h with h | ⟨i, c, h1, h2, rfl, h3⟩
  · exact h
  · obtain ⟨a, _, _, _, o⟩ := R.mine i c h1 h2
    exact (hd _ _ o).elim
theorem Rep.vint (R : Rep K cs Z F H σ ρ) {i : Int} (h : Vw K F σ ρ v (.int i)) : v = .int i := by
  cases R.vsc h fun _ _ z => z
  rfl
theorem Rep.vbool (R : Rep K cs Z F H σ ρ) {i : Bool} (h : Vw K F σ ρ v (.bool i)) : v = .bl i := by
  cases R.vsc h fun _ _ z => z
  rfl
theorem Rep.vstr (R : Rep K cs Z F H σ ρ) {i : Str} (h : Vw K F σ ρ v (.str i)) : v = .str i := by
  cases R.vsc h fun _ _ z => z
  rfl
theorem Rep.vnone (R : Rep K cs Z F H σ ρ) (h : Vw K F σ ρ v .none) : v = .non := by
  cases R.vsc h fun _ _ z => z
  rfl
mutual
theorem Rp.dp : ∀ {v : V} {d : D}, Rp K F v d → d.canLay0 = true → Dp K F v d
  | _, _, .non, _ => .non
  | _, _, .bl b, _ => .bl b
  | _, _, .int i, _ => .int i
  | _, _, .str x, _ => .str x
  | _, _, .lst s r, h => .lst s (Rps.dp r (by simpa [PyData.canLay0] using h))
  | _, _, .tup s r, h => .tup (.inl (.inl s)) (Rps.dp r (by simpa [PyData.canLay0] using h))
  | _, _, .dK _ _, h => by simp [PyData.canLay0] at h
  | _, _, .dT _ _ _, h => by simp [PyData.canLay0] at h
theorem Rps.dp : ∀ {vs : List V} {ds : List D}, Rps K F vs ds → PyData.canLayAll0 ds = true → DpAll K F vs ds
  | _, _, .nil, _ => .nil
  | _, _, .cons a b, h => by
    rw [PyData.canLayAll0, Bool.and_eq_true] at h
    exact .cons (Rp.dp a h.1) (Rps.dp b h.2)
end
end

def addD : D → D → Option D
  | .int i, .int j => some (.int (i + j))
  | .str x, .str y => if x.length + y.length ≤ 100000 then some (.str (x ++ y)) else none
  | .list xs, .list ys => if xs.length + ys.length ≤ 100000 then some (.list (xs ++ ys)) else none
  | _, _ => none
def subD : D → D → Option D
  | .int i, .int j => some (.int (i - j))
  | _, _ => none
def mulD : D → D → Option D
  | .int i, .int j => if -1000000 < j ∧ j < 1000000 then some (.int (i * j)) else none
  | _, _ => none
def fdivD : D → D → Option D
  | .int i, .int j => if 0 < j ∧ j < 1073741824 then some (.int (i / j)) else none
  | _, _ => none
def modD : D → D → Option D
  | .int i, .int j => if 0 < j then some (.int (i % j)) else none
  | _, _ => none
def eqD (x y : D) : Option D := if SeqAt.shaped x = true ∧ SeqAt.shaped y = true then some (.bool (PyData.eqv x y)) else none
def neD (x y : D) : Option D := if SeqAt.shaped x = true ∧ SeqAt.shaped y = true then some (.bool (!PyData.eqv x y)) else none
def ltD : D → D → Option D
  | .int i, .int j => some (.bool (decide (i < j)))
  | _, _ => none
def leD : D → D → Option D
  | .int i, .int j => some (.bool (decide (i ≤ j)))
  | .str x, .str y => some (.bool (!decide (y.cps.toList < x.cps.toList)))
  | _, _ => none
def gtD : D → D → Option D
  | .int i, .int j => some (.bool (decide (j < i)))
  | _, _ => none
def geD : D → D → Option D
  | .int i, .int j => some (.bool (decide (j ≤ i)))
  | _, _ => none
def isNone : D → Bool
  | .none => true
  | _ => false
def isD (x : D) : D → Option D
  | .none => some (.bool (isNone x))
  | _ => none
def isntD (x : D) : D → Option D
  | .none => some (.bool (!isNone x))
  | _ => none
/-- one sign in a text, or something flat among flat things -/
def inD (x y : D) : Option Bool := match x, y with
  | .str a, .str z => if a.length = 1 then some (decide (a.cps.getD 0 0 ∈ z.cps.toList)) else none
  | x, .list ds => if SeqAt.shaped x = true ∧ SeqAt.shaped (.list ds) = true then some (ds.any fun z => PyData.eqv z x) else none
  | _, _ => none
def inD' (x y : D) : Option D := (inD x y).map .bool
def ninD' (x y : D) : Option D := (inD x y).map fun b => .bool (!b)

/-- list + list, whatever slots they have -/
theorem list_cat (l : Addr) (it : Array Value) (n : Nat) (sl : Array (Option Value)) (b : Addr) (it2 : Array Value) (n2 : Nat) (sl2 : Array (Option Value)) (hc : it.size + it2.size ≤ sizeLine) :
    Meets (Builtin.«list.__add__» ⟨[.ref l, .ref b], []⟩) (fun _ R s => s.heap.get? l = some { cls := .type "list", dict := none, data := .seq it n, slots := sl } ∧ s.heap.get? b = some { cls := .type "list", dict := none, data := .seq it2 n2, slots := sl2 } ∧
      R (.ok (.ret (Value.ref s.heap.objs.size))) { s with heap := s.heap.push { cls := Value.type "list", data := Data.seq (it ++ it2) }, toks := s.toks }) :=
  .of_wp fun prog w A R s h => by
    obtain ⟨hp, g, d, tk, os⟩ := s
    obtain ⟨hl, hb, h⟩ := h
    have f3 := AutoSeq1.sub_list_list
    wp_walk using AutoSeq1.wpAny_loadPart' hl, AutoSeq1.wpAny_loadPart' hb
    exact ⟨_, rfl, h⟩
section
variable {X : Cx} {cs : List Tb}
theorem od_add : OpR X (binaryOp .Add) (rD X.K cs addD) := by
  rintro pins s σ H v u a b Q I rx ry ⟨Z, F, σ', ρ, x, y, d, R, w1, w2, e, q⟩
  unfold addD at e
  split at e
  · cases e
    cases R.vint w1
    cases R.vint w2
    exact op_add pins s σ H _ _ a b Q I rx ry ⟨_, _, rfl, rfl, q _ F H (Ext.refl F) R (.int _)⟩
  · rename_i x y
    split at e
    · rename_i hl
      cases e
      cases R.vstr w1
      cases R.vstr w2
      exact op_add_str pins s σ H _ _ a b Q I rx ry ⟨_, _, rfl, rfl, Nat.le_trans hl (by decide), q _ F H (Ext.refl F) R (.str _)⟩
    · cases e
  · rename_i xs ys
    split at e
    · rename_i hl
      cases e
      obtain ⟨a1, vs, rfl, s1, r1⟩ := R.lst w1
      obtain ⟨a2, ws, rfl, s2, r2⟩ := R.lst w2
      cases rx
      cases ry
      obtain ⟨it1, t1, p1, z1⟩ := I.list s1
      obtain ⟨it2, t2, p2, z2⟩ := I.list s2
      have l1 := t1.length
      have l2 := t2.length
      have k1 := r1.len
      have k2 := r2.len
      have hz : vs.length + ws.length ≤ sizeLine := by
        have : (100000 : Nat) ≤ sizeLine := by decide
        omega
      obtain ⟨⟨oc, od, dt, sl⟩, n, h1, h2, h3, h4⟩ := p1
      obtain ⟨⟨oc2, od2, dt2, sl2⟩, n2, g1, g2, g3, g4⟩ := p2
      simp only at h2 h3 h4 g2 g3 g4
      subst h2 h3 h4 g2 g3 g4
      refine concat_meets ⟨_, h1, rfl⟩ ⟨_, g1, rfl⟩ noFill_list_add seq_list_add PySem.F.slot_list_add PySem.F.entry_list_add (PySem.F.args_list_add_2 _ _) (list_cat a1 it1.toArray n sl a2 it2.toArray n2 sl2 (by simp only [List.size_toArray]; omega)) ⟨h1, g1, ?_⟩
      have ea : it1.toArray ++ it2.toArray = (it1 ++ it2).toArray := by simp
      rw [ea]
      have hn : H s.heap.objs.size = none := I.fresh
      obtain ⟨R', e', fp⟩ := R.new (o := .lst (vs ++ ws)) hn
      exact ⟨.ref _, _, I.lnew (t' := s.toks) (t1.append t2) (by rw [List.length_append]; omega), rfl, q _ _ _ e' R' (.lst (.inl (.inl upd_same)) ((r1.app r2).ext e'))⟩
    · cases e
  · cases e

theorem od_sub : OpR X (binaryOp .Sub) (rD X.K cs subD) := by
  rintro pins s σ H v u a b Q I rx ry ⟨Z, F, σ', ρ, x, y, d, R, w1, w2, e, q⟩
  unfold subD at e
  split at e
  · cases e
    cases R.vint w1
    cases R.vint w2
    exact op_sub pins s σ H _ _ a b Q I rx ry ⟨_, _, rfl, rfl, q _ F H (Ext.refl F) R (.int _)⟩
  · cases e
theorem od_mul : OpR X (binaryOp .Mult) (rD X.K cs mulD) := by
  rintro pins s σ H v u a b Q I rx ry ⟨Z, F, σ', ρ, x, y, d, R, w1, w2, e, q⟩
  unfold mulD at e
  split at e
  · split at e
    · rename_i hc
      cases e
      cases R.vint w1
      cases R.vint w2
      exact op_mul pins s σ H _ _ a b Q I rx ry ⟨_, _, rfl, rfl, .inr ⟨by omega, by omega⟩, q _ F H (Ext.refl F) R (.int _)⟩
    · cases e
  · cases e
theorem od_fdiv : OpR X (binaryOp .FloorDiv) (rD X.K cs fdivD) := by
  rintro pins s σ H v u a b Q I rx ry ⟨Z, F, σ', ρ, x, y, d, R, w1, w2, e, q⟩
  unfold fdivD at e
  split at e
  · split at e
    · rename_i hc
      cases e
      cases R.vint w1
      cases R.vint w2
      exact op_fdiv pins s σ H _ _ a b Q I rx ry ⟨_, _, rfl, rfl, hc, q _ F H (Ext.refl F) R (.int _)⟩
    · cases e
  · cases e
theorem od_mod : OpR X (binaryOp .Mod) (rD X.K cs modD) := by
  rintro pins s σ H v u a b Q I rx ry ⟨Z, F, σ', ρ, x, y, d, R, w1, w2, e, q⟩
  unfold modD at e
  split at e
  · split at e
    · rename_i hc
      cases e
      cases R.vint w1
      cases R.vint w2
      exact op_mod pins s σ H _ _ a b Q I rx ry ⟨_, _, rfl, rfl, hc, q _ F H (Ext.refl F) R (.int _)⟩
    · cases e
  · cases e
theorem shp {d : D} (h : SeqAt.shaped d = true) : d.canLay0 = true := SeqAt.canLay_of_shaped h
theorem od_eq (hu : X.A.units + 64 < cLine) : OpR X (compareOp .Eq) (rD X.K cs eqD) := by
  rintro pins s σ H v u a b Q I rx ry ⟨Z, F, σ', ρ, x, y, d, R, w1, w2, e, q⟩
  unfold eqD at e
  split at e
  · rename_i hc
    cases e
    exact op_eqD hu pins s σ H _ _ a b Q I rx ry ⟨x, y, (R.all w1).dp (shp hc.1), (R.all w2).dp (shp hc.2), hc.1, hc.2, q _ F H (Ext.refl F) R (.bl _)⟩
  · cases e
theorem od_ne (hu : X.A.units + 64 < cLine) : OpR X (compareOp .NotEq) (rD X.K cs neD) := by
  rintro pins s σ H v u a b Q I rx ry ⟨Z, F, σ', ρ, x, y, d, R, w1, w2, e, q⟩
  unfold neD at e
  split at e
  · rename_i hc
    cases e
    exact op_neD hu pins s σ H _ _ a b Q I rx ry ⟨x, y, (R.all w1).dp (shp hc.1), (R.all w2).dp (shp hc.2), hc.1, hc.2, q _ F H (Ext.refl F) R (.bl _)⟩
  · cases e
theorem od_lt : OpR X (compareOp .Lt) (rD X.K cs ltD) := by
  rintro pins s σ H v u a b Q I rx ry ⟨Z, F, σ', ρ, x, y, d, R, w1, w2, e, q⟩
  unfold ltD at e
  split at e
  · cases e
    cases R.vint w1
    cases R.vint w2
    exact op_lt pins s σ H _ _ a b Q I rx ry ⟨_, _, rfl, rfl, q _ F H (Ext.refl F) R (.bl _)⟩
  · cases e
theorem od_gt : OpR X (compareOp .Gt) (rD X.K cs gtD) := by
  rintro pins s σ H v u a b Q I rx ry ⟨Z, F, σ', ρ, x, y, d, R, w1, w2, e, q⟩
  unfold gtD at e
  split at e
  · cases e
    cases R.vint w1
    cases R.vint w2
    exact op_gt pins s σ H _ _ a b Q I rx ry ⟨_, _, rfl, rfl, q _ F H (Ext.refl F) R (.bl _)⟩
  · cases e
theorem od_ge : OpR X (compareOp .GtE) (rD X.K cs geD) := by
  rintro pins s σ H v u a b Q I rx ry ⟨Z, F, σ', ρ, x, y, d, R, w1, w2, e, q⟩
  unfold geD at e
  split at e
  · cases e
    cases R.vint w1
    cases R.vint w2
    exact op_ge pins s σ H _ _ a b Q I rx ry ⟨_, _, rfl, rfl, q _ F H (Ext.refl F) R (.bl _)⟩
  · cases e
theorem od_le : OpR X (compareOp .LtE) (rD X.K cs leD) := by
  rintro pins s σ H v u a b Q I rx ry ⟨Z, F, σ', ρ, x, y, d, R, w1, w2, e, q⟩
  unfold leD at e
  split at e
  · cases e
    cases R.vint w1
    cases R.vint w2
    exact op_le pins s σ H _ _ a b Q I rx ry ⟨_, _, rfl, rfl, q _ F H (Ext.refl F) R (.bl _)⟩
  · cases e
    cases R.vstr w1
    cases R.vstr w2
    exact op_le_str pins s σ H _ _ a b Q I rx ry ⟨_, _, rfl, rfl, q _ F H (Ext.refl F) R (.bl _)⟩
  · cases e
theorem Rep.isN {K : PySem.W.Frag} {Z F H : Hp} {σ : L2.St} {ρ : Nv} {v : V} {x : D} (R : Rep K cs Z F H σ ρ) (h : Vw K F σ ρ v x) : decide (v = .non) = isNone x := by
  have r := R.all h
  cases r <;> simp [isNone]
theorem od_is : OpR X (compareOp .Is) (rD X.K cs isD) := by
  rintro pins s σ H v u a b Q I rx ry ⟨Z, F, σ', ρ, x, y, d, R, w1, w2, e, q⟩
  unfold isD at e
  split at e
  · cases e
    cases R.vnone w2
    refine op_isN pins s σ H _ _ a b Q I rx ry ⟨rfl, ?_⟩
    rw [R.isN w1]
    exact q _ F H (Ext.refl F) R (.bl _)
  · cases e
theorem od_isnt : OpR X (compareOp .IsNot) (rD X.K cs isntD) := by
  rintro pins s σ H v u a b Q I rx ry ⟨Z, F, σ', ρ, x, y, d, R, w1, w2, e, q⟩
  unfold isntD at e
  split at e
  · cases e
    cases R.vnone w2
    refine op_notN pins s σ H _ _ a b Q I rx ry ⟨rfl, ?_⟩
    rw [R.isN w1]
    exact q _ F H (Ext.refl F) R (.bl _)
  · cases e
theorem one_sign {a : Str} (h : a.length = 1) : a = ⟨#[a.cps.getD 0 0]⟩ := by
  obtain ⟨⟨l⟩⟩ := a
  have h' : l.length = 1 := h
  match l, h' with
  | [c], _ => rfl
theorem od_in (hu : X.A.units + 65 < cLine) : OpR X (compareOp .In) (rD X.K cs inD') := by
  rintro pins s σ H v u a b Q I rx ry ⟨Z, F, σ', ρ, x, y, d, R, w1, w2, e, q⟩
  unfold inD' at e
  obtain ⟨bb, e, rfl⟩ := Option.map_eq_some_iff.mp e
  unfold inD at e
  split at e
  · split at e
    · rename_i hl
      cases e
      cases R.vstr w1
      cases R.vstr w2
      refine op_in_sign pins s σ H _ _ a b Q I rx ry ⟨_, _, congrArg V.str (one_sign hl), rfl, q _ F H (Ext.refl F) R (.bl _)⟩
    · cases e
  · split at e
    · rename_i hc
      cases e
      exact op_inD hu pins s σ H _ _ a b Q I rx ry ⟨_, _, (R.all w1).dp (shp hc.1), (R.all w2).dp (shp hc.2), hc.1, hc.2, q _ F H (Ext.refl F) R (.bl _)⟩
    · cases e
  · cases e
theorem od_nin (hu : X.A.units + 65 < cLine) : OpR X (compareOp .NotIn) (rD X.K cs ninD') := by
  rintro pins s σ H v u a b Q I rx ry ⟨Z, F, σ', ρ, x, y, d, R, w1, w2, e, q⟩
  unfold ninD' at e
  obtain ⟨bb, e2, rfl⟩ := Option.map_eq_some_iff.mp e
  clear e
  unfold inD at e2
  split at e2
  · split at e2
    · rename_i hl
      obtain rfl := Option.some.inj e2
      cases R.vstr w1
      cases R.vstr w2
      refine op_notIn_sign pins s σ H _ _ a b Q I rx ry ⟨_, _, congrArg V.str (one_sign hl), rfl, q _ F H (Ext.refl F) R (.bl _)⟩
    · cases e2
  · split at e2
    · rename_i hc
      obtain rfl := Option.some.inj e2
      exact op_notInD hu pins s σ H _ _ a b Q I rx ry ⟨_, _, (R.all w1).dp (shp hc.1), (R.all w2).dp (shp hc.2), hc.1, hc.2, q _ F H (Ext.refl F) R (.bl _)⟩
    · cases e2
  · cases e2
end
end DS

namespace DS
open PySem L2

/-! ## expressions by their parts -/
section
variable {cs : List Tb} {X : Cx} {a b c e : Expr} {es : List Expr} {pos : Pos} {fa fb fc : Nv → Option D} {g g' : D → D → Option D} {ga gb : Nv → Option Bool}
theorem e_op {op : Operator} (ho : OpR X (binaryOp op) (rD X.K cs g)) (ha : EW cs X a fa) (hb : EW cs X b fb) : EP' cs X (.BinOp a op b pos) (op2 g fa fb) := ⟨pe_imp (pe_op ho ha.h hb.h) t_opD⟩
theorem e_cmp {op : CmpOp} (ho : OpR X (compareOp op) (rD X.K cs g)) (ha : EW cs X a fa) (hb : EW cs X b fb) (hm : behindInMarks op b = false) : EP' cs X (.Compare a [op] [b] pos) (op2 g fa fb) := ⟨pe_imp (pe_cmpR ho ha.h hb.h hm) t_opD⟩
def asB : D → Option Bool
  | .bool b => some b
  | _ => none
def opT (g : D → D → Option D) (fa fb : Nv → Option D) : Nv → Option Bool := fun ρ => (op2 g fa fb ρ).bind asB
theorem asB_some {d : D} {b : Bool} (h : asB d = some b) : d = .bool b := by
  cases d <;> simp [asB] at h
  rw [h]
theorem Rp.isbl {K : PySem.W.Frag} {F : Hp} {v : V} {b : Bool} (h : Rp K F v (.bool b)) : v = .bl b := by
  cases h
  rfl
theorem et_cmp {op : CmpOp} (ho : OpR X (compareOp op) (rD X.K cs g)) (ha : EW cs X a fa) (hb : EW cs X b fb) (hm : behindInMarks op b = false) : ET cs X (.Compare a [op] [b] pos) (opT g fa fb) := ⟨pt_imp (pt_cmpR ho ha.h hb.h hm) fun σ H Q ⟨Z, F, ρ, k, R, ef, q⟩ => by
  obtain ⟨d, e1, e2⟩ := Option.bind_eq_some_iff.mp ef
  have hk0 := asB_some e2
  exact t_opD σ H _ ⟨Z, F, ρ, _, R, e1, fun v F' H' e' R' r => ⟨k, (hk0 ▸ r).isbl, q F' H' e' R'⟩⟩⟩
/-- a op b op' c -/
def ch3 (g g' : D → D → Option D) (fa fb fc : Nv → Option D) : Nv → Option D := fun ρ => (fa ρ).bind fun x => (fb ρ).bind fun y => (g x y).bind fun z => (asB z).bind fun k => if k = true then (fc ρ).bind fun w => g' y w else some (.bool false)
theorem t_chain {K : PySem.W.Frag} : ∀ σ H Q, tP K cs (ch3 g g' fa fb fc) σ H Q → tChain (rD K cs g) (rD K cs g') (tW K cs fa) (tW K cs fb) (tW K cs fc) σ H Q := fun σ H Q ⟨Z, F, ρ, d, R, ef, q⟩ => by
  unfold ch3 at ef
  obtain ⟨x, ea, ef⟩ := Option.bind_eq_some_iff.mp ef
  obtain ⟨y, eb, ef⟩ := Option.bind_eq_some_iff.mp ef
  obtain ⟨z, ez, ef⟩ := Option.bind_eq_some_iff.mp ef
  obtain ⟨k, ek, ef⟩ := Option.bind_eq_some_iff.mp ef
  have hk0 := asB_some ek
  refine ⟨Z, F, ρ, x, R, ea, fun v F1 H1 e1 R1 w1 => ⟨Z, F1, ρ, y, R1, eb, fun u F2 H2 e2 R2 w2 => ⟨Z, F2, σ, ρ, x, y, _, R2, w1.ext e2, w2, ez, fun t F3 H3 e3 R3 r3 => ⟨k, (hk0 ▸ r3).isbl, ?_⟩⟩⟩⟩
  by_cases hk : k = true
  · rw [if_pos hk] at ef ⊢
    obtain ⟨w, ew, ef⟩ := Option.bind_eq_some_iff.mp ef
    exact ⟨Z, F3, ρ, w, R3, ew, fun s F4 H4 e4 R4 w4 => ⟨Z, F4, σ, ρ, y, w, d, R4, (w2.ext e3).ext e4, w4, ef, fun s' F5 H5 e5 R5 r5 => q s' F5 H5 ((((e1.trans e2).trans e3).trans e4).trans e5) R5 r5⟩⟩
  · rw [if_neg hk] at ef ⊢
    cases ef
    exact q _ F3 H3 ((e1.trans e2).trans e3) R3 (.bl false)
theorem e_chain {op op' : CmpOp} (ho : OpR X (compareOp op) (rD X.K cs g)) (ho' : OpR X (compareOp op') (rD X.K cs g')) (ha : EW cs X a fa) (hb : EW cs X b fb) (hc : EW cs X c fc) (hm : lastMarks [op, op'] [b, c] = false := by with_unfolding_all rfl) :
    EP' cs X (.Compare a [op, op'] [b, c] pos) (ch3 g g' fa fb fc) := ⟨pe_imp (pe_chain ho ho' ha.h hb.h hc.h hm) t_chain⟩
theorem et_chain {op op' : CmpOp} (ho : OpR X (compareOp op) (rD X.K cs g)) (ho' : OpR X (compareOp op') (rD X.K cs g')) (ha : EW cs X a fa) (hb : EW cs X b fb) (hc : EW cs X c fc) (hm : lastMarks [op, op'] [b, c] = false := by with_unfolding_all rfl) :
    ET cs X (.Compare a [op, op'] [b, c] pos) (fun ρ => (ch3 g g' fa fb fc ρ).bind asB) := ⟨pt_imp (pt_chain ho ho' ha.h hb.h hc.h hm) fun σ H Q ⟨Z, F, ρ, k, R, ef, q⟩ => by
  obtain ⟨d, e1, e2⟩ := Option.bind_eq_some_iff.mp ef
  have hk0 := asB_some e2
  exact t_chain σ H _ ⟨Z, F, ρ, _, R, e1, fun v F' H' e' R' r => ⟨k, (hk0 ▸ r).isbl, q F' H' e' R'⟩⟩⟩

/-! ### and, or, not, if -/
def andV (fa fb : Nv → Option D) : Nv → Option D := fun ρ => (fa ρ).bind fun x => (asB x).bind fun k => if k = true then fb ρ else some (.bool false)
def orV (fa fb : Nv → Option D) : Nv → Option D := fun ρ => (fa ρ).bind fun x => (asB x).bind fun k => if k = true then some (.bool true) else fb ρ
def notV (fa : Nv → Option D) : Nv → Option D := fun ρ => (fa ρ).bind fun x => (asB x).map fun k => .bool (!k)
def ifV (t : Nv → Option Bool) (fa fb : Nv → Option D) : Nv → Option D := fun ρ => (t ρ).bind fun k => if k = true then fa ρ else fb ρ
def andT (ga gb : Nv → Option Bool) : Nv → Option Bool := fun ρ => (ga ρ).bind fun k => if k = true then gb ρ else some false
def orT (ga gb : Nv → Option Bool) : Nv → Option Bool := fun ρ => (ga ρ).bind fun k => if k = true then some true else gb ρ
def notT (ga : Nv → Option Bool) : Nv → Option Bool := fun ρ => (ga ρ).map (!·)
theorem e_one {op : BoolOp} (h : EP' cs X a fa) : EP' cs X (.BoolOp op [a] pos) fa := ⟨pe_one h.h⟩
theorem e_and {rest : List Expr} (ha : EP' cs X a fa) (hb : EP' cs X (.BoolOp .And (b :: rest) pos) fb) : EP' cs X (.BoolOp .And (a :: b :: rest) pos) (andV fa fb) := ⟨pe_imp (pe_and ha.h hb.h) fun σ H Q ⟨Z, F, ρ, d, R, ef, q⟩ => by
  unfold andV at ef
  obtain ⟨x, ea, ef⟩ := Option.bind_eq_some_iff.mp ef
  obtain ⟨k, ek, ef⟩ := Option.bind_eq_some_iff.mp ef
  have hk0 := asB_some ek
  refine ⟨Z, F, ρ, _, R, ea, fun v F1 H1 e1 R1 r1 => ⟨k, (hk0 ▸ r1).isbl, ?_⟩⟩
  by_cases hk : k = true
  · rw [if_pos hk] at ef ⊢
    exact ⟨Z, F1, ρ, d, R1, ef, fun v F2 H2 e2 R2 r2 => q v F2 H2 (e1.trans e2) R2 r2⟩
  · rw [if_neg hk] at ef ⊢
    cases ef
    exact q _ F1 H1 e1 R1 (.bl false)⟩
theorem e_or {rest : List Expr} (ha : EP' cs X a fa) (hb : EP' cs X (.BoolOp .Or (b :: rest) pos) fb) : EP' cs X (.BoolOp .Or (a :: b :: rest) pos) (orV fa fb) := ⟨pe_imp (pe_or ha.h hb.h) fun σ H Q ⟨Z, F, ρ, d, R, ef, q⟩ => by
  unfold orV at ef
  obtain ⟨x, ea, ef⟩ := Option.bind_eq_some_iff.mp ef
  obtain ⟨k, ek, ef⟩ := Option.bind_eq_some_iff.mp ef
  have hk0 := asB_some ek
  refine ⟨Z, F, ρ, _, R, ea, fun v F1 H1 e1 R1 r1 => ⟨k, (hk0 ▸ r1).isbl, ?_⟩⟩
  by_cases hk : k = true
  · rw [if_pos hk] at ef ⊢
    cases ef
    exact q _ F1 H1 e1 R1 (.bl true)
  · rw [if_neg hk] at ef ⊢
    exact ⟨Z, F1, ρ, d, R1, ef, fun v F2 H2 e2 R2 r2 => q v F2 H2 (e1.trans e2) R2 r2⟩⟩
theorem e_not (ha : EP' cs X a fa) : EP' cs X (.UnaryOp .Not a pos) (notV fa) := ⟨pe_imp (pe_not ha.h) fun σ H Q ⟨Z, F, ρ, d, R, ef, q⟩ => by
  unfold notV at ef
  obtain ⟨x, ea, ef⟩ := Option.bind_eq_some_iff.mp ef
  obtain ⟨k, ek, ef⟩ := Option.map_eq_some_iff.mp ef
  have hk0 := asB_some ek
  subst ef
  exact ⟨Z, F, ρ, _, R, ea, fun v F1 H1 e1 R1 r1 => ⟨k, (hk0 ▸ r1).isbl, q _ F1 H1 e1 R1 (.bl _)⟩⟩⟩
theorem e_if (ht : ET cs X c ga) (ha : EP' cs X a fa) (hb : EP' cs X b fb) : EP' cs X (.IfExp c a b pos) (ifV ga fa fb) := ⟨pe_imp (pe_ifExp ht.h ha.h hb.h) fun σ H Q ⟨Z, F, ρ, d, R, ef, q⟩ => by
  unfold ifV at ef
  obtain ⟨k, ek, ef⟩ := Option.bind_eq_some_iff.mp ef
  refine ⟨Z, F, ρ, k, R, ek, fun F1 H1 e1 R1 => ?_⟩
  by_cases hk : k = true
  · rw [if_pos hk] at ef ⊢
    exact ⟨Z, F1, ρ, d, R1, ef, fun v F2 H2 e2 R2 r2 => q v F2 H2 (e1.trans e2) R2 r2⟩
  · rw [if_neg hk] at ef ⊢
    exact ⟨Z, F1, ρ, d, R1, ef, fun v F2 H2 e2 R2 r2 => q v F2 H2 (e1.trans e2) R2 r2⟩⟩
structure EPW (cs : List Tb) (X : Cx) (e : Expr) (f : Nv → Option Bool) : Prop where
  h : PW X e (tPT X.K cs f)
theorem et_pw (h : EPW cs X a ga) : ET cs X a ga := ⟨h.h.pt⟩
theorem ew_and1 (h : ET cs X a ga) : EPW cs X (.BoolOp .And [a] pos) ga := ⟨pw_and1 h.h⟩
theorem ew_or1 (h : ET cs X a ga) : EPW cs X (.BoolOp .Or [a] pos) ga := ⟨pw_or1 h.h⟩
theorem ew_and {rest : List Expr} (ha : ET cs X a ga) (hb : EPW cs X (.BoolOp .And (b :: rest) pos) gb) : EPW cs X (.BoolOp .And (a :: b :: rest) pos) (andT ga gb) := ⟨pw_imp (pw_and ha.h hb.h) fun σ H Q ⟨Z, F, ρ, d, R, ef, q⟩ => by
  unfold andT at ef
  obtain ⟨k, ek, ef⟩ := Option.bind_eq_some_iff.mp ef
  refine ⟨Z, F, ρ, k, R, ek, fun F1 H1 e1 R1 => ?_⟩
  by_cases hk : k = true
  · rw [if_pos hk] at ef ⊢
    exact ⟨Z, F1, ρ, d, R1, ef, fun F2 H2 e2 R2 => q F2 H2 (e1.trans e2) R2⟩
  · rw [if_neg hk] at ef ⊢
    cases ef
    exact q F1 H1 e1 R1⟩
theorem ew_or {rest : List Expr} (ha : ET cs X a ga) (hb : EPW cs X (.BoolOp .Or (b :: rest) pos) gb) : EPW cs X (.BoolOp .Or (a :: b :: rest) pos) (orT ga gb) := ⟨pw_imp (pw_or ha.h hb.h) fun σ H Q ⟨Z, F, ρ, d, R, ef, q⟩ => by
  unfold orT at ef
  obtain ⟨k, ek, ef⟩ := Option.bind_eq_some_iff.mp ef
  refine ⟨Z, F, ρ, k, R, ek, fun F1 H1 e1 R1 => ?_⟩
  by_cases hk : k = true
  · rw [if_pos hk] at ef ⊢
    cases ef
    exact q F1 H1 e1 R1
  · rw [if_neg hk] at ef ⊢
    exact ⟨Z, F1, ρ, d, R1, ef, fun F2 H2 e2 R2 => q F2 H2 (e1.trans e2) R2⟩⟩
theorem et_not (ha : ET cs X a ga) : ET cs X (.UnaryOp .Not a pos) (notT ga) := ⟨pt_imp (pt_not ha.h) fun σ H Q ⟨Z, F, ρ, d, R, ef, q⟩ => by
  unfold notT at ef
  obtain ⟨k, ek, rfl⟩ := Option.map_eq_some_iff.mp ef
  exact ⟨Z, F, ρ, k, R, ek, fun F1 H1 e1 R1 => q F1 H1 e1 R1⟩⟩
/-- truth -/
def truD : D → Option Bool
  | .none => some false
  | .bool b => some b
  | .int i => some (i != 0)
  | .str x => if x.length ≤ 100000 then some ((x.length : Int) != 0) else none
  | .list xs => some (!xs.isEmpty)
  | .tuple xs => some (!xs.isEmpty)
  | _ => none
theorem Rps.isEmpty {K : PySem.W.Frag} {F : Hp} {vs : List V} {ds : List D} (h : Rps K F vs ds) : vs.isEmpty = ds.isEmpty := by
  cases h <;> rfl
theorem tru_of {K : PySem.W.Frag} {Z F H : Hp} {σ : L2.St} {ρ : Nv} {v : V} {d : D} {k : Bool} (R : Rep K cs Z F H σ ρ) (w : Vw K F σ ρ v d) (h : truD d = some k) : TruV K v H k := by
  have r := R.all w
  cases r with
  | non => cases h; rfl
  | bl b => cases h; rfl
  | int i => cases h; rfl
  | str x =>
    have h : (if x.length ≤ 100000 then some ((x.length : Int) != 0) else none) = some k := h
    split at h
    · rename_i hl
      cases h
      exact ⟨Nat.le_trans hl (by decide), rfl⟩
    · cases h
  | lst s r => cases h; exact .inl ⟨_, s, by rw [r.isEmpty]⟩
  | tup s r => cases h; exact .inr (.inl ⟨_, .inl (.inl s), by rw [r.isEmpty]⟩)
  | dK _ _ => cases h
  | dT _ _ _ => cases h
theorem et_val (h : EW cs X e fa) (he : ∀ whole, isTrue e X.env whole = (do let v ← whole; standAt e.pos; holding [v] (truthy v)) := by intro _; rfl) : ET cs X e (fun ρ => (fa ρ).bind truD) := ⟨pt_imp (pt_truth h.h he) fun σ H Q ⟨Z, F, ρ, k, R, ef, q⟩ => by
  obtain ⟨d, e1, e2⟩ := Option.bind_eq_some_iff.mp ef
  exact ⟨Z, F, ρ, d, R, e1, fun v F' H' e' R' w => ⟨k, tru_of R' w e2, q F' H' e' R'⟩⟩⟩

/-! ### argument lists, displays -/
def cons2 (fa : Nv → Option D) (fr : Nv → Option (List D)) : Nv → Option (List D) := fun ρ => (fa ρ).bind fun x => (fr ρ).map (x :: ·)
theorem ep_nil : EPs cs X [] (fun _ => some []) := ⟨pa_imp pa_nil fun σ H Q ⟨Z, F, ρ, d, R, ef, q⟩ => by
  cases ef
  exact q [] F H (Ext.refl F) R .nil⟩
theorem ep_cons {fr : Nv → Option (List D)} (ha : EP' cs X e fa) (hr : EPs cs X es fr) (hs : starEach (e :: es) X.env = (false, eval e X.env) :: starEach es X.env := by rfl) : EPs cs X (e :: es) (cons2 fa fr) := ⟨pa_imp (pa_cons ha.h hr.h hs) fun σ H Q ⟨Z, F, ρ, d, R, ef, q⟩ => by
  unfold cons2 at ef
  obtain ⟨x, ea, ef⟩ := Option.bind_eq_some_iff.mp ef
  obtain ⟨xs, er, rfl⟩ := Option.map_eq_some_iff.mp ef
  exact ⟨Z, F, ρ, x, R, ea, fun v F1 H1 e1 R1 r1 => ⟨Z, F1, ρ, xs, R1, er, fun vs F2 H2 e2 R2 r2 => q _ F2 H2 (e1.trans e2) R2 (.cons (r1.ext e2) r2)⟩⟩⟩
theorem ewa_nil : EWs cs X [] (fun _ => some []) := ⟨pa_imp pa_nil fun σ H Q ⟨Z, F, ρ, d, R, ef, q⟩ => by
  cases ef
  exact q [] F H (Ext.refl F) R .nil⟩
theorem ewa_cons {fr : Nv → Option (List D)} (ha : EW cs X e fa) (hr : EWs cs X es fr) (hs : starEach (e :: es) X.env = (false, eval e X.env) :: starEach es X.env := by rfl) : EWs cs X (e :: es) (cons2 fa fr) := ⟨pa_imp (pa_cons ha.h hr.h hs) fun σ H Q ⟨Z, F, ρ, d, R, ef, q⟩ => by
  unfold cons2 at ef
  obtain ⟨x, ea, ef⟩ := Option.bind_eq_some_iff.mp ef
  obtain ⟨xs, er, rfl⟩ := Option.map_eq_some_iff.mp ef
  exact ⟨Z, F, ρ, x, R, ea, fun v F1 H1 e1 R1 r1 => ⟨Z, F1, ρ, xs, R1, er, fun vs F2 H2 e2 R2 r2 => q _ F2 H2 (e1.trans e2) R2 (.cons (r1.ext e2) r2)⟩⟩⟩
def mkT (fr : Nv → Option (List D)) : Nv → Option D := fun ρ => (fr ρ).bind fun xs => if xs.length ≤ 100000 then some (.tuple xs) else none
def mkL (fr : Nv → Option (List D)) : Nv → Option D := fun ρ => (fr ρ).bind fun xs => if xs.length ≤ 100000 then some (.list xs) else none
theorem e_tup {k : Nat} {fr : Nv → Option (List D)} (h : EPs cs X es fr) : EP' cs X (.Tuple es k pos) (mkT fr) := ⟨pe_imp (pe_tup h.h) fun σ H Q ⟨Z, F, ρ, d, R, ef, q⟩ => by
  obtain ⟨xs, er, ef⟩ := Option.bind_eq_some_iff.mp ef
  split at ef
  · rename_i hl
    cases ef
    refine ⟨Z, F, ρ, xs, R, er, fun vs F1 H1 e1 R1 r1 => ⟨?_, fun p hp => ?_⟩⟩
    · rw [r1.len]
      exact Nat.le_trans hl (by decide)
    · obtain ⟨R2, e2, _⟩ := R1.new (o := .tup vs) hp
      exact q _ _ _ (e1.trans e2) R2 (.tup upd_same (r1.ext e2))
  · cases ef⟩
theorem e_lst {fr : Nv → Option (List D)} (h : EPs cs X es fr) : EN cs X (.List es pos) (mkL fr) := ⟨pe_imp (pe_lst h.h) fun σ H Q ⟨Z, F, ρ, d, R, ef, q⟩ => by
  obtain ⟨xs, er, ef⟩ := Option.bind_eq_some_iff.mp ef
  split at ef
  · rename_i hl
    cases ef
    refine ⟨Z, F, ρ, xs, R, er, fun vs F1 H1 e1 R1 r1 => ⟨?_, fun p hp => ?_⟩⟩
    · rw [r1.len]
      exact Nat.le_trans hl (by decide)
    · obtain ⟨R2, fp, zp, mp⟩ := R1.made (o := .lst vs) hp
      exact q _ _ _ e1 R2 fp zp mp ⟨vs, upd_same, r1⟩
  · cases ef⟩

/-! ### items, slices -/
def ixD : D → D → Option D
  | .list xs, .int i => atI xs i
  | .tuple xs, .int i => atI xs i
  | .str z, .int i => if z.length ≤ 100000 then (atI z.cps.toList i).map fun c => .str ⟨#[c]⟩ else none
  | _, _ => none
theorem atI_rp {K : PySem.W.Frag} {F : Hp} {vs : List V} {ds : List D} {i : Int} {d : D} (h : Rps K F vs ds) (e : atI ds i = some d) : ∃ v, atI vs i = some v ∧ Rp K F v d := by
  unfold atI at e ⊢
  rw [h.len]
  obtain ⟨j, e1, e2⟩ := Option.bind_eq_some_iff.mp e
  obtain ⟨v, e3, r⟩ := h.get e2
  exact ⟨v, by rw [e1]; exact e3, r⟩
theorem ox_ix : IxR X (rD X.K cs ixD) := by
  rintro value slice pins s σ H v u a b Q I rx ry ⟨Z, F, σ', ρ, x, y, d, R, w1, w2, e, q⟩ hs
  unfold ixD at e
  split at e
  · cases R.vint w2
    obtain ⟨a1, vs, rfl, s1, r1⟩ := R.lst w1
    obtain ⟨w, e2, r2⟩ := atI_rp r1 e
    exact ix_list value slice pins s σ H _ _ a b Q I rx ry ⟨a1, vs, _, w, rfl, rfl, s1, e2, q w F H (Ext.refl F) R r2⟩ hs
  · cases R.vint w2
    obtain ⟨a1, vs, rfl, _, s1, r1⟩ := R.tup w1
    obtain ⟨w, e2, r2⟩ := atI_rp r1 e
    exact ix_tup value slice pins s σ H _ _ a b Q I rx ry ⟨a1, vs, _, w, rfl, rfl, s1, e2, q w F H (Ext.refl F) R r2⟩ hs
  · cases R.vint w2
    cases R.vstr w1
    split at e
    · rename_i hl
      obtain ⟨c, e2, rfl⟩ := Option.map_eq_some_iff.mp e
      exact ix_str value slice pins s σ H _ _ a b Q I rx ry ⟨_, _, c, rfl, rfl, Nat.le_trans hl (by decide), e2, q _ F H (Ext.refl F) R (.str _)⟩ hs
    · cases e
  · cases e
theorem e_ix (ha : EW cs X a fa) (hb : EW cs X b fb) (hs : PlainIx b) : EP' cs X (.Subscript a b pos) (op2 ixD fa fb) := ⟨pe_imp (pe_ix ox_ix ha.h hb.h hs) t_opD⟩
/-- a bound of a slice -/
structure EO (cs : List Tb) (X : Cx) (e : Option Expr) (f : Nv → Option (Option Int)) : Prop where
  h : PO X e (fun σ H Q => ∃ Z F ρ o, Rep X.K cs Z F H σ ρ ∧ f ρ = some o ∧ ∀ F' H', Ext F F' → Rep X.K cs Z F' H' σ ρ → Q o H')
def asI : D → Option Int
  | .int i => some i
  | _ => none
theorem po_imp {o : Option Expr} {t t' : TO} (h : PO X o t) (i : ∀ σ H Q, t' σ H Q → t σ H Q) : PO X o t' := ⟨fun pins s σ H Q I q => h.run pins s σ H Q I (i σ H Q q)⟩
theorem eo_none : EO cs X none (fun _ => some none) := ⟨po_imp po_none fun σ H Q ⟨Z, F, ρ, o, R, ef, q⟩ => by
  cases ef
  exact q F H (Ext.refl F) R⟩
theorem eo_some (h : EP' cs X a fa) : EO cs X (some a) (fun ρ => (fa ρ).bind fun x => (asI x).map some) := ⟨po_imp (po_some h.h) fun σ H Q ⟨Z, F, ρ, o, R, ef, q⟩ => by
  obtain ⟨x, ea, ef⟩ := Option.bind_eq_some_iff.mp ef
  obtain ⟨i, ei, rfl⟩ := Option.map_eq_some_iff.mp ef
  have hx : x = .int i := by
    cases x <;> simp [asI] at ei
    rw [ei]
  subst hx
  refine ⟨Z, F, ρ, _, R, ea, fun v F1 H1 e1 R1 r1 => ?_⟩
  cases r1
  exact ⟨i, rfl, q F1 H1 e1 R1⟩⟩
def cutD (xs : List D) (lo hi : Option Int) : List D := (xs.drop (HT.sIx xs.length 0 lo)).take (HT.sIx xs.length xs.length hi - HT.sIx xs.length 0 lo)
theorem cut_rp {K : PySem.W.Frag} {F : Hp} {vs : List V} {ds : List D} (h : Rps K F vs ds) (lo hi : Option Int) : Rps K F (cutV vs lo hi) (cutD ds lo hi) := by
  unfold cutV cutD
  rw [h.len]
  exact (h.drop _).take _
/-- a slice of a list: a new one -/
def slL (fa : Nv → Option D) (fl fh : Nv → Option (Option Int)) : Nv → Option D := fun ρ => (fa ρ).bind fun x => (fl ρ).bind fun lo => (fh ρ).bind fun hi => match x with
  | .list xs => some (.list (cutD xs lo hi))
  | _ => none
theorem e_slL {lo hi : Option Expr} {p2 : Pos} {fl fh : Nv → Option (Option Int)} (ha : EW cs X a fa) (hl : EO cs X lo fl) (hh : EO cs X hi fh) : EN cs X (.Subscript a (.Slice lo hi none p2) pos) (slL fa fl fh) := ⟨pe_imp (pe_slice sl_list ha.h hl.h hh.h) fun σ H Q ⟨Z, F, ρ, d, R, ef, q⟩ => by
  unfold slL at ef
  obtain ⟨x, ea, ef⟩ := Option.bind_eq_some_iff.mp ef
  obtain ⟨l, el, ef⟩ := Option.bind_eq_some_iff.mp ef
  obtain ⟨h, eh, ef⟩ := Option.bind_eq_some_iff.mp ef
  split at ef
  · cases ef
    refine ⟨Z, F, ρ, _, R, ea, fun v F1 H1 e1 R1 w1 => ⟨Z, F1, ρ, l, R1, el, fun F2 H2 e2 R2 => ⟨Z, F2, ρ, h, R2, eh, fun F3 H3 e3 R3 => ?_⟩⟩⟩
    obtain ⟨a1, vs, rfl, s1, r1⟩ := R3.lst ((w1.ext e2).ext e3)
    refine ⟨a1, vs, rfl, s1, fun p hp => ?_⟩
    obtain ⟨R4, fp, zp, mp⟩ := R3.made (o := .lst (cutV vs l h)) hp
    exact q _ _ _ ((e1.trans e2).trans e3) R4 fp zp mp ⟨_, upd_same, cut_rp r1 l h⟩
  · cases ef⟩
/-- a slice of a text, of a tuple -/
def rSD (K : PySem.W.Frag) : V → Option Int → Option Int → Hp → VK → Prop := fun x lo hi H Q => rSlS x lo hi H Q ∨ rSlA K x lo hi H Q
def slS (fa : Nv → Option D) (fl fh : Nv → Option (Option Int)) : Nv → Option D := fun ρ => (fa ρ).bind fun x => (fl ρ).bind fun lo => (fh ρ).bind fun hi => match x with
  | .str z => if z.length ≤ 100000 then some (.str (cutS z lo hi)) else none
  | .tuple xs => some (.tuple (cutD xs lo hi))
  | _ => none
theorem cut_whole {xs : List V} {lo hi : Option Int} (h : HT.sIx xs.length 0 lo = 0 ∧ HT.sIx xs.length xs.length hi = xs.length) : cutV xs lo hi = xs := by
  unfold cutV
  rw [h.1, h.2, List.drop_zero, Nat.sub_zero, List.take_length]
theorem e_slS {lo hi : Option Expr} {p2 : Pos} {fl fh : Nv → Option (Option Int)} (ha : EW cs X a fa) (hl : EO cs X lo fl) (hh : EO cs X hi fh) : EP' cs X (.Subscript a (.Slice lo hi none p2) pos) (slS fa fl fh) := ⟨pe_imp (pe_slice (SlR.or sl_str sl_tupA) ha.h hl.h hh.h) fun σ H Q ⟨Z, F, ρ, d, R, ef, q⟩ => by
  unfold slS at ef
  obtain ⟨x, ea, ef⟩ := Option.bind_eq_some_iff.mp ef
  obtain ⟨l, el, ef⟩ := Option.bind_eq_some_iff.mp ef
  obtain ⟨h, eh, ef⟩ := Option.bind_eq_some_iff.mp ef
  refine ⟨Z, F, ρ, x, R, ea, fun v F1 H1 e1 R1 w1 => ⟨Z, F1, ρ, l, R1, el, fun F2 H2 e2 R2 => ⟨Z, F2, ρ, h, R2, eh, fun F3 H3 e3 R3 => ?_⟩⟩⟩
  have e13 := (e1.trans e2).trans e3
  have w3 := (w1.ext e2).ext e3
  split at ef
  · split at ef
    · rename_i hl
      cases ef
      cases R3.vstr w3
      exact .inl ⟨_, rfl, Nat.le_trans hl (by decide), q _ F3 H3 e13 R3 (.str _)⟩
    · cases ef
  · cases ef
    obtain ⟨a1, vs, rfl, s0, s1, r1⟩ := R3.tup w3
    refine .inr ⟨a1, vs, rfl, s1, fun hw => ?_, fun hw p hp => ?_⟩
    · have ec := cut_rp r1 l h
      rw [cut_whole hw] at ec
      exact q _ F3 H3 e13 R3 (.tup s0 ec)
    · obtain ⟨R4, e4, _⟩ := R3.new (o := .tup (cutV vs l h)) hp
      exact q _ _ _ (e13.trans e4) R4 (.tup upd_same ((cut_rp r1 l h).ext e4))
  · cases ef⟩
end
end DS

namespace DS
open PySem L2

/-! ## calls of what is built in -/
def rDs (K : PySem.W.Frag) (cs : List Tb) (g : List D → Option D) : List V → Hp → VK → Prop := fun vs H Q => ∃ Z F σ ρ ds d, Rep K cs Z F H σ ρ ∧ Vws K F σ ρ vs ds ∧ g ds = some d ∧ ∀ w F' H', Ext F F' → Rep K cs Z F' H' σ ρ → Rp K F' w d → Q w H'
def rNs (K : PySem.W.Frag) (cs : List Tb) (g : List D → Option D) : List V → Hp → VK → Prop := fun vs H Q => ∃ Z F σ ρ ds d, Rep K cs Z F H σ ρ ∧ Vws K F σ ρ vs ds ∧ g ds = some d ∧
  ∀ p F' H', Ext F F' → Rep K cs Z F' H' σ ρ → F' p = none → Z p = none → ¬ Mine σ ρ p → Own K F' H' p d → Q (.ref p) H'
def callD (g : List D → Option D) (fr : Nv → Option (List D)) : Nv → Option D := fun ρ => (fr ρ).bind g
section
variable {cs : List Tb} {X : Cx} {a b c e o : Expr} {es : List Expr} {pos p apos : Pos} {fa fb : Nv → Option D} {fr : Nv → Option (List D)} {g : List D → Option D} {x : Str} {id T : String}
theorem t_callD {K : PySem.W.Frag} : ∀ σ H Q, tP K cs (callD g fr) σ H Q → tCB (rDs K cs g) (tWA K cs fr) σ H Q := fun σ H Q ⟨Z, F, ρ, d, R, ef, q⟩ => by
  obtain ⟨ds, e1, e2⟩ := Option.bind_eq_some_iff.mp ef
  exact ⟨Z, F, ρ, ds, R, e1, fun vs F1 H1 x1 R1 w1 => ⟨Z, F1, σ, ρ, ds, d, R1, w1, e2, fun w F2 H2 x2 R2 r2 => q w F2 H2 (x1.trans x2) R2 r2⟩⟩
theorem t_callN {K : PySem.W.Frag} : ∀ σ H Q, tN K cs (callD g fr) σ H Q → tCB (rNs K cs g) (tWA K cs fr) σ H Q := fun σ H Q ⟨Z, F, ρ, d, R, ef, q⟩ => by
  obtain ⟨ds, e1, e2⟩ := Option.bind_eq_some_iff.mp ef
  exact ⟨Z, F, ρ, ds, R, e1, fun vs F1 H1 x1 R1 w1 => ⟨Z, F1, σ, ρ, ds, d, R1, w1, e2, fun w F2 H2 x2 R2 => q w F2 H2 (x1.trans x2) R2⟩⟩
theorem e_callB (hc : CallR X (.builtin id) (rDs X.K cs g)) (hg : Gl X x) (hm : X.mg x = none) (hv : bootBuiltins x = some (.builtin id)) (ha : EWs cs X (e :: es) fr) (hn : x ≠ "__name__" := by decide) (hdb : (x == ("__debug__" : Str)) = false := by decide)
    (he : starEach (e :: es) X.env = (false, eval e X.env) :: starEach es X.env := by rfl) (hpl : (backTo pos (starEach es X.env)).any (·.1) = false := by rfl) : EP' cs X (.Call (.Name x p) (e :: es) [] pos) (callD g fr) :=
  ⟨pe_imp (pe_callB hc hg hm hv ha.h hn hdb he hpl) t_callD⟩
theorem e_callT (hc : CallR X (.type T) (rDs X.K cs g)) (hg : Gl X x) (hm : X.mg x = none) (hv : bootBuiltins x = some (.type T)) (ha : EWs cs X (e :: es) fr) (hn : x ≠ "__name__" := by decide) (hdb : (x == ("__debug__" : Str)) = false := by decide)
    (he : starEach (e :: es) X.env = (false, eval e X.env) :: starEach es X.env := by rfl) (hpl : (backTo pos (starEach es X.env)).any (·.1) = false := by rfl) : EP' cs X (.Call (.Name x p) (e :: es) [] pos) (callD g fr) :=
  ⟨pe_imp (pe_callTy hc hg hm hv ha.h hn hdb he hpl) t_callD⟩
theorem e_callTN (hc : CallR X (.type T) (rNs X.K cs g)) (hg : Gl X x) (hm : X.mg x = none) (hv : bootBuiltins x = some (.type T)) (ha : EWs cs X (e :: es) fr) (hn : x ≠ "__name__" := by decide) (hdb : (x == ("__debug__" : Str)) = false := by decide)
    (he : starEach (e :: es) X.env = (false, eval e X.env) :: starEach es X.env := by rfl) (hpl : (backTo pos (starEach es X.env)).any (·.1) = false := by rfl) : EN cs X (.Call (.Name x p) (e :: es) [] pos) (callD g fr) :=
  ⟨pe_imp (pe_callTy hc hg hm hv ha.h hn hdb he hpl) t_callN⟩
def lenD : List D → Option D
  | [.str x] => if x.length ≤ 100000 then some (.int x.length) else none
  | [.list xs] => some (.int xs.length)
  | [.tuple xs] => some (.int xs.length)
  | _ => none
theorem vws1 {K : PySem.W.Frag} {F : Hp} {σ : L2.St} {ρ : Nv} {vs : List V} {d : D} (h : Vws K F σ ρ vs [d]) : ∃ v, vs = [v] ∧ Vw K F σ ρ v d := by
  cases h with
  | cons a b =>
    cases b
    exact ⟨_, rfl, a⟩
theorem vws2 {K : PySem.W.Frag} {F : Hp} {σ : L2.St} {ρ : Nv} {vs : List V} {d e : D} (h : Vws K F σ ρ vs [d, e]) : ∃ v u, vs = [v, u] ∧ Vw K F σ ρ v d ∧ Vw K F σ ρ u e := by
  cases h with
  | cons a b =>
    obtain ⟨u, rfl, w⟩ := vws1 b
    exact ⟨_, u, rfl, a, w⟩
theorem cd_len : CallR X (.builtin "len") (rDs X.K cs lenD) := by
  rintro pins s σ H xs us Q I r ⟨Z, F, σ', ρ, ds, d, R, w, e, q⟩
  unfold lenD at e
  split at e
  · split at e
    · rename_i hl
      cases e
      obtain ⟨v, rfl, w1⟩ := vws1 w
      cases R.vstr w1
      exact call_len pins s σ H _ us Q I r ⟨_, _, rfl, ⟨Nat.le_trans hl (by decide), rfl⟩, q _ F H (Ext.refl F) R (.int _)⟩
    · cases e
  · cases e
    obtain ⟨v, rfl, w1⟩ := vws1 w
    obtain ⟨a, vs, rfl, s1, r1⟩ := R.lst w1
    exact call_len pins s σ H _ us Q I r ⟨_, _, rfl, .inl ⟨_, s1, r1.len.symm⟩, q _ F H (Ext.refl F) R (.int _)⟩
  · cases e
    obtain ⟨v, rfl, w1⟩ := vws1 w
    obtain ⟨a, vs, rfl, _, s1, r1⟩ := R.tup w1
    exact call_len pins s σ H _ us Q I r ⟨_, _, rfl, .inr ⟨_, s1, r1.len.symm⟩, q _ F H (Ext.refl F) R (.int _)⟩
  · cases e
def ordD : List D → Option D
  | [.str x] => if x.length = 1 then some (.int (x.cps.getD 0 0 : Nat)) else none
  | _ => none
theorem cd_ord : CallR X (.builtin "ord") (rDs X.K cs ordD) := by
  rintro pins s σ H xs us Q I r ⟨Z, F, σ', ρ, ds, d, R, w, e, q⟩
  unfold ordD at e
  split at e
  · split at e
    · rename_i hl
      cases e
      obtain ⟨v, rfl, w1⟩ := vws1 w
      cases R.vstr w1
      exact call_ord pins s σ H _ us Q I r ⟨_, rfl, hl, q _ F H (Ext.refl F) R (.int _)⟩
    · cases e
  · cases e
def seqD : D → Option (List D)
  | .list xs => some xs
  | .tuple xs => some xs
  | _ => none
def listD : List D → Option D
  | [.list xs] => some (.list xs)
  | [.tuple xs] => some (.list xs)
  | _ => none
theorem cn_list : CallR X (.type "list") (rNs X.K cs listD) := by
  rintro pins s σ H xs us Q I r ⟨Z, F, σ', ρ, ds, d, R, w, e, q⟩
  unfold listD at e
  split at e
  · cases e
    obtain ⟨v, rfl, w1⟩ := vws1 w
    obtain ⟨a, vs, rfl, s1, r1⟩ := R.lst w1
    refine call_list_of pins s σ H _ us Q I r ⟨a, vs, rfl, .inl s1, fun l hl => ?_⟩
    obtain ⟨R4, fp, zp, mp⟩ := R.made (o := .lst vs) hl
    exact q l F _ (Ext.refl F) R4 fp zp mp ⟨vs, upd_same, r1⟩
  · cases e
    obtain ⟨v, rfl, w1⟩ := vws1 w
    obtain ⟨a, vs, rfl, _, s1, r1⟩ := R.tup w1
    refine call_list_of pins s σ H _ us Q I r ⟨a, vs, rfl, .inr s1, fun l hl => ?_⟩
    obtain ⟨R4, fp, zp, mp⟩ := R.made (o := .lst vs) hl
    exact q l F _ (Ext.refl F) R4 fp zp mp ⟨vs, upd_same, r1⟩
  · cases e
def tupD : List D → Option D
  | [.list xs] => some (.tuple xs)
  | [.tuple xs] => some (.tuple xs)
  | _ => none
theorem cd_tuple : CallR X (.type "tuple") (rDs X.K cs tupD) := by
  rintro pins s σ H xs us Q I r ⟨Z, F, σ', ρ, ds, d, R, w, e, q⟩
  unfold tupD at e
  split at e
  · cases e
    obtain ⟨v, rfl, w1⟩ := vws1 w
    obtain ⟨a, vs, rfl, s1, r1⟩ := R.lst w1
    refine call_tuple_of pins s σ H _ us Q I r ⟨a, vs, rfl, .inl ⟨s1, fun l hl => ?_⟩⟩
    obtain ⟨R4, e4, _⟩ := R.new (o := .tup vs) hl
    exact q _ _ _ e4 R4 (.tup upd_same (r1.ext e4))
  · cases e
    obtain ⟨v, rfl, w1⟩ := vws1 w
    obtain ⟨a, vs, rfl, s0, s1, r1⟩ := R.tup w1
    exact call_tuple_of pins s σ H _ us Q I r ⟨a, vs, rfl, .inr ⟨s1, q _ F H (Ext.refl F) R (.tup s0 r1)⟩⟩
  · cases e

/-! ### isinstance -/
def tyD : D → String
  | .none => "NoneType"
  | .bool _ => "bool"
  | .int _ => "int"
  | .str _ => "str"
  | .list _ => "list"
  | .tuple _ => "tuple"
  | .dict _ => "dict"
theorem tyx_of {K : PySem.W.Frag} {H : Hp} {v : V} {d : D} (h : Rp K H v d) : TyX K H v (.type (tyD d)) := by
  cases h with
  | non => exact .base .non
  | bl b => exact .base (.bl b)
  | int i => exact .base (.int i)
  | str x => exact .base (.str x)
  | lst s r =>
    rcases s with (s | ⟨o, s⟩) | ⟨o, its, n, h1, h2, _⟩
    · exact .base (.lst s)
    · exact .base (.frz s)
    · exact .kList h1 h2
  | tup s r => exact .base (.tup s)
  | dK s _ =>
    rcases s with s | ⟨o, s⟩
    · exact .base (.dK s)
    · exact .fDict s
  | dT s _ _ => exact .base (.dT s)
/-- isinstance(x, T): by x's kind -/
def isiB (T : String) (d : D) : Bool := match d with
  | .none => T == "NoneType"
  | .bool _ => T == "bool" || T == "int"
  | .int _ => T == "int"
  | .str _ => T == "str"
  | .list _ => T == "list"
  | .tuple _ => T == "tuple"
  | .dict _ => T == "dict"
/-- the kinds that are asked for -/
def IsiT (T : String) : Prop := ∀ d, kitB (tyD d) T = some (isiB T d)
theorem isi_str : IsiT "str" := fun d => by cases d <;> (simp only [tyD, isiB]; decide +kernel)
theorem isi_int : IsiT "int" := fun d => by cases d <;> (simp only [tyD, isiB]; decide +kernel)
theorem isi_bool : IsiT "bool" := fun d => by cases d <;> (simp only [tyD, isiB]; decide +kernel)
theorem isi_list : IsiT "list" := fun d => by cases d <;> (simp only [tyD, isiB]; decide +kernel)
theorem isi_tuple : IsiT "tuple" := fun d => by cases d <;> (simp only [tyD, isiB]; decide +kernel)
theorem isi_dict : IsiT "dict" := fun d => by cases d <;> (simp only [tyD, isiB]; decide +kernel)
theorem e_isi (hT : IsiT T) (hg : Gl X "isinstance") (hm : X.mg "isinstance" = none) (ha : EW cs X e fa) (hgT : Gl X x) (hmT : X.mg x = none) (hvT : bootBuiltins x = some (.type T)) (hn : x ≠ "__name__" := by decide) (hdb : (x == ("__debug__" : Str)) = false := by decide)
    (hs : starEach [e, .Name x p] X.env = (false, eval e X.env) :: starEach [.Name x p] X.env := by rfl) (hs2 : starEach [.Name x p] X.env = (false, eval (.Name x p) X.env) :: starEach [] X.env := by rfl)
    (hpl : (backTo pos (starEach [.Name x p] X.env)).any (·.1) = false := by rfl) :
    EP' cs X (.Call (.Name "isinstance" apos) [e, .Name x p] [] pos) (fun ρ => (fa ρ).map fun d => .bool (isiB T d)) :=
  ⟨pe_imp (pe_callB call_isi hg hm PyProof.Rows.boot_isinstance (pa_cons ha.h (pa_cons (pe_bltn (v := .ty T) hgT hmT hvT rfl hn hdb) pa_nil hs2) hs) (by decide) (by decide) hs hpl) fun σ H Q ⟨Z, F, ρ, d, R, ef, q⟩ => by
    obtain ⟨x', ea, rfl⟩ := Option.map_eq_some_iff.mp ef
    exact ⟨Z, F, ρ, x', R, ea, fun v F1 H1 e1 R1 w1 => ⟨v, .ty T, _, _, _, rfl, .ty T, tyx_of (R1.all w1), kit_ty (hT x'), q _ F1 H1 e1 R1 (.bl _)⟩⟩⟩

/-! ### methods of texts -/
def lowerD : D → Option D
  | .str a => if a.length ≤ 100000 then some (.str (Txt.lower a)) else none
  | _ => none
theorem e_lower (ho : EW cs X o fa) (hbase : attributeBase o "lower" X.env (eval o X.env) = eval o X.env := by rfl) (hline : (apos.endLine == pos.line) = true := by rfl) : EP' cs X (.Call (.Attribute o "lower" apos) [] [] pos) (fun ρ => (fa ρ).bind lowerD) :=
  ⟨pe_imp (pe_lower ho.h hbase hline) fun σ H Q ⟨Z, F, ρ, d, R, ef, q⟩ => by
    obtain ⟨x, ea, e2⟩ := Option.bind_eq_some_iff.mp ef
    refine ⟨Z, F, ρ, x, R, ea, fun v F1 H1 e1 R1 w1 => ?_⟩
    unfold lowerD at e2
    split at e2
    · split at e2
      · rename_i hl
        cases e2
        cases R1.vstr w1
        exact ⟨⟨_, rfl⟩, _, rfl, rfl, Nat.le_trans hl (by decide), q _ F1 H1 e1 R1 (.str _)⟩
      · cases e2
    · cases e2⟩
def strsD : List D → Option (List Str)
  | [] => some []
  | .str x :: r => (strsD r).map (x :: ·)
  | _ => none
theorem strs_rp {K : PySem.W.Frag} {F : Hp} : ∀ {ds : List D} {ys : List Str} {vs : List V}, strsD ds = some ys → Rps K F vs ds → vs = ys.map V.str
  | [], ys, vs, e, r => by
    cases e
    cases r
    rfl
  | d :: ds, ys, vs, e, r => by
    cases r with
    | cons a b =>
      cases a with
      | str x =>
        obtain ⟨zs, e2, rfl⟩ := Option.map_eq_some_iff.mp e
        rw [strs_rp e2 b]
        rfl
      | _ => cases e
/-- sep.join(xs) -/
def joinD (x y : D) : Option D := match x with
  | .str a => (seqD y).bind fun ds => (strsD ds).bind fun ys => if (ys.map (·.length)).sum + ys.length * a.length ≤ 100000 then some (.str (Txt.join a ys)) else none
  | _ => none
theorem e_join (ho : EW cs X o fa) (he : EW cs X e fb) (hs : starEach [e] X.env = [(false, eval e X.env)] := by rfl) (hbase : attributeBase o "join" X.env (eval o X.env) = eval o X.env := by rfl) (hline : (apos.endLine == pos.line) = true := by rfl) :
    EP' cs X (.Call (.Attribute o "join" apos) [e] [] pos) (op2 joinD fa fb) :=
  ⟨pe_imp (pe_join ho.h he.h hs hbase hline) fun σ H Q ⟨Z, F, ρ, d, R, ef, q⟩ => by
    unfold op2 at ef
    obtain ⟨x, ea, ef⟩ := Option.bind_eq_some_iff.mp ef
    obtain ⟨y, eb, ef⟩ := Option.bind_eq_some_iff.mp ef
    unfold joinD at ef
    split at ef
    · obtain ⟨ds, e2, ef⟩ := Option.bind_eq_some_iff.mp ef
      obtain ⟨ys, e3, ef⟩ := Option.bind_eq_some_iff.mp ef
      split at ef
      · rename_i hl
        cases ef
        refine ⟨Z, F, ρ, _, R, ea, fun v F1 H1 e1 R1 w1 => ?_⟩
        cases R1.vstr w1
        refine ⟨⟨_, rfl⟩, Z, F1, ρ, y, R1, eb, fun u F2 H2 e4 R2 w2 => ?_⟩
        unfold seqD at e2
        split at e2
        · cases e2
          obtain ⟨p, vs, rfl, s1, r1⟩ := R2.lst w2
          rw [strs_rp e3 r1] at s1
          exact ⟨_, p, ys, rfl, rfl, .inl s1, Nat.le_trans hl (by decide), q _ F2 H2 (e1.trans e4) R2 (.str _)⟩
        · cases e2
          obtain ⟨p, vs, rfl, _, s1, r1⟩ := R2.tup w2
          rw [strs_rp e3 r1] at s1
          exact ⟨_, p, ys, rfl, rfl, .inr s1, Nat.le_trans hl (by decide), q _ F2 H2 (e1.trans e4) R2 (.str _)⟩
        · cases e2
      · cases ef
    · cases ef⟩
end

/-! ## defs -/
/-- how an argument is handed on: to be read; to be changed and given back; for good -/
inductive Md where
  | ro
  | io
  | mv
/-- what a def comes to: a value (a new list or dict of nobody's, or shared data) and what is given back; or an exception of the class at c -/
inductive Ou where
  | ret (d : D) (own : Bool) (outs : List D)
  | exc (c : Value)
def argC : Md → V → D → Option Cell
  | .ro, _, d => some (.sh d)
  | .io, .ref a, d => some (.io a d)
  | .io, _, _ => none
  | .mv, _, d => some (.ow d)
def argNv : List Md → List V → List D → Nv
  | m :: ms, v :: vs, d :: ds => argC m v d :: argNv ms vs ds
  | _, _, _ => []
/-- the arguments behind the call: outs in the order of the lent ones -/
def outNv : List Md → List V → List D → Nv
  | .io :: ms, .ref a :: vs, d :: ds => some (.io a d) :: outNv ms vs ds
  | _ :: ms, _ :: vs, ds => none :: outNv ms vs ds
  | _, _, _ => []
def ResV (K : PySem.W.Frag) (Z F H : Hp) (σ : L2.St) (ρ : Nv) (v : V) (d : D) (own : Bool) : Prop :=
  if own = true then ∃ p, v = .ref p ∧ F p = none ∧ Z p = none ∧ ¬ Mine σ ρ p ∧ Own K F H p d else Rp K F v d
def ioOk : List Md → List V → Bool
  | .io :: ms, .ref _ :: vs => ioOk ms vs
  | .io :: _, _ => false
  | _ :: ms, _ :: vs => ioOk ms vs
  | _, _ => true
def spD (K : PySem.W.Frag) (cs : List Tb) (ms : List Md) (sem : List D → Option Ou) : Sp := fun vs H Q E => ∃ Z F ds o, vs.length = ms.length ∧ ds.length = ms.length ∧ ioOk ms vs = true ∧ Rep K cs Z F H (vs.map some) (argNv ms vs ds) ∧ sem ds = some o ∧
  match o with
  | .ret d own outs => ∀ v F' H', Ext F F' → Rep K cs Z F' H' (vs.map some) (outNv ms vs outs) → ResV K Z F' H' (vs.map some) (outNv ms vs outs) v d own → Q v H'
  | .exc c => ∀ F' H', Ext F F' → Rep K cs Z F' H' [] [] → E c none H'
end DS

namespace DS
open PySem L2
/-- what is not read by all is others' -/
noncomputable def oth (F H : Hp) : Hp := fun a => match F a with
  | some _ => none
  | none => match H a with
    | some (.tbl _) => none
    | o => o
theorem oth_of {F H : Hp} {a : Addr} {o : HO} (h : F a = none) (e : H a = some o) (nt : ∀ ps, o ≠ .tbl ps) : oth F H a = some o := by
  unfold oth
  rw [h]
  dsimp only
  rw [e]
  split
  · rename_i ps z
    exact (nt ps (Option.some.inj z)).elim
  · rfl
theorem of_oth {F H : Hp} {a : Addr} {o : HO} (h : oth F H a = some o) : H a = some o ∧ F a = none := by
  unfold oth at h
  split at h
  · cases h
  · split at h
    · cases h
    · exact ⟨h, by assumption⟩
theorem oth_nt {F H : Hp} (a : Addr) (ps : Array Value) : oth F H a ≠ some (.tbl ps) := by
  intro h
  unfold oth at h
  split at h
  · cases h
  · split at h
    · cases h
    · rename_i hn
      exact hn ps h
open Classical
section
variable {K : PySem.W.Frag} {cs : List Tb} {Z F H F' H' : Hp} {σ σ' : L2.St} {ρ ρ' : Nv} {vs : List V} {ds : List D}
theorem shs_get {ds : List D} {i : Nat} {c : Cell} (h : (ds.map fun d => some (Cell.sh d))[i]? = some (some c)) : ∃ d, ds[i]? = some d ∧ c = .sh d := by
  rw [List.getElem?_map] at h
  obtain ⟨d, h1, h2⟩ := Option.map_eq_some_iff.mp h
  cases h2
  exact ⟨d, h1, rfl⟩
/-- a frame that owns nothing and reads ds -/
theorem rep_sh (hl : vs.length = ds.length) (fh : ∀ a o, F a = some o → H a = some o) (zh : ∀ a o, Z a = some o → H a = some o ∧ F a = none) (r : Rps K F vs ds) (tab : (∀ a ps, Z a ≠ some (.tbl ps) ∧ F a ≠ some (.tbl ps)) ∧ ∀ t ∈ cs, TabIn F H t) (tp : TpIn F H) :
    Rep K cs Z F H (vs.map some) (ds.map fun d => some (.sh d)) := by
  refine ⟨by rw [List.length_map, List.length_map]; exact hl, fh, zh, fun i c h1 h2 => ?_, fun i d h1 => ?_, fun i j c e a h1 h2 _ _ _ _ => ?_, fun i a d h1 => ?_, tab, tp⟩
  · obtain ⟨d, _, rfl⟩ := shs_get h1
    cases h2
  · obtain ⟨d', h2, e⟩ := shs_get h1
    cases e
    obtain ⟨v, h3, r3⟩ := r.get h2
    exact ⟨v, by rw [List.getElem?_map, h3]; rfl, r3⟩
  · obtain ⟨d, _, rfl⟩ := shs_get h1
    cases h2
  · obtain ⟨d', _, e⟩ := shs_get h1
    cases e
theorem Rep.lend (R : Rep K cs Z F H σ ρ) (r : Rps K F vs ds) : Rep K cs (oth F H) F H (vs.map some) (ds.map fun d => some (.sh d)) :=
  rep_sh r.len R.fh (fun _ _ h => of_oth h) r ⟨fun a ps => ⟨oth_nt a ps, (R.tab.1 a ps).2⟩, R.tab.2⟩ R.tp
theorem Rep.znt {a : Addr} {o : HO} (R : Rep K cs Z F H σ ρ) (h : Z a = some o) : ∀ ps, o ≠ .tbl ps := fun ps z => (R.tab.1 a ps).1 (by rw [h, z])
theorem Rep.back (R : Rep K cs Z F H σ ρ) (e : Ext F F') (R' : Rep K cs (oth F H) F' H' σ' ρ') : Rep K cs Z F' H' σ ρ := by
  refine ⟨R.len, R'.fh, fun a o h => ?_, fun i c h1 h2 => ?_, fun i d h1 => ?_, R.inj, R.io, ⟨fun a ps => ⟨(R.tab.1 a ps).1, (R'.tab.1 a ps).2⟩, R'.tab.2⟩, R'.tp⟩
  · obtain ⟨h1, h2⟩ := R.zh a o h
    exact R'.zh a o (oth_of h2 h1 (R.znt h))
  · obtain ⟨a, q1, q2, q3, q4⟩ := R.mine i c h1 h2
    obtain ⟨ob, q5, _⟩ := q4.rp
    obtain ⟨q6, q7⟩ := R'.zh a ob (oth_of q2 q5 (q4.pl q5).1)
    exact ⟨a, q1, q7, q3, q4.ext e (by rw [q6, q5])⟩
  · obtain ⟨v, q1, q2⟩ := R.sh i d h1
    exact ⟨v, q1, q2.ext e⟩
theorem Rep.backN (R : Rep K cs Z F H σ ρ) {p : Addr} (hz : oth F H p = none) : Z p = none ∧ ¬ Mine σ ρ p := by
  refine ⟨?_, fun ⟨i, c, h1, h2, h3⟩ => ?_⟩
  · cases e : Z p with
    | none => rfl
    | some o =>
      obtain ⟨h1, h2⟩ := R.zh p o e
      rw [oth_of h2 h1 (R.znt e)] at hz
      cases hz
  · obtain ⟨a, q1, q2, q3, q4⟩ := R.mine i c h1 h2
    rw [h3] at q1
    cases q1
    obtain ⟨ob, q5, _⟩ := q4.rp
    rw [oth_of q2 q5 (q4.pl q5).1] at hz
    cases hz
/-- what is this frame's own is lent, too -/
noncomputable def plusM (σ : L2.St) (ρ : Nv) (F H : Hp) : Hp := fun a => match F a with
  | some o => some o
  | none => if Mine σ ρ a then H a else none
noncomputable def lessM (σ : L2.St) (ρ : Nv) (F : Hp) : Hp := fun a => if Mine σ ρ a then none else F a
theorem plus_ext : Ext F (plusM σ ρ F H) := fun a o e => by
  unfold plusM
  rw [e]
theorem plus_mine {a : Addr} {o : HO} (hf : F a = none) (hm : Mine σ ρ a) (h : H a = some o) : plusM σ ρ F H a = some o := by
  unfold plusM
  rw [hf]
  show (if _ then _ else _) = _
  rw [if_pos hm]
  exact h
theorem plus_of {a : Addr} {o : HO} (R : Rep K cs Z F H σ ρ) (h : plusM σ ρ F H a = some o) : H a = some o := by
  unfold plusM at h
  split at h
  · rename_i o' e
    cases h
    exact R.fh _ _ e
  · split at h
    · exact h
    · cases h
theorem Rep.mineF (R : Rep K cs Z F H σ ρ) {a : Addr} (hm : Mine σ ρ a) : F a = none ∧ Z a = none ∧ ∃ o, H a = some o := by
  obtain ⟨i, c, h1, h2, h3⟩ := hm
  obtain ⟨b, q1, q2, q3, q4⟩ := R.mine i c h1 h2
  rw [h3] at q1
  cases q1
  obtain ⟨ob, q5, _⟩ := q4.rp
  exact ⟨q2, q3, ob, q5⟩
theorem Rep.vwP (R : Rep K cs Z F H σ ρ) {v : V} {d : D} (h : Vw K F σ ρ v d) : Rp K (plusM σ ρ F H) v d := by
  rcases h with h | ⟨i, c, h1, h2, rfl, h3⟩
  · exact h.ext plus_ext
  · obtain ⟨a, e, f, _, o⟩ := R.mine i c h1 h2
    rw [h3] at e
    cases e
    obtain ⟨ob, q1, q2⟩ := o.rp
    exact q2 _ plus_ext (plus_mine f ⟨i, c, h1, h2, h3⟩ q1)
theorem Rep.vwsP (R : Rep K cs Z F H σ ρ) : ∀ {vs : List V} {ds : List D}, Vws K F σ ρ vs ds → Rps K (plusM σ ρ F H) vs ds
  | _, _, .nil => .nil
  | _, _, .cons a b => .cons (R.vwP a) (R.vwsP b)
theorem plus_nt (R : Rep K cs Z F H σ ρ) (a : Addr) (ps : Array Value) : plusM σ ρ F H a ≠ some (.tbl ps) := by
  intro z
  unfold plusM at z
  cases hF : F a with
  | some o =>
    rw [hF] at z
    exact (R.tab.1 a ps).2 (by rw [hF]; exact z)
  | none =>
    rw [hF] at z
    have z : (if _ then _ else _) = _ := z
    split at z
    · rename_i hm
      obtain ⟨i, c, h1, h2, h3⟩ := hm
      obtain ⟨b, q1, _, _, q4⟩ := R.mine i c h1 h2
      rw [h3] at q1
      cases q1
      exact (q4.pl z).1 ps rfl
    · cases z
theorem Rep.lendW (R : Rep K cs Z F H σ ρ) (r : Vws K F σ ρ vs ds) : Rep K cs (oth (plusM σ ρ F H) H) (plusM σ ρ F H) H (vs.map some) (ds.map fun d => some (.sh d)) :=
  rep_sh (R.vwsP r).len (fun _ _ h => plus_of R h) (fun _ _ h => of_oth h) (R.vwsP r) ⟨fun a ps => ⟨oth_nt a ps, plus_nt R a ps⟩, fun t ht => (R.tab.2 t ht).to (fun e => plus_ext _ _ e) (fun ps e1 e2 => ⟨e1, by
    unfold plusM
    rw [e2]
    show (if _ then _ else _) = _
    rw [if_neg (fun ⟨i, c, h1, h2, h3⟩ => by
      obtain ⟨a, q1, _, _, q4⟩ := R.mine i c h1 h2
      rw [h3] at q1
      cases q1
      exact (q4.pl e1).1 ps rfl)]⟩) fun _ _ e => e⟩ fun a xs e => plus_ext a _ (R.tp a xs e)
theorem Rep.backW (R : Rep K cs Z F H σ ρ) (e : Ext (plusM σ ρ F H) F') (R' : Rep K cs (oth (plusM σ ρ F H) H) F' H' σ' ρ') : Rep K cs Z (lessM σ ρ F') H' σ ρ ∧ Ext F (lessM σ ρ F') := by
  have ex : Ext F (lessM σ ρ F') := fun a o h => by
    have hm : ¬ Mine σ ρ a := fun z => by
      rw [(R.mineF z).1] at h
      cases h
    unfold lessM
    rw [if_neg hm]
    exact e a o (plus_ext a o h)
  refine ⟨⟨R.len, fun a o h => ?_, fun a o h => ?_, fun i c h1 h2 => ?_, fun i d h1 => ?_, R.inj, R.io, ⟨fun a ps => ⟨(R.tab.1 a ps).1, fun z => by
    unfold lessM at z
    split at z
    · cases z
    · exact (R'.tab.1 a ps).2 z⟩, fun t ht => (R'.tab.2 t ht).to (fun e0 => ?_) (fun ps e1 e2 => ⟨e1, ?_⟩) fun _ _ e => e⟩, fun a xs e0 => ?_⟩, ex⟩
  · unfold lessM at h
    split at h
    · cases h
    · exact R'.fh a o h
  · obtain ⟨h1, h2⟩ := R.zh a o h
    have hm : ¬ Mine σ ρ a := fun z => by
      rw [(R.mineF z).2.1] at h
      cases h
    have hp : plusM σ ρ F H a = none := by
      unfold plusM
      rw [h2]
      show (if _ then _ else _) = _
      rw [if_neg hm]
    obtain ⟨q1, q2⟩ := R'.zh a o (oth_of hp h1 (R.znt h))
    refine ⟨q1, ?_⟩
    unfold lessM
    rw [if_neg hm]
    exact q2
  · obtain ⟨a, q1, q2, q3, q4⟩ := R.mine i c h1 h2
    obtain ⟨ob, q5, _⟩ := q4.rp
    have hm : Mine σ ρ a := ⟨i, c, h1, h2, q1⟩
    have q6 := R'.fh a ob (e a ob (plus_mine q2 hm q5))
    refine ⟨a, q1, ?_, q3, q4.ext ex (by rw [q6, q5])⟩
    unfold lessM
    rw [if_pos hm]
  · obtain ⟨v, q1, q2⟩ := R.sh i d h1
    exact ⟨v, q1, q2.ext ex⟩
  · have hm : ¬ Mine σ ρ t.1 := fun ⟨i, c, h1, h2, h3⟩ => by
      obtain ⟨a, q1, q2, q3, q4⟩ := R.mine i c h1 h2
      rw [h3] at q1
      cases q1
      obtain ⟨ob, q5, _⟩ := q4.rp
      have q6 := e _ _ (plus_mine q2 ⟨i, c, h1, h2, h3⟩ q5)
      rw [e0] at q6
      exact (q4.pl q5).2.1 _ (Option.some.inj q6).symm
    unfold lessM
    rw [if_neg hm]
    exact e0
  · unfold lessM
    split
    · rfl
    · exact e2
  · have e1 := R'.tp a xs e0
    have hm : ¬ Mine σ ρ a := fun ⟨i, c, h1, h2, h3⟩ => by
      obtain ⟨b, q1, q2, q3, q4⟩ := R.mine i c h1 h2
      rw [h3] at q1
      cases q1
      obtain ⟨ob, q5, _⟩ := q4.rp
      have q6 := e _ _ (plus_mine q2 ⟨i, c, h1, h2, h3⟩ q5)
      rw [e1] at q6
      exact (q4.pl q5).2.2 _ (Option.some.inj q6).symm
    unfold lessM
    rw [if_neg hm]
    exact e1
def scal : D → Bool
  | .none => true
  | .bool _ => true
  | .int _ => true
  | .str _ => true
  | _ => false
theorem Rp.scal {v : V} {d : D} (h : Rp K F v d) (hs : scal d = true) (G : Hp) : Rp K G v d := by
  cases h with
  | non => exact .non
  | bl b => exact .bl b
  | int i => exact .int i
  | str x => exact .str x
  | _ => cases hs
theorem argNv_ro : ∀ {ms : List Md} {vs : List V} {ds : List D}, (∀ m ∈ ms, m = .ro) → vs.length = ms.length → ds.length = ms.length → argNv ms vs ds = ds.map fun d => some (.sh d)
  | [], vs, ds, _, h1, h2 => by
    cases vs with
    | cons _ _ => cases h1
    | nil =>
      cases ds with
      | cons _ _ => cases h2
      | nil => rfl
  | m :: ms, vs, ds, h, h1, h2 => by
    cases vs with
    | nil => cases h1
    | cons v vs =>
      cases ds with
      | nil => cases h2
      | cons d ds =>
        have e : m = .ro := h m List.mem_cons_self
        subst e
        show some (Cell.sh d) :: argNv ms vs ds = some (Cell.sh d) :: _
        rw [argNv_ro (fun m hm => h m (List.mem_cons_of_mem _ hm)) (by simpa using h1) (by simpa using h2)]
end

/-! ## calls of defs that change nothing -/
theorem ioOk_ro : ∀ {ms : List Md} {vs : List V}, (∀ m ∈ ms, m = .ro) → ioOk ms vs = true
  | [], _, _ => by unfold ioOk; rfl
  | m :: ms, [], h => by
    have e : m = .ro := h m List.mem_cons_self
    subst e
    rfl
  | m :: ms, v :: vs, h => by
    have e : m = .ro := h m List.mem_cons_self
    subst e
    exact ioOk_ro (ms := ms) (vs := vs) fun m hm => h m (List.mem_cons_of_mem _ hm)
def callS (n : Nat) (sem : List D → Option Ou) (fr : Nv → Option (List D)) : Nv → Option D := fun ρ => (fr ρ).bind fun ds => if ds.length = n then match sem ds with
  | some (.ret d _ _) => some d
  | _ => none
  else none
/-- .. where the value is a new list or dict -/
def callO (n : Nat) (sem : List D → Option Ou) (fr : Nv → Option (List D)) : Nv → Option D := fun ρ => (fr ρ).bind fun ds => if ds.length = n then match sem ds with
  | some (.ret d true _) => some d
  | _ => none
  else none
/-- .. where it is flat -/
def callF (n : Nat) (sem : List D → Option Ou) (fr : Nv → Option (List D)) : Nv → Option D := fun ρ => (fr ρ).bind fun ds => if ds.length = n then match sem ds with
  | some (.ret d false _) => if scal d = true then some d else none
  | _ => none
  else none
section
variable {cs : List Tb} {X : Cx} {e : Expr} {es : List Expr} {pos p : Pos} {fr : Nv → Option (List D)} {x : Str} {CX : CXT} {k : Nat} {f : Addr} {fd : FuncData} {ps : List Str} {ms : List Md} {sem : List D → Option Ou}
theorem vws_len {K : PySem.W.Frag} {F : Hp} {σ : L2.St} {ρ : Nv} : ∀ {vs : List V} {ds : List D}, Vws K F σ ρ vs ds → vs.length = ds.length
  | _, _, .nil => rfl
  | _, _, .cons _ b => by rw [List.length_cons, List.length_cons, vws_len b]
theorem e_call (F : FnOk X.prog X.w X.K X.mg X.base CX k f fd ps (spD X.K cs ms sem)) (hro : ∀ m ∈ ms, m = .ro) (hr : Room k X.A) (hg : Gl X x) (hm : X.mg x = some (.ref f)) (hk : PySem.W.keepIn X.K (.ref f) = true) (hb : Binds X.K fd ps []) (hx : Passes CX X E0)
    (ha : EPs cs X (e :: es) fr) (hdb : (x == ("__debug__" : Str)) = false := by decide) (he : starEach (e :: es) X.env = (false, eval e X.env) :: starEach es X.env := by rfl) (hpl : (backTo pos (starEach es X.env)).any (·.1) = false := by rfl) :
    EP' cs X (.Call (.Name x p) (e :: es) [] pos) (callS ms.length sem fr) := ⟨pe_imp (pe_call F hr hg hm hk hb .nil hx ha.h hdb he hpl) fun σ H Q ⟨Z, F0, ρ, d, R, ef, q⟩ => by
  obtain ⟨ds, e1, e2⟩ := Option.bind_eq_some_iff.mp ef
  split at e2
  · rename_i hl
    refine ⟨Z, F0, ρ, ds, R, e1, fun vs F1 H1 x1 R1 r1 => ?_⟩
    split at e2
    · rename_i d' own outs es
      cases e2
      rw [List.append_nil]
      have hv : vs.length = ms.length := by rw [r1.len]; exact hl
      refine ⟨oth F1 H1, F1, ds, _, hv, hl, ioOk_ro hro, ?_, es, fun v F2 H2 x2 R2 res => ?_⟩
      · rw [argNv_ro hro hv hl]
        exact R1.lend r1
      · have RB := R1.back x2 R2
        unfold ResV at res
        split at res
        · obtain ⟨p', rfl, h1, h2, h3, h4⟩ := res
          obtain ⟨z1, z2⟩ := R1.backN h2
          obtain ⟨o, g1, g2⟩ := h4.rp
          exact q _ _ _ ((x1.trans x2).trans (Ext.upd h1)) (RB.give g1 h1 z1 z2 (h4.pl g1)) (g2 _ (Ext.upd h1) upd_same)
        · exact q v F2 H2 (x1.trans x2) RB res
    · cases e2
  · cases e2⟩
theorem e_callO (F : FnOk X.prog X.w X.K X.mg X.base CX k f fd ps (spD X.K cs ms sem)) (hro : ∀ m ∈ ms, m = .ro) (hr : Room k X.A) (hg : Gl X x) (hm : X.mg x = some (.ref f)) (hk : PySem.W.keepIn X.K (.ref f) = true) (hb : Binds X.K fd ps []) (hx : Passes CX X E0)
    (ha : EPs cs X (e :: es) fr) (hdb : (x == ("__debug__" : Str)) = false := by decide) (he : starEach (e :: es) X.env = (false, eval e X.env) :: starEach es X.env := by rfl) (hpl : (backTo pos (starEach es X.env)).any (·.1) = false := by rfl) :
    EN cs X (.Call (.Name x p) (e :: es) [] pos) (callO ms.length sem fr) := ⟨pe_imp (pe_call F hr hg hm hk hb .nil hx ha.h hdb he hpl) fun σ H Q ⟨Z, F0, ρ, d, R, ef, q⟩ => by
  obtain ⟨ds, e1, e2⟩ := Option.bind_eq_some_iff.mp ef
  split at e2
  · rename_i hl
    refine ⟨Z, F0, ρ, ds, R, e1, fun vs F1 H1 x1 R1 r1 => ?_⟩
    split at e2
    · rename_i d' outs es
      cases e2
      rw [List.append_nil]
      have hv : vs.length = ms.length := by rw [r1.len]; exact hl
      refine ⟨oth F1 H1, F1, ds, _, hv, hl, ioOk_ro hro, ?_, es, fun v F2 H2 x2 R2 res => ?_⟩
      · rw [argNv_ro hro hv hl]
        exact R1.lend r1
      · have RB := R1.back x2 R2
        unfold ResV at res
        rw [if_pos rfl] at res
        obtain ⟨p', rfl, h1, h2, h3, h4⟩ := res
        obtain ⟨z1, z2⟩ := R1.backN h2
        exact q _ _ _ (x1.trans x2) RB h1 z1 z2 h4
    · cases e2
  · cases e2⟩
theorem e_callF (F : FnOk X.prog X.w X.K X.mg X.base CX k f fd ps (spD X.K cs ms sem)) (hro : ∀ m ∈ ms, m = .ro) (hr : Room k X.A) (hg : Gl X x) (hm : X.mg x = some (.ref f)) (hk : PySem.W.keepIn X.K (.ref f) = true) (hb : Binds X.K fd ps []) (hx : Passes CX X E0)
    (ha : EWs cs X (e :: es) fr) (hdb : (x == ("__debug__" : Str)) = false := by decide) (he : starEach (e :: es) X.env = (false, eval e X.env) :: starEach es X.env := by rfl) (hpl : (backTo pos (starEach es X.env)).any (·.1) = false := by rfl) :
    EP' cs X (.Call (.Name x p) (e :: es) [] pos) (callF ms.length sem fr) := ⟨pe_imp (pe_call F hr hg hm hk hb .nil hx ha.h hdb he hpl) fun σ H Q ⟨Z, F0, ρ, d, R, ef, q⟩ => by
  obtain ⟨ds, e1, e2⟩ := Option.bind_eq_some_iff.mp ef
  split at e2
  · rename_i hl
    refine ⟨Z, F0, ρ, ds, R, e1, fun vs F1 H1 x1 R1 w1 => ?_⟩
    split at e2
    · rename_i d' outs es
      split at e2
      · rename_i hs
        cases e2
        rw [List.append_nil]
        have hv : vs.length = ms.length := by rw [vws_len w1]; exact hl
        refine ⟨oth (plusM σ ρ F1 H1) H1, plusM σ ρ F1 H1, ds, _, hv, hl, ioOk_ro hro, ?_, es, fun v F2 H2 x2 R2 res => ?_⟩
        · rw [argNv_ro hro hv hl]
          exact R1.lendW w1
        · obtain ⟨RB, xb⟩ := R1.backW x2 R2
          unfold ResV at res
          rw [if_neg Bool.false_ne_true] at res
          exact q v _ H2 (x1.trans xb) RB (res.scal hs _)
      · cases e2
    · cases e2
  · cases e2⟩
end
end DS

namespace DS
open PySem L2

/-! ## statements -/
inductive SR where
  | nx (ρ : Nv)
  | bk (ρ : Nv)
  | ct (ρ : Nv)
  | rt (d : D) (own : Bool) (ρ : Nv)
  | exc (c : Value)
/-- what is wanted behind a statement, at the names' end ρ -/
def Wish (K : PySem.W.Frag) (cs : List Tb) (E : XK) (Z F : Hp) (n : Nat) (D : Ends) : SR → Prop
  | .nx ρ => ∀ σ F' H', σ.length = n → Ext F F' → Rep K cs Z F' H' σ ρ → D.nx σ H'
  | .bk ρ => ∀ σ F' H', σ.length = n → Ext F F' → Rep K cs Z F' H' σ ρ → D.bk σ H'
  | .ct ρ => ∀ σ F' H', σ.length = n → Ext F F' → Rep K cs Z F' H' σ ρ → D.ct σ H'
  | .rt d own ρ => ∀ v σ F' H', σ.length = n → Ext F F' → Rep K cs Z F' H' σ ρ → ResV K Z F' H' σ ρ v d own → D.rt v H'
  | .exc c => ∀ F' H', Ext F F' → Rep K cs Z F' H' [] [] → E c none H'
def tS (K : PySem.W.Frag) (cs : List Tb) (E : XK) (g : Nv → Option SR) : TS := fun D σ H => ∃ Z F ρ r, Rep K cs Z F H σ ρ ∧ g ρ = some r ∧ Wish K cs E Z F σ.length D r
structure SD (cs : List Tb) (X : Cx) (E : XK) (st : Stmt) (g : Nv → Option SR) : Prop where
  h : PS X st (tS X.K cs E g)
structure SDs (cs : List Tb) (X : Cx) (E : XK) (st : List Stmt) (g : Nv → Option SR) : Prop where
  h : PSs X st (tS X.K cs E g)
def seqS (g g' : Nv → Option SR) : Nv → Option SR := fun ρ => (g ρ).bind fun r => match r with
  | .nx ρ' => g' ρ'
  | r => some r
section
variable {K : PySem.W.Frag} {cs : List Tb} {Z F H F' H' : Hp} {σ σ' : L2.St} {ρ ρ' : Nv} {v : V} {d : D}
theorem Wish.ext {E : XK} {n : Nat} {D : Ends} {r : SR} (e : Ext F F') (h : Wish K cs E Z F n D r) : Wish K cs E Z F' n D r := by
  cases r with
  | nx ρ => exact fun σ G H' l x => h σ G H' l (e.trans x)
  | bk ρ => exact fun σ G H' l x => h σ G H' l (e.trans x)
  | ct ρ => exact fun σ G H' l x => h σ G H' l (e.trans x)
  | rt d o ρ => exact fun v σ G H' l x => h v σ G H' l (e.trans x)
  | exc c => exact fun G H' x => h G H' (e.trans x)
/-- a slot takes shared data -/
theorem Rep.setSh (R : Rep K cs Z F H σ ρ) (i : Nat) (r : Rp K F v d) : Rep K cs Z F H (σ.set i (some v)) (ρ.set i (some (.sh d))) := by
  have hset : ∀ {j : Nat} {c : Cell}, (ρ.set i (some (.sh d)))[j]? = some (some c) → (j = i ∧ c = .sh d ∧ i < ρ.length) ∨ (j ≠ i ∧ ρ[j]? = some (some c)) := fun {j c} h => by
    by_cases hj : j = i
    · subst hj
      by_cases hl : j < ρ.length
      · rw [List.getElem?_set_self hl] at h
        cases h
        exact .inl ⟨rfl, rfl, hl⟩
      · rw [List.getElem?_eq_none (by rw [List.length_set]; omega)] at h
        cases h
    · rw [List.getElem?_set_ne (Ne.symm hj)] at h
      exact .inr ⟨hj, h⟩
  have sne : ∀ {j : Nat}, j ≠ i → (σ.set i (some v))[j]? = σ[j]? := fun hj => List.getElem?_set_ne (Ne.symm hj)
  refine ⟨by rw [List.length_set, List.length_set]; exact R.len, R.fh, R.zh, fun j c h1 h2 => ?_, fun j d' h1 => ?_, fun j k c e a h1 h2 h3 h4 h5 h6 => ?_, fun j a d' h1 => ?_, R.tab, R.tp⟩
  · rcases hset h1 with ⟨_, rfl, _⟩ | ⟨hj, h⟩
    · cases h2
    · rw [sne hj]
      exact R.mine j c h h2
  · rcases hset h1 with ⟨rfl, e, hl⟩ | ⟨hj, h⟩
    · cases e
      exact ⟨v, by rw [List.getElem?_set_self (by rw [R.len]; exact hl)], r⟩
    · rw [sne hj]
      exact R.sh j d' h
  · rcases hset h1 with ⟨_, rfl, _⟩ | ⟨hj, h⟩
    · cases h2
    · rcases hset h3 with ⟨_, rfl, _⟩ | ⟨hk, h'⟩
      · cases h4
      · rw [sne hj] at h5
        rw [sne hk] at h6
        exact R.inj j k c e a h h2 h' h4 h5 h6
  · rcases hset h1 with ⟨_, e, _⟩ | ⟨hj, h⟩
    · cases e
    · rw [sne hj]
      exact R.io j a d' h
/-- .. a new list or dict -/
theorem Rep.setOw {p : Addr} (R : Rep K cs Z F H σ ρ) (i : Nat) (fp : F p = none) (zp : Z p = none) (mp : ¬ Mine σ ρ p) (o : Own K F H p d) : Rep K cs Z F H (σ.set i (some (.ref p))) (ρ.set i (some (.ow d))) := by
  have hset : ∀ {j : Nat} {c : Cell}, (ρ.set i (some (.ow d)))[j]? = some (some c) → (j = i ∧ c = .ow d ∧ i < ρ.length) ∨ (j ≠ i ∧ ρ[j]? = some (some c)) := fun {j c} h => by
    by_cases hj : j = i
    · subst hj
      by_cases hl : j < ρ.length
      · rw [List.getElem?_set_self hl] at h
        cases h
        exact .inl ⟨rfl, rfl, hl⟩
      · rw [List.getElem?_eq_none (by rw [List.length_set]; omega)] at h
        cases h
    · rw [List.getElem?_set_ne (Ne.symm hj)] at h
      exact .inr ⟨hj, h⟩
  have sne : ∀ {j : Nat}, j ≠ i → (σ.set i (some (V.ref p)))[j]? = σ[j]? := fun hj => List.getElem?_set_ne (Ne.symm hj)
  have sself : i < ρ.length → (σ.set i (some (V.ref p)))[i]? = some (some (.ref p)) := fun hl => by rw [List.getElem?_set_self (by rw [R.len]; exact hl)]
  refine ⟨by rw [List.length_set, List.length_set]; exact R.len, R.fh, R.zh, fun j c h1 h2 => ?_, fun j d' h1 => ?_, fun j k c e a h1 h2 h3 h4 h5 h6 => ?_, fun j a d' h1 => ?_, R.tab, R.tp⟩
  · rcases hset h1 with ⟨rfl, rfl, hl⟩ | ⟨hj, h⟩
    · exact ⟨p, sself hl, fp, zp, o⟩
    · rw [sne hj]
      exact R.mine j c h h2
  · rcases hset h1 with ⟨rfl, e, hl⟩ | ⟨hj, h⟩
    · cases e
    · rw [sne hj]
      exact R.sh j d' h
  · rcases hset h1 with ⟨rfl, rfl, hl⟩ | ⟨hj, h⟩
    · rcases hset h3 with ⟨rfl, _, _⟩ | ⟨hk, h'⟩
      · rfl
      · rw [sself hl] at h5
        cases h5
        rw [sne hk] at h6
        exact (mp ⟨k, e, h', h4, h6⟩).elim
    · rcases hset h3 with ⟨rfl, rfl, hl⟩ | ⟨hk, h'⟩
      · rw [sself hl] at h6
        cases h6
        rw [sne hj] at h5
        exact (mp ⟨j, c, h, h2, h5⟩).elim
      · rw [sne hj] at h5
        rw [sne hk] at h6
        exact R.inj j k c e a h h2 h' h4 h5 h6
  · rcases hset h1 with ⟨_, e, _⟩ | ⟨hj, h⟩
    · cases e
    · rw [sne hj]
      exact R.io j a d' h
/-- a name is forgotten -/
theorem Rep.drop (R : Rep K cs Z F H σ ρ) (i : Nat) (w : Option V) : Rep K cs Z F H (σ.set i w) (ρ.set i none) := by
  have hset : ∀ {j : Nat} {c : Cell}, (ρ.set i none)[j]? = some (some c) → j ≠ i ∧ ρ[j]? = some (some c) := fun {j c} h => by
    by_cases hj : j = i
    · subst hj
      by_cases hl : j < ρ.length
      · rw [List.getElem?_set_self hl] at h
        cases h
      · rw [List.getElem?_eq_none (by rw [List.length_set]; omega)] at h
        cases h
    · rw [List.getElem?_set_ne (Ne.symm hj)] at h
      exact ⟨hj, h⟩
  have sne : ∀ {j : Nat}, j ≠ i → (σ.set i w)[j]? = σ[j]? := fun hj => List.getElem?_set_ne (Ne.symm hj)
  refine ⟨by rw [List.length_set, List.length_set]; exact R.len, R.fh, R.zh, fun j c h1 h2 => ?_, fun j d' h1 => ?_, fun j k c e a h1 h2 h3 h4 h5 h6 => ?_, fun j a d' h1 => ?_, R.tab, R.tp⟩
  · obtain ⟨hj, h⟩ := hset h1
    rw [sne hj]
    exact R.mine j c h h2
  · obtain ⟨hj, h⟩ := hset h1
    rw [sne hj]
    exact R.sh j d' h
  · obtain ⟨hj, h⟩ := hset h1
    obtain ⟨hk, h'⟩ := hset h3
    rw [sne hj] at h5
    rw [sne hk] at h6
    exact R.inj j k c e a h h2 h' h4 h5 h6
  · obtain ⟨hj, h⟩ := hset h1
    rw [sne hj]
    exact R.io j a d' h
end
section
variable {cs : List Tb} {X : Cx} {E : XK} {st : Stmt} {rest : List Stmt} {g g' : Nv → Option SR} {e : Expr} {pos : Pos} {fa : Nv → Option D} {ga : Nv → Option Bool}
theorem sd_nil : SDs cs X E [] (fun ρ => some (.nx ρ)) := ⟨pss_imp pss_nil fun D σ H ⟨Z, F, ρ, r, R, e, w⟩ => by
  cases e
  exact w σ F H rfl (Ext.refl F) R⟩
theorem t_seq {K : PySem.W.Frag} : ∀ D σ H, tS K cs E (seqS g g') D σ H → tSeq (tS K cs E g) (tS K cs E g') D σ H := fun D σ H ⟨Z, F, ρ, r, R, e, w⟩ => by
  obtain ⟨r1, e1, e2⟩ := Option.bind_eq_some_iff.mp e
  refine ⟨Z, F, ρ, r1, R, e1, ?_⟩
  cases r1 with
  | nx ρ1 =>
    intro σ1 F1 H1 l1 x1 R1
    exact ⟨Z, F1, ρ1, r, R1, e2, by rw [l1]; exact w.ext x1⟩
  | bk ρ1 => cases e2; exact w
  | ct ρ1 => cases e2; exact w
  | rt d o ρ1 => cases e2; exact w
  | exc c => cases e2; exact w
theorem sd_cons (h1 : SD cs X E st g) (h2 : SDs cs X E rest g') : SDs cs X E (st :: rest) (seqS g g') := ⟨pss_imp (pss_cons h1.h h2.h) t_seq⟩
theorem sd_one (h : SD cs X E st g) : SDs cs X E [st] g := ⟨pss_one h.h⟩
theorem sd_pass : SD cs X E (.Pass pos) (fun ρ => some (.nx ρ)) := ⟨ps_imp ps_pass fun D σ H ⟨Z, F, ρ, r, R, e, w⟩ => by
  cases e
  exact w σ F H rfl (Ext.refl F) R⟩
theorem sd_break : SD cs X E (.Break pos) (fun ρ => some (.bk ρ)) := ⟨ps_imp ps_break fun D σ H ⟨Z, F, ρ, r, R, e, w⟩ => by
  cases e
  exact w σ F H rfl (Ext.refl F) R⟩
theorem sd_cont : SD cs X E (.Continue pos) (fun ρ => some (.ct ρ)) := ⟨ps_imp ps_continue fun D σ H ⟨Z, F, ρ, r, R, e, w⟩ => by
  cases e
  exact w σ F H rfl (Ext.refl F) R⟩
/-- a text that says what is done -/
theorem sd_doc {x : Str} {j : Nat} {pos' : Pos} : SD cs X E (.Expr (.Constant (.str x) j pos) pos') (fun ρ => some (.nx ρ)) := ⟨ps_imp ps_doc fun D σ H ⟨Z, F, ρ, r, R, e, w⟩ => by
  cases e
  exact w σ F H rfl (Ext.refl F) R⟩
/-- code that is never reached -/
theorem sd_never : SD cs X E st (fun _ => none) := ⟨ps_imp ps_never fun D σ H ⟨Z, F, ρ, r, R, e, w⟩ => by cases e⟩
theorem sds_never : SDs cs X E rest (fun _ => none) := ⟨pss_imp pss_never fun D σ H ⟨Z, F, ρ, r, R, e, w⟩ => by cases e⟩
theorem sd_expr (h : EP' cs X e fa) (hs : swapsWith e none pos.line X.env = pure false := by rfl) : SD cs X E (.Expr e pos) (fun ρ => (fa ρ).map fun _ => .nx ρ) := ⟨ps_imp (ps_expr h.h hs) fun D σ H ⟨Z, F, ρ, r, R, ef, w⟩ => by
  obtain ⟨d, e1, rfl⟩ := Option.map_eq_some_iff.mp ef
  exact ⟨Z, F, ρ, d, R, e1, fun v F1 H1 x1 R1 _ => w σ F1 H1 rfl x1 R1⟩⟩
def setS (i : Nat) (fa : Nv → Option D) : Nv → Option SR := fun ρ => (fa ρ).map fun d => .nx (ρ.set i (some (.sh d)))
def setN (i : Nat) (fa : Nv → Option D) : Nv → Option SR := fun ρ => (fa ρ).map fun d => .nx (ρ.set i (some (.ow d)))
theorem sd_set {i : Nat} {x : Str} {pos' : Pos} (hN : X.N.Nodup) (hi : X.N[i]? = some x) (hx : Loc X.env.scope x) (h : EP' cs X e fa) (hs : swapsWith e (some (.Name x pos')) pos.line X.env = pure false := by rfl) (hf : X.fn x = true ∨ X.env.scope.names.lookup x = some .local := by first | exact .inl rfl | exact .inr rfl | assumption) :
    SD cs X E (.Assign [.Name x pos'] e pos) (setS i fa) := ⟨ps_imp (ps_set hN hi hx h.h hs hf) fun D σ H ⟨Z, F, ρ, r, R, ef, w⟩ => by
  obtain ⟨d, e1, rfl⟩ := Option.map_eq_some_iff.mp ef
  exact ⟨Z, F, ρ, d, R, e1, fun v F1 H1 x1 R1 r1 => w _ F1 H1 (by rw [List.length_set]) x1 (R1.setSh i r1)⟩⟩
theorem sd_setN {i : Nat} {x : Str} {pos' : Pos} (hN : X.N.Nodup) (hi : X.N[i]? = some x) (hx : Loc X.env.scope x) (h : EN cs X e fa) (hs : swapsWith e (some (.Name x pos')) pos.line X.env = pure false := by rfl) (hf : X.fn x = true ∨ X.env.scope.names.lookup x = some .local := by first | exact .inl rfl | exact .inr rfl | assumption) :
    SD cs X E (.Assign [.Name x pos'] e pos) (setN i fa) := ⟨ps_imp (ps_set hN hi hx h.h hs hf) fun D σ H ⟨Z, F, ρ, r, R, ef, w⟩ => by
  obtain ⟨d, e1, rfl⟩ := Option.map_eq_some_iff.mp ef
  exact ⟨Z, F, ρ, d, R, e1, fun p F1 H1 x1 R1 fp zp mp o => w _ F1 H1 (by rw [List.length_set]) x1 (R1.setOw i fp zp mp o)⟩⟩
theorem sd_ret (h : EP' cs X e fa) : SD cs X E (.Return (some e) pos) (fun ρ => (fa ρ).map fun d => .rt d false ρ) := ⟨ps_imp (ps_ret h.h) fun D σ H ⟨Z, F, ρ, r, R, ef, w⟩ => by
  obtain ⟨d, e1, rfl⟩ := Option.map_eq_some_iff.mp ef
  exact ⟨Z, F, ρ, d, R, e1, fun v F1 H1 x1 R1 r1 => w v σ F1 H1 rfl x1 R1 (by unfold ResV; rw [if_neg Bool.false_ne_true]; exact r1)⟩⟩
theorem sd_retN (h : EN cs X e fa) : SD cs X E (.Return (some e) pos) (fun ρ => (fa ρ).map fun d => .rt d true ρ) := ⟨ps_imp (ps_ret h.h) fun D σ H ⟨Z, F, ρ, r, R, ef, w⟩ => by
  obtain ⟨d, e1, rfl⟩ := Option.map_eq_some_iff.mp ef
  exact ⟨Z, F, ρ, d, R, e1, fun p F1 H1 x1 R1 fp zp mp o => w _ σ F1 H1 rfl x1 R1 (by unfold ResV; rw [if_pos rfl]; exact ⟨p, rfl, fp, zp, mp, o⟩)⟩⟩
/-- return x, x a name of this frame's own list or dict, or of shared data -/
def retNm (i : Nat) : Nv → Option SR := fun ρ => match ρ[i]? with
  | some (some (.sh d)) => some (.rt d false ρ)
  | some (some (.ow d)) => some (.rt d true (ρ.set i none))
  | _ => none
theorem sd_retNm {i : Nat} {x : Str} {pos' : Pos} (h : PE X (.Name x pos) (tVar i)) : SD cs X E (.Return (some (.Name x pos)) pos') (retNm i) := ⟨ps_imp (ps_ret h) fun D σ H ⟨Z, F, ρ, r, R, ef, w⟩ => by
  unfold retNm at ef
  split at ef
  · rename_i d e
    cases ef
    obtain ⟨v, h1, h2⟩ := R.sh i _ e
    exact ⟨v, h1, w v σ F H rfl (Ext.refl F) R (by unfold ResV; rw [if_neg Bool.false_ne_true]; exact h2)⟩
  · rename_i d e
    cases ef
    obtain ⟨a, h1, h2, h3, h4⟩ := R.mine i _ e rfl
    refine ⟨.ref a, h1, w (.ref a) (σ.set i (some (.ref a))) F H (by rw [List.length_set]) (Ext.refl F) (R.drop i _) ?_⟩
    unfold ResV
    rw [if_pos rfl]
    refine ⟨a, rfl, h2, h3, fun ⟨j, c, g1, g2, g3⟩ => ?_, h4⟩
    by_cases hj : j = i
    · subst hj
      by_cases hl : j < ρ.length
      · rw [List.getElem?_set_self hl] at g1
        cases g1
      · rw [List.getElem?_eq_none (by rw [List.length_set]; omega)] at g1
        cases g1
    · rw [List.getElem?_set_ne (Ne.symm hj)] at g1 g3
      exact hj (R.inj j i c _ a g1 g2 e rfl g3 h1)
  · cases ef⟩
theorem sd_ret0 : SD cs X E (.Return none pos) (fun ρ => some (.rt .none false ρ)) := ⟨ps_imp ps_retN fun D σ H ⟨Z, F, ρ, r, R, ef, w⟩ => by
  cases ef
  exact w .non σ F H rfl (Ext.refl F) R (by unfold ResV; rw [if_neg Bool.false_ne_true]; exact .non)⟩
def ifS (ga : Nv → Option Bool) (g g' : Nv → Option SR) : Nv → Option SR := fun ρ => (ga ρ).bind fun k => if k = true then g ρ else g' ρ
theorem sd_if {a b : List Stmt} {c : Expr} (hc : ET cs X c ga) (ha : SDs cs X E a g) (hb : SDs cs X E b g') : SD cs X E (.If c a b pos) (ifS ga g g') := ⟨ps_imp (ps_if hc.h ha.h hb.h) fun D σ H ⟨Z, F, ρ, r, R, ef, w⟩ => by
  obtain ⟨k, e1, e2⟩ := Option.bind_eq_some_iff.mp ef
  refine ⟨Z, F, ρ, k, R, e1, fun F1 H1 x1 R1 => ?_⟩
  by_cases hk : k = true
  · rw [if_pos hk] at e2 ⊢
    exact ⟨Z, F1, ρ, r, R1, e2, w.ext x1⟩
  · rw [if_neg hk] at e2 ⊢
    exact ⟨Z, F1, ρ, r, R1, e2, w.ext x1⟩⟩

/-! ### while -/
def whileS (t : Nv → Option Bool) (g : Nv → Option SR) : Nat → Nv → Option SR
  | 0, _ => none
  | n + 1, ρ => (t ρ).bind fun k => if k = true then (g ρ).bind fun r => match r with
    | .nx ρ' => whileS t g n ρ'
    | .ct ρ' => whileS t g n ρ'
    | .bk ρ' => some (.nx ρ')
    | r => some r
  else some (.nx ρ)
theorem sd_while {c : Expr} {body : List Stmt} (hp : PassesOwn (model X.prog X.w) X.A X.env X.xe) (hc : ET cs X c ga) (hb : SDs cs X E body g) (n : Nv → Nat) : SD cs X E (.While c body [] pos) (fun ρ => whileS ga g (n ρ) ρ) := ⟨ps_imp (ps_while hp hc.h hb.h) fun D σ H ⟨Z, F, ρ, r, R, ef, w⟩ => by
  refine ⟨fun m σ1 H1 => ∃ F1 ρ1, Ext F F1 ∧ σ1.length = σ.length ∧ Rep X.K cs Z F1 H1 σ1 ρ1 ∧ whileS ga g m ρ1 = some r, ⟨n ρ, F, ρ, Ext.refl F, rfl, R, ef⟩, ?_⟩
  rintro m σ1 H1 ⟨F1, ρ1, x1, l1, R1, e1⟩
  cases m with
  | zero => cases e1
  | succ m =>
    obtain ⟨k, e2, e3⟩ := Option.bind_eq_some_iff.mp e1
    refine ⟨Z, F1, ρ1, k, R1, e2, fun F2 H2 x2 R2 => ?_⟩
    by_cases hk : k = true
    · rw [if_pos hk] at e3
      obtain ⟨r1, e4, e5⟩ := Option.bind_eq_some_iff.mp e3
      rw [if_pos hk]
      have again : ∀ {ρ3 : Nv}, whileS ga g m ρ3 = some r → ∀ σ3 F3 H3, σ3.length = σ1.length → Ext F2 F3 → Rep X.K cs Z F3 H3 σ3 ρ3 → ∃ m', m' < m + 1 ∧ ∃ F1 ρ1, Ext F F1 ∧ σ3.length = σ.length ∧ Rep X.K cs Z F1 H3 σ3 ρ1 ∧ whileS ga g m' ρ1 = some r :=
        fun e6 σ3 F3 H3 l3 x3 R3 => ⟨m, Nat.lt_succ_self m, F3, _, (x1.trans x2).trans x3, l3.trans l1, R3, e6⟩
      refine ⟨fun σ3 H3 => ∃ m', m' < m + 1 ∧ ∃ F1 ρ1, Ext F F1 ∧ σ3.length = σ.length ∧ Rep X.K cs Z F1 H3 σ3 ρ1 ∧ whileS ga g m' ρ1 = some r, fun σ3 H3 h => h, Z, F2, ρ1, r1, R2, e4, ?_⟩
      cases r1 with
      | nx ρ3 => exact fun σ3 F3 H3 l3 x3 R3 => again e5 σ3 F3 H3 l3 x3 R3
      | ct ρ3 => exact fun σ3 F3 H3 l3 x3 R3 => again e5 σ3 F3 H3 l3 x3 R3
      | bk ρ3 =>
        cases e5
        exact fun σ3 F3 H3 l3 x3 R3 => w σ3 F3 H3 (l3.trans l1) ((x1.trans x2).trans x3) R3
      | rt d o ρ3 =>
        cases e5
        exact fun v σ3 F3 H3 l3 x3 R3 => w v σ3 F3 H3 (l3.trans l1) ((x1.trans x2).trans x3) R3
      | exc c =>
        cases e5
        exact fun F3 H3 x3 R3 => w F3 H3 ((x1.trans x2).trans x3) R3
    · rw [if_neg hk] at e3
      cases e3
      rw [if_neg hk]
      exact w σ1 F2 H2 l1 (x1.trans x2) R2⟩
end
end DS

namespace DS
open PySem L2

/-! ## a def by its body -/
def outsOf : List Md → List V → Nv → Option (List D)
  | [], _, _ => some []
  | .io :: ms, .ref a :: vs, some (.io b d) :: ρ => if a = b then (outsOf ms vs ρ).map (d :: ·) else none
  | .io :: _, _, _ => none
  | _ :: ms, _ :: vs, _ :: ρ => outsOf ms vs ρ
  | _ :: _, _, _ => none
def finD (ms : List Md) (vs : List V) : SR → Option Ou
  | .nx ρ => (outsOf ms vs ρ).map (.ret .none false ·)
  | .rt d own ρ => (outsOf ms vs ρ).map (.ret d own ·)
  | .exc c => some (.exc c)
  | _ => none
def runD (ms : List Md) (n : Nat) (g : Nv → Option SR) (vs : List V) (ds : List D) : Option Ou := (g (argNv ms vs ds ++ List.replicate n none)).bind (finD ms vs)
theorem outNv_get : ∀ {ms : List Md} {vs : List V} {ρ : Nv} {outs : List D} {i : Nat} {c : Cell}, outsOf ms vs ρ = some outs → (outNv ms vs outs)[i]? = some (some c) → ∃ a d, c = .io a d ∧ vs[i]? = some (.ref a) ∧ ρ[i]? = some (some (.io a d))
  | [], _, _, _, _, _, h, e => by
    cases h
    simp [outNv] at e
  | .io :: ms, .ref a :: vs, some (.io b d) :: ρ, outs, i, c, h, e => by
    unfold outsOf at h
    split at h
    · rename_i hab
      obtain ⟨os, h2, rfl⟩ := Option.map_eq_some_iff.mp h
      cases i with
      | zero =>
        have e' : some (Cell.io a d) = some c := Option.some.inj e
        cases e'
        exact ⟨a, d, rfl, rfl, by rw [hab]; rfl⟩
      | succ i => exact outNv_get (ms := ms) (i := i) h2 e
    · cases h
  | .ro :: ms, v :: vs, r :: ρ, outs, i, c, h, e => by
    have h' : outsOf ms vs ρ = some outs := by cases v <;> exact h
    cases i with
    | zero => cases v <;> simp [outNv] at e
    | succ i =>
      have e' : (outNv ms vs outs)[i]? = some (some c) := by cases v <;> exact e
      exact outNv_get (ms := ms) (i := i) h' e'
  | .mv :: ms, v :: vs, r :: ρ, outs, i, c, h, e => by
    have h' : outsOf ms vs ρ = some outs := by cases v <;> exact h
    cases i with
    | zero => cases v <;> simp [outNv] at e
    | succ i =>
      have e' : (outNv ms vs outs)[i]? = some (some c) := by cases v <;> exact e
      exact outNv_get (ms := ms) (i := i) h' e'
theorem outNv_len : ∀ {ms : List Md} {vs : List V} {ρ : Nv} {outs : List D}, vs.length = ms.length → outsOf ms vs ρ = some outs → (outNv ms vs outs).length = ms.length
  | [], [], _, _, _, h => by
    cases h
    rfl
  | .io :: ms, .ref a :: vs, some (.io b d) :: ρ, outs, hl, h => by
    unfold outsOf at h
    split at h
    · obtain ⟨os, h2, rfl⟩ := Option.map_eq_some_iff.mp h
      show (outNv ms vs os).length + 1 = ms.length + 1
      rw [outNv_len (by simpa using hl) h2]
    · cases h
  | .ro :: ms, v :: vs, r :: ρ, outs, hl, h => by
    have h' : outsOf ms vs ρ = some outs := by cases v <;> exact h
    have e : outNv (.ro :: ms) (v :: vs) outs = none :: outNv ms vs outs := by cases v <;> rfl
    rw [e, List.length_cons, List.length_cons, outNv_len (by simpa using hl) h']
  | .mv :: ms, v :: vs, r :: ρ, outs, hl, h => by
    have h' : outsOf ms vs ρ = some outs := by cases v <;> exact h
    have e : outNv (.mv :: ms) (v :: vs) outs = none :: outNv ms vs outs := by cases v <;> rfl
    rw [e, List.length_cons, List.length_cons, outNv_len (by simpa using hl) h']
section
variable {K : PySem.W.Frag} {cs : List Tb} {Z F H F' H' : Hp} {σ : L2.St} {ρ : Nv} {ms : List Md} {vs : List V} {outs : List D} {v : V} {d : D} {own : Bool}
theorem Rep.back2 (R : Rep K cs Z F H σ ρ) (hl : vs.length = ms.length) (h : outsOf ms vs ρ = some outs) : Rep K cs Z F H (vs.map some) (outNv ms vs outs) := by
  refine ⟨by rw [List.length_map, outNv_len hl h, hl], R.fh, R.zh, fun i c h1 h2 => ?_, fun i d h1 => ?_, fun i j c e a h1 h2 h3 h4 h5 h6 => ?_, fun i a d h1 => ?_, R.tab, R.tp⟩
  · obtain ⟨a, d, rfl, h3, h4⟩ := outNv_get h h1
    obtain ⟨a', q1, q2⟩ := R.mine i _ h4 rfl
    have q3 := R.io i a d h4
    rw [q3] at q1
    cases q1
    exact ⟨a, by rw [List.getElem?_map, h3]; rfl, q2⟩
  · obtain ⟨_, _, e, _⟩ := outNv_get h h1
    cases e
  · obtain ⟨a1, d1, rfl, g3, g4⟩ := outNv_get h h1
    obtain ⟨a2, d2, rfl, k3, k4⟩ := outNv_get h h3
    rw [List.getElem?_map, g3] at h5
    rw [List.getElem?_map, k3] at h6
    cases h5
    cases h6
    exact R.inj i j _ _ _ g4 rfl k4 rfl (R.io _ _ _ g4) (R.io _ _ _ k4)
  · obtain ⟨a1, d1, e, g3, g4⟩ := outNv_get h h1
    cases e
    rw [List.getElem?_map, g3]
    rfl
theorem ResV.back2 (R : Rep K cs Z F H σ ρ) (h : outsOf ms vs ρ = some outs) (r : ResV K Z F H σ ρ v d own) : ResV K Z F H (vs.map some) (outNv ms vs outs) v d own := by
  unfold ResV at r ⊢
  split at r
  · rename_i ho
    rw [if_pos ho]
    obtain ⟨p, rfl, h1, h2, h3, h4⟩ := r
    refine ⟨p, rfl, h1, h2, fun ⟨i, c, g1, g2, g3⟩ => ?_, h4⟩
    obtain ⟨a1, d1, rfl, k3, k4⟩ := outNv_get h g1
    rw [List.getElem?_map, k3] at g3
    cases g3
    exact h3 ⟨i, _, k4, rfl, R.io i _ _ k4⟩
  · rename_i ho
    rw [if_neg ho]
    exact r
/-- more names, without values yet -/
theorem Rep.pad (R : Rep K cs Z F H σ ρ) (n : Nat) : Rep K cs Z F H (σ ++ List.replicate n none) (ρ ++ List.replicate n none) := by
  have hg : ∀ {i : Nat} {c : Cell}, (ρ ++ List.replicate n none)[i]? = some (some c) → ρ[i]? = some (some c) ∧ (σ ++ List.replicate n none)[i]? = σ[i]? := fun {i c} h => by
    by_cases hi : i < ρ.length
    · rw [List.getElem?_append_left hi] at h
      exact ⟨h, List.getElem?_append_left (by rw [R.len]; exact hi)⟩
    · rw [List.getElem?_append_right (by omega), List.getElem?_replicate] at h
      split at h <;> cases h
  refine ⟨by rw [List.length_append, List.length_append, R.len, List.length_replicate, List.length_replicate], R.fh, R.zh, fun i c h1 h2 => ?_, fun i d h1 => ?_, fun i j c e a h1 h2 h3 h4 h5 h6 => ?_, fun i a d h1 => ?_, R.tab, R.tp⟩
  · obtain ⟨g1, g2⟩ := hg h1
    rw [g2]
    exact R.mine i c g1 h2
  · obtain ⟨g1, g2⟩ := hg h1
    rw [g2]
    exact R.sh i d g1
  · obtain ⟨g1, g2⟩ := hg h1
    obtain ⟨k1, k2⟩ := hg h3
    rw [g2] at h5
    rw [k2] at h6
    exact R.inj i j c e a g1 h2 k1 h4 h5 h6
  · obtain ⟨g1, g2⟩ := hg h1
    rw [g2]
    exact R.io i a d g1
end
/-- what the body's run must come to -/
def Comes (ms : List Md) (n : Nat) (g : Nv → Option SR) (sem : List D → Option Ou) : Prop := ∀ vs ds o, vs.length = ms.length → ds.length = ms.length → ioOk ms vs = true → sem ds = some o → runD ms n g vs ds = some o
theorem body_ends {cs : List Tb} {K : PySem.W.Frag} {N ps : List Str} {ms : List Md} {sem : List D → Option Ou} {g : Nv → Option SR} {vs : List V} {H : Hp} {Q : VK} {E : XK} (hm : ms.length = ps.length) (hc : Comes ms (N.length - ps.length) g sem) (h : spD K cs ms sem vs H Q E) :
    tS K cs E g { nx := fun _ H' => Q .non H', rt := Q } (L2.start N vs) H := by
  obtain ⟨Z, F, ds, o, hv, hd, hio, R, hs, q⟩ := h
  have e := hc vs ds o hv hd hio hs
  unfold runD at e
  obtain ⟨r, e1, e2⟩ := Option.bind_eq_some_iff.mp e
  have hst : L2.start N vs = vs.map some ++ List.replicate (N.length - ps.length) none := by
    unfold L2.start
    rw [hv, hm]
  refine ⟨Z, F, _, r, by rw [hst]; exact R.pad _, e1, ?_⟩
  cases r with
  | nx ρ =>
    obtain ⟨outs, e3, rfl⟩ := Option.map_eq_some_iff.mp e2
    exact fun σ F' H' _ x R' => q .non F' H' x (R'.back2 hv e3) (by unfold ResV; rw [if_neg Bool.false_ne_true]; exact .non)
  | bk ρ => cases e2
  | ct ρ => cases e2
  | rt d own ρ =>
    obtain ⟨outs, e3, rfl⟩ := Option.map_eq_some_iff.mp e2
    exact fun v σ F' H' _ x R' res => q v F' H' x (R'.back2 hv e3) (ResV.back2 R' e3 res)
  | exc c =>
    cases e2
    exact q
theorem fn_ds {P : Program} {w : World} {K : PySem.W.Frag} {mg : Str → Option Value} {base : Heap} {cs : List Tb} {x qual : Str} {st : Stmt} {f : Addr} {fd : FuncData} {N ps : List Str} {k : Nat} {ms : List Md} {sem : List D → Option Ou} (F : Fun K x qual st f fd) (S : FnScope N ps (defScope st)) (hm : ms.length = ps.length)
    (hbody : ∀ (cdv : Value) (A : Around) (outer : List Env) (s : Shared) (H : Hp) (E : XK), Room k (A.deeper (PyProof.Rows.envOfC qual (defScope st) s.heap.objs.size f cdv)) →
      ∃ g, SDs cs (cxOf CX0 P w K mg base N qual (defScope st) f cdv A outer s H E).nox E (defBody st) g ∧ Comes ms (N.length - ps.length) g sem) :
    FnOk P w K mg base CX0 (k + 1) f fd ps (spD K cs ms sem) := by
  refine F.ok S (fun vs H Q E h => ?_) fun cdv A outer s H vs Q E hr h => ?_
  · obtain ⟨_, _, _, _, hv, _⟩ := h
    rw [hv, hm]
  · obtain ⟨g, h1, h2⟩ := hbody cdv A outer s H E hr
    exact ⟨_, h1.h, body_ends hm h2 h⟩
end DS

namespace DS
open PySem L2

/-! ## what is walked -/
/-- ds come one by one, while P holds -/
structure Src (K : PySem.W.Frag) (cs : List Tb) (P : Hp → L2.St → Nv → Prop) (J : It) (ds : List D) : Prop where
  mono : ∀ F F' σ ρ, Ext F F' → P F σ ρ → P F' σ ρ
  go : ∀ Z F H σ ρ i x, Rep K cs Z F H σ ρ → P F σ ρ → ds[i]? = some x → J.go i H ∧ ∀ y H', J.yld i H y H' → ∃ F', Ext F F' ∧ Rep K cs Z F' H' σ ρ ∧ Rp K F' y x
  stop : ∀ Z F H σ ρ i, Rep K cs Z F H σ ρ → P F σ ρ → ds.length ≤ i → J.stop i H
/-- whatever the names become -/
def AnyP (P : Hp → L2.St → Nv → Prop) : Prop := ∀ F σ ρ σ' ρ', P F σ ρ → P F σ' ρ'
def noMine (ρ : Nv) (i : Nat) : Bool := match ρ[i]? with
  | some (some c) => !c.mine
  | _ => true
def SetP (P : Hp → L2.St → Nv → Prop) : Prop := ∀ F σ ρ i w c, noMine ρ i = true → P F σ ρ → P F (σ.set i w) (ρ.set i c)
def tI (K : PySem.W.Frag) (cs : List Tb) (C : (Hp → L2.St → Nv → Prop) → Prop) (f : Nv → Option (List D)) : TI := fun σ H R => ∃ Z F ρ ds, Rep K cs Z F H σ ρ ∧ f ρ = some ds ∧ ∀ J P F' H', Ext F F' → Rep K cs Z F' H' σ ρ → P F' σ ρ → C P → Src K cs P J ds → R J H'
structure EI (cs : List Tb) (X : Cx) (C : (Hp → L2.St → Nv → Prop) → Prop) (tg e : Expr) (f : Nv → Option (List D)) : Prop where
  h : PI X tg e (tI X.K cs C f)
theorem AnyP.set {P : Hp → L2.St → Nv → Prop} (h : AnyP P) : SetP P := fun F σ ρ i w c _ p => h F σ ρ _ _ p
section
variable {cs : List Tb} {X : Cx} {tg e a b : Expr} {fa fb : Nv → Option D} {f : Nv → Option (List D)} {p pos : Pos}
theorem pi_imp {wi wi' : TI} (h : PI X tg e wi) (i : ∀ σ H R, wi' σ H R → wi σ H R) : PI X tg e wi' := ⟨fun pins s σ H R I q => h.run pins s σ H R I (i σ H R q)⟩
theorem EI.comp (h : EI cs X AnyP tg e f) : EI cs X SetP tg e f := ⟨pi_imp h.h fun σ H R ⟨Z, F, ρ, ds, r, ef, q⟩ => ⟨Z, F, ρ, ds, r, ef, fun J P F' H' x R' p c s => q J P F' H' x R' p c.set s⟩⟩
def asL : D → Option (List D)
  | .list xs => some xs
  | _ => none
def asTu : D → Option (List D)
  | .tuple xs => some xs
  | _ => none
theorem asL_some {d : D} {xs : List D} (h : asL d = some xs) : d = .list xs := by
  cases d <;> simp [asL] at h
  rw [h]
theorem asTu_some {d : D} {xs : List D} (h : asTu d = some xs) : d = .tuple xs := by
  cases d <;> simp [asTu] at h
  rw [h]
theorem src_list {K : PySem.W.Frag} {a : Addr} {ds : List D} {P : Hp → L2.St → Nv → Prop} (hm : ∀ F F' σ ρ, Ext F F' → P F σ ρ → P F' σ ρ) (h : ∀ Z F H σ ρ, Rep K cs Z F H σ ρ → P F σ ρ → ∃ xs, SqL K H a xs ∧ Rps K F xs ds) : Src K cs P (Itl K a) ds := by
  refine ⟨hm, fun Z F H σ ρ i x R p hi => ?_, fun Z F H σ ρ i R p hi => ?_⟩
  · obtain ⟨xs, s, r⟩ := h Z F H σ ρ R p
    obtain ⟨v, h1, h2⟩ := r.get hi
    refine ⟨⟨xs, v, s, h1⟩, fun y H' ⟨e1, e2⟩ => ?_⟩
    subst e1
    have e3 := e2 xs s
    rw [h1] at e3
    cases e3
    exact ⟨F, Ext.refl F, R, h2⟩
  · obtain ⟨xs, s, r⟩ := h Z F H σ ρ R p
    exact ⟨xs, s, by rw [r.len]; exact hi⟩
/-- a list that all read -/
theorem i_list (h : EP' cs X e fa) : EI cs X AnyP tg e (fun ρ => (fa ρ).bind asL) := ⟨pi_imp (pi_list h.h) fun σ H R ⟨Z, F, ρ, ds, r, ef, q⟩ => by
  obtain ⟨d, e1, e2⟩ := Option.bind_eq_some_iff.mp ef
  have hd := asL_some e2
  refine ⟨Z, F, ρ, d, r, e1, fun v F1 H1 x1 R1 r1 => ?_⟩
  rw [hd] at r1
  cases r1 with
  | lst s t =>
    refine ⟨_, rfl, ⟨_, R1.ex.sqL s⟩, ?_⟩
    refine q _ (fun F _ _ => Ext F1 F) F1 H1 x1 R1 (Ext.refl F1) (fun _ _ _ _ _ p => p) (src_list (fun _ _ _ _ x p => p.trans x) fun Z F H σ ρ R2 p => ?_)
    exact ⟨_, R2.ex.sqL (Ext.sqL p s), t.ext p⟩⟩
/-- a list as it stands -/
theorem i_listW (h : EW cs X e fa) : EI cs X SetP tg e (fun ρ => (fa ρ).bind asL) := ⟨pi_imp (pi_list h.h) fun σ H R ⟨Z, F, ρ, ds, r, ef, q⟩ => by
  obtain ⟨d, e1, e2⟩ := Option.bind_eq_some_iff.mp ef
  have hd := asL_some e2
  refine ⟨Z, F, ρ, d, r, e1, fun v F1 H1 x1 R1 w1 => ?_⟩
  rw [hd] at w1
  obtain ⟨a, xs, rfl, s1, _⟩ := R1.lst w1
  refine ⟨a, rfl, ⟨xs, s1⟩, ?_⟩
  refine q _ (fun F σ ρ => Vw X.K F σ ρ (.ref a) (.list ds)) F1 H1 x1 R1 w1 (fun F σ ρ i w c hn p => ?_) (src_list (fun _ _ _ _ x p => p.ext x) fun Z F H σ ρ R2 p => ?_)
  · rcases p with p | ⟨j, c', h1, h2, h3, h4⟩
    · exact .inl p
    · have hj : j ≠ i := fun z => by
        subst z
        unfold noMine at hn
        rw [h1] at hn
        simp [h2] at hn
      exact .inr ⟨j, c', by rw [List.getElem?_set_ne (Ne.symm hj)]; exact h1, h2, h3, by rw [List.getElem?_set_ne (Ne.symm hj)]; exact h4⟩
  · obtain ⟨a', xs', e3, s', t⟩ := R2.lst p
    cases e3
    exact ⟨xs', s', t⟩⟩
theorem i_tup (h : EP' cs X e fa) : EI cs X AnyP tg e (fun ρ => (fa ρ).bind asTu) := ⟨pi_imp (pi_tup h.h) fun σ H R ⟨Z, F, ρ, ds, r, ef, q⟩ => by
  obtain ⟨d, e1, e2⟩ := Option.bind_eq_some_iff.mp ef
  have hd := asTu_some e2
  refine ⟨Z, F, ρ, d, r, e1, fun v F1 H1 x1 R1 r1 => ?_⟩
  rw [hd] at r1
  cases r1 with
  | tup s t =>
    refine ⟨_, rfl, ⟨_, R1.ex.sqT (.inl (.inl s))⟩, ?_⟩
    refine q _ (fun F _ _ => Ext F1 F) F1 H1 x1 R1 (Ext.refl F1) (fun _ _ _ _ _ p => p) ⟨fun _ _ _ _ x p => p.trans x, fun Z F H σ ρ i x R2 p hi => ?_, fun Z F H σ ρ i R2 p hi => ?_⟩
    · obtain ⟨v, h1, h2⟩ := (t.ext p).get hi
      have s2 := R2.ex.sqT (K := X.K) (Ext.sqT (K := X.K) p (.inl (.inl s)))
      refine ⟨⟨_, v, s2, h1⟩, fun y H' ⟨e1, e2⟩ => ?_⟩
      subst e1
      have e3 := e2 _ s2
      rw [h1] at e3
      cases e3
      exact ⟨F, Ext.refl F, R2, h2⟩
    · exact ⟨_, R2.ex.sqT (Ext.sqT p (.inl (.inl s))), by rw [t.len]; exact hi⟩⟩
/-- the signs of a text -/
def signsD (x : Str) : List D := x.cps.toList.map fun c => .str ⟨#[c]⟩
def asSg : D → Option (List D)
  | .str x => some (signsD x)
  | _ => none
theorem i_str (h : EW cs X e fa) : EI cs X AnyP tg e (fun ρ => (fa ρ).bind asSg) := ⟨pi_imp (pi_str h.h) fun σ H R ⟨Z, F, ρ, ds, r, ef, q⟩ => by
  obtain ⟨d, e1, e2⟩ := Option.bind_eq_some_iff.mp ef
  refine ⟨Z, F, ρ, d, r, e1, fun v F1 H1 x1 R1 w1 => ?_⟩
  unfold asSg at e2
  split at e2
  · cases e2
    cases R1.vstr w1
    refine ⟨_, rfl, q _ (fun _ _ _ => True) F1 H1 x1 R1 trivial (fun _ _ _ _ _ p => p) ⟨fun _ _ _ _ _ p => p, fun Z F H σ ρ i x R2 _ hi => ?_, fun Z F H σ ρ i R2 _ hi => ?_⟩⟩
    · unfold signsD at hi
      rw [List.getElem?_map] at hi
      obtain ⟨c, h1, rfl⟩ := Option.map_eq_some_iff.mp hi
      rw [Array.getElem?_toList] at h1
      refine ⟨(Array.getElem?_eq_some_iff.mp h1).1, fun y H' ⟨e1, c', e2, e3⟩ => ?_⟩
      subst e1 e3
      rw [h1] at e2
      cases e2
      exact ⟨F, Ext.refl F, R2, .str _⟩
    · unfold signsD at hi
      rw [List.length_map] at hi
      exact hi
  · cases e2⟩
def rngD (lo : Int) (n : Nat) : List D := (List.range n).map fun (i : Nat) => .int (lo + i)
theorem src_rng {K : PySem.W.Frag} (lo : Int) (n : Nat) : Src K cs (fun _ _ _ => True) (Itr lo n) (rngD lo n) := by
  refine ⟨fun _ _ _ _ _ p => p, fun Z F H σ ρ i x R2 _ hi => ?_, fun Z F H σ ρ i R2 _ hi => ?_⟩
  · unfold rngD at hi
    rw [List.getElem?_map] at hi
    obtain ⟨j, h1, rfl⟩ := Option.map_eq_some_iff.mp hi
    obtain ⟨h2, h3⟩ := List.getElem?_eq_some_iff.mp h1
    rw [List.getElem_range] at h3
    subst h3
    rw [List.length_range] at h2
    refine ⟨h2, fun y H' ⟨e1, e2⟩ => ?_⟩
    subst e1 e2
    exact ⟨F, Ext.refl F, R2, .int _⟩
  · unfold rngD at hi
    rw [List.length_map, List.length_range] at hi
    exact hi
def rng1 : List D → Option (List D)
  | [.int j] => if -(2 ^ 62) ≤ j ∧ j < 2 ^ 62 then some (rngD 0 j.toNat) else none
  | _ => none
def rng2 : List D → Option (List D)
  | [.int i, .int j] => if (-(2 ^ 62) ≤ i ∧ i < 2 ^ 62) ∧ (-(2 ^ 62) ≤ j ∧ j < 2 ^ 62) then some (rngD i (j - i).toNat) else none
  | _ => none
theorem rps_int {K : PySem.W.Frag} {F : Hp} {v : V} {i : Int} (h : Rp K F v (.int i)) : v = .int i := by
  cases h
  rfl
theorem i_rng1 {fr : Nv → Option (List D)} (hg : Gl X "range") (hm : X.mg "range" = none) (ha : EPs cs X [a] fr) (hs : starEach [a] X.env = [(false, eval a X.env)] := by rfl) : EI cs X AnyP tg (.Call (.Name "range" p) [a] [] pos) (fun ρ => (fr ρ).bind rng1) :=
  ⟨pi_imp (pi_range1 hg hm ha.h hs) fun σ H R ⟨Z, F, ρ, ds, r, ef, q⟩ => by
    obtain ⟨d, e1, e2⟩ := Option.bind_eq_some_iff.mp ef
    refine ⟨Z, F, ρ, d, r, e1, fun vs F1 H1 x1 R1 r1 => ?_⟩
    unfold rng1 at e2
    split at e2
    · split at e2
      · rename_i hb
        cases e2
        cases r1 with
        | cons t u =>
          cases u
          cases rps_int t
          exact ⟨_, rfl, hb.1, hb.2, q _ _ F1 H1 x1 R1 trivial (fun _ _ _ _ _ p => p) (src_rng 0 _)⟩
      · cases e2
    · cases e2⟩
theorem i_rng2 {fr : Nv → Option (List D)} (hg : Gl X "range") (hm : X.mg "range" = none) (ha : EPs cs X [a, b] fr) (hs : starEach [a, b] X.env = [(false, eval a X.env), (false, eval b X.env)] := by rfl) (hs2 : starEach [b] X.env = [(false, eval b X.env)] := by rfl) :
    EI cs X AnyP tg (.Call (.Name "range" p) [a, b] [] pos) (fun ρ => (fr ρ).bind rng2) :=
  ⟨pi_imp (pi_range2 hg hm ha.h hs hs2) fun σ H R ⟨Z, F, ρ, ds, r, ef, q⟩ => by
    obtain ⟨d, e1, e2⟩ := Option.bind_eq_some_iff.mp ef
    refine ⟨Z, F, ρ, d, r, e1, fun vs F1 H1 x1 R1 r1 => ?_⟩
    unfold rng2 at e2
    split at e2
    · split at e2
      · rename_i hb
        cases e2
        cases r1 with
        | cons t u =>
          cases u with
          | cons t' u =>
            cases u
            cases rps_int t
            cases rps_int t'
            exact ⟨_, _, rfl, ⟨hb.1.1, hb.1.2, hb.2.1, hb.2.2⟩, q _ _ F1 H1 x1 R1 trivial (fun _ _ _ _ _ p => p) (src_rng _ _)⟩
      · cases e2
    · cases e2⟩
def enumD (ds : List D) : List D := (List.range ds.length).map fun (i : Nat) => .tuple [.int i, ds.getD i .none]
theorem i_enum {fr : Nv → Option (List D)} {elts : List Expr} {kk : Nat} {tpos : Pos} (hg : Gl X "enumerate") (hm : X.mg "enumerate" = none) (ha : EPs cs X [a] fr) (hs : starEach [a] X.env = [(false, eval a X.env)] := by rfl) :
    EI cs X AnyP (.Tuple elts kk tpos) (.Call (.Name "enumerate" p) [a] [] pos) (fun ρ => (fr ρ).bind fun ds => match ds with
      | [.list xs] => some (enumD xs)
      | _ => none) :=
  ⟨pi_imp (pi_enum hg hm ha.h hs) fun σ H R ⟨Z, F, ρ, ds, r, ef, q⟩ => by
    obtain ⟨d, e1, e2⟩ := Option.bind_eq_some_iff.mp ef
    refine ⟨Z, F, ρ, d, r, e1, fun vs F1 H1 x1 R1 r1 => ?_⟩
    split at e2
    · rename_i xs
      cases e2
      cases r1 with
      | cons t u =>
        cases u
        cases t with
        | lst s t =>
          refine ⟨_, _, rfl, R1.ex.sqL s, ?_⟩
          refine q _ (fun F _ _ => Ext F1 F) F1 H1 x1 R1 (Ext.refl F1) (fun _ _ _ _ _ p => p) ⟨fun _ _ _ _ x p => p.trans x, fun Z F H σ ρ i x R2 p hi => ?_, fun Z F H σ ρ i R2 p hi => ?_⟩
          · unfold enumD at hi
            rw [List.getElem?_map] at hi
            obtain ⟨j, h1, rfl⟩ := Option.map_eq_some_iff.mp hi
            obtain ⟨h2, h3⟩ := List.getElem?_eq_some_iff.mp h1
            rw [List.getElem_range] at h3
            subst h3
            rw [List.length_range] at h2
            have s2 := R2.ex.sqL (Ext.sqL p s)
            have hx : xs[i]? = some (xs.getD i .none) := by rw [List.getD_eq_getElem?_getD, List.getElem?_eq_getElem h2]; rfl
            obtain ⟨v, g1, g2⟩ := (t.ext p).get hx
            refine ⟨⟨_, v, s2, g1⟩, fun y H' ⟨T, z, e1, e2, e3, e4⟩ => ?_⟩
            have e5 := e4 _ s2
            rw [g1] at e5
            cases e5
            subst e1 e3
            obtain ⟨R3, x3, _⟩ := R2.new (o := .tup [.int (i : Nat), v]) e2
            exact ⟨_, x3, R3, .tup upd_same (.cons (.int _) (.cons (g2.ext x3) .nil))⟩
          · unfold enumD at hi
            rw [List.length_map, List.length_range] at hi
            exact ⟨_, R2.ex.sqL (Ext.sqL p s), by rw [t.len]; exact hi⟩
    · cases e2⟩
end

/-! ## what is stored -/
def tG (K : PySem.W.Frag) (cs : List Tb) (a : D → Nv → Option Nv) : TG := fun v σ H Q => ∃ Z F ρ d ρ', Rep K cs Z F H σ ρ ∧ Rp K F v d ∧ a d ρ = some ρ' ∧ ∀ σ' F' H', σ'.length = σ.length → Ext F F' → Rep K cs Z F' H' σ' ρ' → Q σ' H'
def tGs (K : PySem.W.Frag) (cs : List Tb) (a : List D → Nv → Option Nv) : TGs := fun vs σ H Q => ∃ Z F ρ ds ρ', Rep K cs Z F H σ ρ ∧ Rps K F vs ds ∧ a ds ρ = some ρ' ∧ ∀ σ' F' H', σ'.length = σ.length → Ext F F' → Rep K cs Z F' H' σ' ρ' → Q σ' H'
structure GD (cs : List Tb) (X : Cx) (tg : Expr) (a : D → Nv → Option Nv) : Prop where
  h : PG X tg (tG X.K cs a)
structure GDs (cs : List Tb) (X : Cx) (tg : List Expr) (a : List D → Nv → Option Nv) : Prop where
  h : PGs X tg (tGs X.K cs a)
section
variable {cs : List Tb} {X : Cx} {tg : Expr} {tgs : List Expr} {pos : Pos} {a : D → Nv → Option Nv} {as : List D → Nv → Option Nv}
theorem pg_imp {t t' : TG} (h : PG X tg t) (i : ∀ v σ H Q, t' v σ H Q → t v σ H Q) : PG X tg t' := ⟨fun pins s σ H v u Q I r q => h.run pins s σ H v u Q I r (i v σ H Q q)⟩
theorem pgs_imp {t t' : TGs} (h : PGs X tgs t) (i : ∀ v σ H Q, t' v σ H Q → t v σ H Q) : PGs X tgs t' := ⟨fun pins s σ H v u Q I r q => h.run pins s σ H v u Q I r (i v σ H Q q)⟩
def toNm (i : Nat) : D → Nv → Option Nv := fun d ρ => some (ρ.set i (some (.sh d)))
theorem g_name {i : Nat} {x : Str} (hN : X.N.Nodup) (hi : X.N[i]? = some x) (hx : Loc X.env.scope x) (hf : X.fn x = true ∨ X.env.scope.names.lookup x = some .local := by first | exact .inl rfl | exact .inr rfl | assumption) : GD cs X (.Name x pos) (toNm i) :=
  ⟨pg_imp (pg_name hN hi hx hf) fun v σ H Q ⟨Z, F, ρ, d, ρ', R, r, e, q⟩ => by
    cases e
    exact q _ F H (by rw [List.length_set]) (Ext.refl F) (R.setSh i r)⟩
def toNil : List D → Nv → Option Nv
  | [], ρ => some ρ
  | _, _ => none
def toCons (a : D → Nv → Option Nv) (as : List D → Nv → Option Nv) : List D → Nv → Option Nv
  | d :: r, ρ => (a d ρ).bind (as r)
  | _, _ => none
theorem gs_nil : GDs cs X [] toNil := ⟨pgs_imp pgs_nil fun v σ H Q ⟨Z, F, ρ, ds, ρ', R, r, e, q⟩ => by
  unfold toNil at e
  split at e
  · cases e
    cases r
    exact ⟨rfl, q σ F H rfl (Ext.refl F) R⟩
  · cases e⟩
theorem gs_cons (h1 : GD cs X tg a) (h2 : GDs cs X tgs as) (hs : (assignEach (tg :: tgs) X.env).map (·.2) = assign tg X.env :: (assignEach tgs X.env).map (·.2) := by rfl) : GDs cs X (tg :: tgs) (toCons a as) := ⟨pgs_imp (pgs_cons h1.h h2.h hs) fun v σ H Q ⟨Z, F, ρ, ds, ρ', R, r, e, q⟩ => by
  unfold toCons at e
  split at e
  · obtain ⟨ρ1, e1, e2⟩ := Option.bind_eq_some_iff.mp e
    cases r with
    | cons t u =>
      exact ⟨_, _, rfl, Z, F, ρ, _, ρ1, R, t, e1, fun σ1 F1 H1 l1 x1 R1 => ⟨Z, F1, ρ1, _, ρ', R1, u.ext x1, e2, fun σ2 F2 H2 l2 x2 R2 => q σ2 F2 H2 (l2.trans l1) (x1.trans x2) R2⟩⟩
  · cases e⟩
def toTu (n : Nat) (as : List D → Nv → Option Nv) : D → Nv → Option Nv := fun d ρ => match d with
  | .tuple ds => if ds.length = n then as ds ρ else none
  | _ => none
theorem g_tup {k n : Nat} (hc : X.calm = true) (h : GDs cs X tgs as) (hn : (assignEach tgs X.env).length = n := by rfl) (hst : (assignEach tgs X.env).findIdx? (·.1) = none := by rfl) : GD cs X (.Tuple tgs k pos) (toTu n as) := ⟨pg_imp (pg_tup hc h.h hn hst) fun v σ H Q ⟨Z, F, ρ, d, ρ', R, r, e, q⟩ => by
  unfold toTu at e
  split at e
  · split at e
    · rename_i hl
      cases r with
      | tup s t => exact ⟨_, _, rfl, R.ex.sqT (.inl (.inl s)), by rw [t.len]; exact hl, Z, F, ρ, _, ρ', R, t, e, q⟩
    · cases e
  · cases e⟩
end

/-! ## for -/
def forS (a : D → Nv → Option Nv) (g : Nv → Option SR) : List D → Nv → Option SR
  | [], ρ => some (.nx ρ)
  | d :: ds, ρ => (a d ρ).bind fun ρ1 => (g ρ1).bind fun r => match r with
    | .nx ρ2 => forS a g ds ρ2
    | .ct ρ2 => forS a g ds ρ2
    | .bk ρ2 => some (.nx ρ2)
    | r => some r
section
variable {cs : List Tb} {X : Cx} {E : XK} {tg iter : Expr} {body : List Stmt} {pos : Pos} {a : D → Nv → Option Nv} {f : Nv → Option (List D)} {g : Nv → Option SR}
theorem sd_for (hp : PassesOwn (model X.prog X.w) X.A X.env X.xe) (hc : X.calm = true) (hi : EI cs X AnyP tg iter f) (hg : GD cs X tg a) (hb : SDs cs X E body g) (hs : ∀ x, foldedSetIterable iter X.env x = pure x := by intro _; rfl) :
    SD cs X E (.For tg iter body [] pos) (fun ρ => (f ρ).bind fun ds => forS a g ds ρ) := ⟨ps_imp (ps_for hp hc hi.h hg.h hb.h hs) fun D σ H ⟨Z, F, ρ, r, R, ef, w⟩ => by
  obtain ⟨ds, e1, e2⟩ := Option.bind_eq_some_iff.mp ef
  refine ⟨Z, F, ρ, ds, R, e1, fun J P F1 H1 x1 R1 p1 hP S => ?_⟩
  refine ⟨fun i m σ2 H2 => i + m = ds.length ∧ ∃ F2 ρ2, Ext F F2 ∧ σ2.length = σ.length ∧ Rep X.K cs Z F2 H2 σ2 ρ2 ∧ P F2 σ2 ρ2 ∧ forS a g (ds.drop i) ρ2 = some r, ⟨ds.length, by omega, F1, ρ, x1, rfl, R1, p1, by rw [List.drop_zero]; exact e2⟩, ?_⟩
  rintro i m σ2 H2 ⟨hm, F2, ρ2, x2, l2, R2, p2, e3⟩
  by_cases hlt : i < ds.length
  · have hd : ds.drop i = ds[i] :: ds.drop (i + 1) := List.drop_eq_getElem_cons hlt
    rw [hd] at e3
    obtain ⟨ρ3, e4, e5⟩ := Option.bind_eq_some_iff.mp e3
    obtain ⟨r1, e6, e7⟩ := Option.bind_eq_some_iff.mp e5
    obtain ⟨hgo, hy⟩ := S.go Z F2 H2 σ2 ρ2 i ds[i] R2 p2 (List.getElem?_eq_getElem hlt)
    refine .inr ⟨hgo, fun σ3 H3 => ∃ m', m' < m ∧ (i + 1) + m' = ds.length ∧ ∃ F3 ρ3, Ext F F3 ∧ σ3.length = σ.length ∧ Rep X.K cs Z F3 H3 σ3 ρ3 ∧ P F3 σ3 ρ3 ∧ forS a g (ds.drop (i + 1)) ρ3 = some r, fun σ3 H3 h => h, fun y H3 hyl => ?_⟩
    obtain ⟨F3, x3, R3, r3⟩ := hy y H3 hyl
    refine ⟨Z, F3, ρ2, ds[i], ρ3, R3, r3, e4, fun σ4 F4 H4 l4 x4 R4 => ⟨Z, F4, ρ3, r1, R4, e6, ?_⟩⟩
    have x24 : Ext F F4 := (x2.trans x3).trans x4
    have l42 : σ4.length = σ.length := l4.trans l2
    have p4 : ∀ {F5 : Hp} {σ5 : L2.St} {ρ5 : Nv}, Ext F4 F5 → P F5 σ5 ρ5 := fun {F5 σ5 ρ5} x5 => hP _ _ _ _ _ (S.mono _ _ _ _ ((x3.trans x4).trans x5) p2)
    cases r1 with
    | nx ρ5 => exact fun σ5 F5 H5 l5 x5 R5 => ⟨m - 1, by omega, by omega, F5, ρ5, x24.trans x5, l5.trans l42, R5, p4 x5, e7⟩
    | ct ρ5 => exact fun σ5 F5 H5 l5 x5 R5 => ⟨m - 1, by omega, by omega, F5, ρ5, x24.trans x5, l5.trans l42, R5, p4 x5, e7⟩
    | bk ρ5 =>
      cases e7
      exact fun σ5 F5 H5 l5 x5 R5 => w σ5 F5 H5 (l5.trans l42) (x24.trans x5) R5
    | rt d o ρ5 =>
      cases e7
      exact fun v σ5 F5 H5 l5 x5 R5 => w v σ5 F5 H5 (l5.trans l42) (x24.trans x5) R5
    | exc c =>
      cases e7
      exact fun F5 H5 x5 R5 => w F5 H5 (x24.trans x5) R5
  · have hd : ds.drop i = [] := List.drop_of_length_le (by omega)
    rw [hd] at e3
    cases e3
    exact .inl ⟨S.stop Z F2 H2 σ2 ρ2 i R2 p2 (by omega), w σ2 F2 H2 l2 x2 R2⟩⟩
end

/-! ## list comprehensions -/
def lcD (i : Nat) (t : Nv → Option Bool) (f : Nv → Option D) (ρ : Nv) : List D → Option (List D)
  | [] => some []
  | x :: xs => (t (ρ.set i (some (.sh x)))).bind fun b => if b = true then (f (ρ.set i (some (.sh x)))).bind fun y => (lcD i t f ρ xs).map (y :: ·) else lcD i t f ρ xs
structure ETs (cs : List Tb) (X : Cx) (ifs : List Expr) (f : Nv → Option Bool) : Prop where
  h : PTs X ifs (tPT X.K cs f)
section
variable {cs : List Tb} {X : Cx} {c : Expr} {ga : Nv → Option Bool}
theorem pts_imp {ifs : List Expr} {t t' : TT} (h : PTs X ifs t) (i : ∀ σ H Q, t' σ H Q → t σ H Q) : PTs X ifs t' := ⟨fun pins s σ H Q I q => h.run pins s σ H Q I (i σ H Q q)⟩
theorem ets_nil : ETs cs X [] (fun _ => some true) := ⟨pts_imp pts_nil fun σ H Q ⟨Z, F, ρ, b, R, e, q⟩ => by
  cases e
  exact q F H (Ext.refl F) R⟩
theorem ets_one (h : ET cs X c ga) : ETs cs X [c] ga := ⟨pts_one h.h⟩
end
section
variable {K : PySem.W.Frag} {cs : List Tb} {Z Z' F H F' H' : Hp} {σ : L2.St} {ρ : Nv} {i : Nat}
/-- behind the block -/
theorem Rep.restore {w : Option V} {c : Option Cell} (R : Rep K cs Z F H σ ρ) (hn : noMine ρ i = true) (hc : ∀ c', c = some c' → c'.mine = false) (x : Ext F F') (hz : ∀ a o, Z a = some o → Z' a = some o) (R' : Rep K cs Z' F' H' (σ.set i w) (ρ.set i c)) : Rep K cs Z F' H' σ ρ := by
  have nm : ∀ {j : Nat} {e : Cell}, ρ[j]? = some (some e) → e.mine = true → j ≠ i := fun {j e} h1 h2 z => by
    subst z
    unfold noMine at hn
    rw [h1] at hn
    simp [h2] at hn
  refine ⟨R.len, R'.fh, fun a o h => R'.zh a o (hz a o h), fun j e h1 h2 => ?_, fun j d h1 => ?_, R.inj, R.io, ⟨fun a ps => ⟨fun z => (R'.tab.1 a ps).1 (hz a _ z), (R'.tab.1 a ps).2⟩, R'.tab.2⟩, R'.tp⟩
  · have hj := nm h1 h2
    obtain ⟨a, q1, q2, q3, q4⟩ := R'.mine j e (by rw [List.getElem?_set_ne (Ne.symm hj)]; exact h1) h2
    rw [List.getElem?_set_ne (Ne.symm hj)] at q1
    refine ⟨a, q1, q2, ?_, q4⟩
    cases hza : Z a with
    | none => rfl
    | some o => rw [hz a o hza] at q3; cases q3
  · obtain ⟨v, q1, q2⟩ := R.sh j d h1
    exact ⟨v, q1, q2.ext x⟩
/-- an object of nobody's is set aside -/
theorem Rep.aside {p : Addr} {o : HO} (R : Rep K cs Z F H σ ρ) (hp : H p = some o) (fp : F p = none) (mp : ¬ Mine σ ρ p) (pl : Pl o) : Rep K cs (upd Z p o) F H σ ρ := by
  refine ⟨R.len, R.fh, fun a u h => ?_, fun j e h1 h2 => ?_, R.sh, R.inj, R.io, ⟨fun a ps => ⟨fun z => ?_, (R.tab.1 a ps).2⟩, R.tab.2⟩, R.tp⟩
  · by_cases ha : a = p
    · subst ha
      rw [upd_same] at h
      cases h
      exact ⟨hp, fp⟩
    · rw [upd_ne ha] at h
      exact R.zh a u h
  · obtain ⟨a, q1, q2, q3, q4⟩ := R.mine j e h1 h2
    have ha : a ≠ p := fun z => mp ⟨j, e, h1, h2, by rw [← z]; exact q1⟩
    exact ⟨a, q1, q2, by rw [upd_ne ha]; exact q3, q4⟩
  · by_cases ha : a = p
    · subst ha
      rw [upd_same] at z
      exact pl.1 ps (Option.some.inj z)
    · rw [upd_ne ha] at z
      exact (R.tab.1 a ps).1 z
/-- .. and changed there -/
theorem Rep.asideSet {p : Addr} {o o' : HO} (R : Rep K cs (upd Z p o) F H σ ρ) (pl : Pl o) (pl' : Pl o') : Rep K cs (upd Z p o') F (upd H p o') σ ρ := by
  obtain ⟨hp, fp⟩ := R.zh p o upd_same
  refine ⟨R.len, fun a u h => ?_, fun a u h => ?_, fun j e h1 h2 => ?_, R.sh, R.inj, R.io, ⟨fun a ps => ⟨fun z => ?_, (R.tab.1 a ps).2⟩, fun t ht => (R.tab.2 t ht).to (fun e => e) (fun ps e1 e2 => ⟨by rw [upd_ne (fun z => by rw [z, hp] at e1; exact pl.1 ps (Option.some.inj e1))]; exact e1, e2⟩) fun c φ e => by rw [upd_ne (fun z => by rw [z, hp] at e; exact pl.2.1 φ (Option.some.inj e))]; exact e⟩, R.tp.set pl'.2.2⟩
  · rw [upd_ne (ne_of_none h fp)]
    exact R.fh a u h
  · by_cases ha : a = p
    · subst ha
      rw [upd_same] at h ⊢
      exact ⟨h, fp⟩
    · rw [upd_ne ha] at h
      rw [upd_ne ha]
      exact R.zh a u (by rw [upd_ne ha]; exact h)
  · obtain ⟨a, q1, q2, q3, q4⟩ := R.mine j e h1 h2
    have ha : a ≠ p := fun z => by rw [z, upd_same] at q3; cases q3
    exact ⟨a, q1, q2, by rw [upd_ne ha] at q3 ⊢; exact q3, q4.ext (Ext.refl F) (upd_ne ha)⟩
  · by_cases ha : a = p
    · subst ha
      rw [upd_same] at z
      exact pl'.1 ps (Option.some.inj z)
    · rw [upd_ne ha] at z
      exact (R.tab.1 a ps).1 (by rw [upd_ne ha]; exact z)
end
section
variable {cs : List Tb} {X : Cx} {elt iter : Expr} {ifs : List Expr} {scope : Scope} {x : Str} {i : Nat} {px pos : Pos} {f : Nv → Option (List D)} {t : Nv → Option Bool} {fe : Nv → Option D}
def lcV (i : Nat) (f : Nv → Option (List D)) (t : Nv → Option Bool) (fe : Nv → Option D) : Nv → Option D := fun ρ => (f ρ).bind fun ds => if noMine ρ i = true ∧ ds.length ≤ 100000 then (lcD i t fe ρ ds).map .list else none
theorem lcD_len {t : Nv → Option Bool} {fe : Nv → Option D} {ρ : Nv} : ∀ {ds : List D} {ys : List D}, lcD i t fe ρ ds = some ys → ys.length ≤ ds.length
  | [], _, h => by
    cases h
    exact Nat.le_refl _
  | d :: ds, ys, h => by
    obtain ⟨b, _, h2⟩ := Option.bind_eq_some_iff.mp h
    split at h2
    · obtain ⟨y, _, h3⟩ := Option.bind_eq_some_iff.mp h2
      obtain ⟨zs, h4, rfl⟩ := Option.map_eq_some_iff.mp h3
      have := lcD_len h4
      simp only [List.length_cons]
      omega
    · have := lcD_len h2
      simp only [List.length_cons]
      omega
theorem e_lc (hc : X.calm = true) (hN : X.N.Nodup) (hix : X.N[i]? = some x) (hi : EI cs X SetP (.Name x px) iter f) (ok : BlkOk X.N X.env.scope scope [(x, i)])
    (hl : ∀ (s : Shared) (H : Hp) (C : Addr) (cl : List (Str × Addr)) (fp : List Addr), (X.blk s H scope (compEnvC scope cl C X.env) fp).env.scope.names.lookup x = some .local)
    (ht : ∀ (s : Shared) (H : Hp) (C : Addr) (cl : List (Str × Addr)) (fp : List Addr), ETs cs (X.blk s H scope (compEnvC scope cl C X.env) fp) ifs t)
    (he : ∀ (s : Shared) (H : Hp) (C : Addr) (cl : List (Str × Addr)) (fp : List Addr), EP' cs (X.blk s H scope (compEnvC scope cl C X.env) fp) elt fe) (hs : ∀ x, foldedSetIterable iter X.env x = pure x := by intro _; rfl) :
    EN cs X (.ListComp elt [⟨.Name x px, iter, ifs, 0⟩] scope pos) (lcV i f t fe) := by
  refine ⟨pe_imp (pe_lc (own := [(x, i)]) (g := gName i) (tt := tPT X.K cs t) (te := tP X.K cs fe) hc hN hi.h ok (fun s H C cl fp => pg_name (X := X.blk s H scope (compEnvC scope cl C X.env) fp) (i := i) hN hix (.inl (hl s H C cl fp)) (.inr (hl s H C cl fp))) (fun s H C cl fp => (ht s H C cl fp).h) (fun s H C cl fp => (he s H C cl fp).h) hs) ?_⟩
  rintro σ H Q ⟨Z, F, ρ, d, R, ef, q⟩
  obtain ⟨ds, e1, e2⟩ := Option.bind_eq_some_iff.mp ef
  split at e2
  · rename_i hb
    obtain ⟨hn, hdl⟩ := hb
    obtain ⟨ys, e3, rfl⟩ := Option.map_eq_some_iff.mp e2
    refine ⟨Z, F, ρ, ds, R, e1, fun J P F1 H1 x1 R1 p1 hP S D hD => ?_⟩
    -- D, the new list, is set aside
    obtain ⟨R2, fD, zD, mD⟩ := R1.made (o := .lst []) hD
    have R3 := R2.aside upd_same fD mD pl_lst
    have R4 : Rep X.K cs (upd Z D (.lst [])) F1 (upd H1 D (.lst [])) (σ.set i none) (ρ.set i none) := R3.drop i none
    have pS : P F1 (σ.set i none) (ρ.set i none) := hP _ _ _ _ _ _ hn p1
    refine ⟨fun k m H2 => k + m = ds.length ∧ ∃ F2 acc zs rest, Ext F1 F2 ∧ Rep X.K cs (upd Z D (.lst acc)) F2 H2 (σ.set i none) (ρ.set i none) ∧ P F2 (σ.set i none) (ρ.set i none) ∧ Rps X.K F2 acc zs ∧ acc.length ≤ k ∧ lcD i t fe ρ (ds.drop k) = some rest ∧ ys = zs ++ rest,
      ⟨ds.length, by omega, F1, [], [], ys, Ext.refl F1, R4, pS, .nil, Nat.le_refl _, by rw [List.drop_zero]; exact e3, rfl⟩, ?_⟩
    rintro k m H2 ⟨hm, F2, acc, zs, rest, x2, R5, p5, r5, la, e5, hy⟩
    by_cases hlt : k < ds.length
    · have hd : ds.drop k = ds[k] :: ds.drop (k + 1) := List.drop_eq_getElem_cons hlt
      rw [hd] at e5
      obtain ⟨b, e6, e7⟩ := Option.bind_eq_some_iff.mp e5
      obtain ⟨hgo, hyl⟩ := S.go _ F2 H2 _ _ k ds[k] R5 p5 (List.getElem?_eq_getElem hlt)
      refine .inr ⟨hgo, fun H3 => ∃ m', m' < m ∧ (k + 1) + m' = ds.length ∧ ∃ F3 acc zs rest, Ext F1 F3 ∧ Rep X.K cs (upd Z D (.lst acc)) F3 H3 (σ.set i none) (ρ.set i none) ∧ P F3 (σ.set i none) (ρ.set i none) ∧ Rps X.K F3 acc zs ∧ acc.length ≤ k + 1 ∧ lcD i t fe ρ (ds.drop (k + 1)) = some rest ∧ ys = zs ++ rest, fun H3 h => h, fun v H3 hyv => ?_⟩
      obtain ⟨F3, x3, R6, r6⟩ := hyl v H3 hyv
      have R7 := R6.setSh i r6
      have sset : ∀ w : Option V, (σ.set i none).set i w = σ.set i w := fun w => by rw [List.set_set]
      have rset : ∀ c : Option Cell, (ρ.set i none).set i c = ρ.set i c := fun c => by rw [List.set_set]
      rw [sset, rset] at R7
      refine ⟨?_, ?_⟩
      · show ((σ.set i none).set i (some v)).set i none = σ.set i none
        rw [List.set_set, List.set_set]
      · have hw : List.set (wipe σ (List.map (fun x => x.snd) [(x, i)])) i (some v) = σ.set i (some v) := sset (some v)
        rw [hw]
        refine ⟨_, F3, _, b, R7, e6, fun F4 H4 x4 R8 => ?_⟩
        have back : ∀ {F5 H5 : Hp} {acc' : List V}, Rep X.K cs (upd Z D (.lst acc')) F5 H5 (σ.set i (some v)) (ρ.set i (some (.sh ds[k]))) → Rep X.K cs (upd Z D (.lst acc')) F5 H5 (σ.set i none) (ρ.set i none) := fun {F5 H5 acc'} r => by
          have := r.drop i none
          rw [List.set_set, List.set_set] at this
          exact this
        by_cases hb : b = true
        · rw [if_pos hb] at e7
          show if b = true then _ else _
          rw [if_pos hb]
          obtain ⟨y, e8, e9⟩ := Option.bind_eq_some_iff.mp e7
          obtain ⟨rest', e10, rfl⟩ := Option.map_eq_some_iff.mp e9
          refine ⟨_, F4, _, y, R8, e8, fun u F5 H5 x5 R9 r9 => ⟨acc, (R9.zh D _ upd_same).1, ?_, ?_⟩⟩
          · have : (100000 : Nat) ≤ sizeLine := by decide
            omega
          · have x25 : Ext F2 F5 := (x3.trans x4).trans x5
            refine ⟨m - 1, by omega, by omega, F5, acc ++ [u], zs ++ [y], rest', x2.trans x25, back (R9.asideSet pl_lst pl_lst), S.mono _ _ _ _ x25 p5, (r5.ext x25).app (.cons r9 .nil), ?_, e10, ?_⟩
            · rw [List.length_append]
              simp only [List.length_cons, List.length_nil]
              omega
            · rw [hy, List.append_assoc]
              rfl
        · rw [if_neg hb] at e7
          show if b = true then _ else _
          rw [if_neg hb]
          have x24 : Ext F2 F4 := x3.trans x4
          exact ⟨m - 1, by omega, by omega, F4, acc, zs, rest, x2.trans x24, back R8, S.mono _ _ _ _ x24 p5, r5.ext x24, by omega, e7, hy⟩
    · have hd : ds.drop k = [] := List.drop_of_length_le (by omega)
      rw [hd] at e5
      cases e5
      rw [List.append_nil] at hy
      refine .inl ⟨S.stop _ F2 H2 _ _ k R5 p5 (by omega), ?_⟩
      obtain ⟨hDH, hDF⟩ := R5.zh D _ upd_same
      have RB : Rep X.K cs Z F2 H2 σ ρ := R1.restore hn (fun _ z => by cases z) x2 (fun a o h => by
        have ha : a ≠ D := ne_of_none h zD
        rw [upd_ne ha]
        exact h) R5
      refine q D F2 H2 (x1.trans x2) RB hDF zD mD ⟨acc, hDH, ?_⟩
      rw [hy]
      exact r5
  · cases e2
end
end DS

namespace GxA
open PySem L2 GenW
open PyProof.Rows (AllBare)

/-! ## all(elt for x in it): the generator runs while all asks for it -/
/-- the generator's own frame -/
def gcx (X : Cx) (A : Around) (s0 : Shared) (H0 : Hp) (env : Env) (ex : List Addr) (pn : List (Addr × Obj)) (N : List Str) : Cx :=
  { X with A := A, N := N, s_0 := s0, H_0 := H0, env := env, outer := X.stack, stack := env :: X.stack, ex := ex, fn := fun _ => false, calm := true, pn := pn, xe := fun _ _ => False }
structure GScp (scope : Scope) (x : Str) : Prop where
  kind : scope.kind = .function
  co : scope.isCoroutine = false
  cell : ∀ y ∈ scope.names, y.2 ≠ .cell
  free : ∀ y ∈ scope.names, y.2 ≠ .free
  dot : scope.names.lookup (".0" : Str) = some NameKind.local
  loc : scope.names.lookup x = some .local
theorem lk_mem {α : Type} : ∀ {l : List (Str × α)} {n : Str} {k : α}, l.lookup n = some k → (n, k) ∈ l
  | (m, v) :: r, n, k, h => by
    rw [List.lookup_cons] at h
    split at h
    · rename_i e
      cases h
      rw [eq_of_beq e]
      exact List.mem_cons_self
    · exact List.mem_cons_of_mem _ (lk_mem h)
section
variable {X : Cx} {pins : List (Addr × Obj)} {σ : L2.St} {H : Hp} {s s' : Shared}
theorem Inv.gens (I : Inv X pins σ H s) (ho : s'.os = s.os) (hh : s'.heap = s.heap) (hb : AllBare s'.gens) : Inv X pins σ H s' :=
  ⟨I.ok, ho.trans I.os, hb, by rw [hh]; exact I.base, by rw [hh]; exact I.loc, by rw [hh]; exact I.cell, I.free, I.freeC, by rw [hh]; exact I.pin, by rw [hh]; exact I.hok, I.len⟩
end
abbrev gexp (elt iter : Expr) (x : Str) (px gpos : Pos) (scope : Scope) : Expr := .GeneratorExp elt [⟨.Name x px, iter, [], 0⟩] scope gpos
section
variable {A : Around} {elt iter : Expr} {x : Str} {px gpos : Pos} {scope : Scope} {it : Addr} {env : Env}
theorem over_loop_handled : (A.over (.compLoop (gexp elt iter x px gpos scope) 0 (.ref it) .none env) []).handled = A.handled := rfl
theorem over_loop_depth : (A.over (.compLoop (gexp elt iter x px gpos scope) 0 (.ref it) .none env) []).depth = A.depth + 1 := rfl
theorem over_loop_units : (A.over (.compLoop (gexp elt iter x px gpos scope) 0 (.ref it) .none env) []).units ≤ A.units + 3 := Nat.le_of_eq rfl
theorem over_loop_frames {l : List Env} (h : A.frames = some l) : (A.over (.compLoop (gexp elt iter x px gpos scope) 0 (.ref it) .none env) []).frames = some (env :: l) := by
  simp [Around.over, h, pushEnvs, envsOf, Code.envs, Code.env?, Code.isFrame, Code.weight, Code.frames, Code.isInlined]
end
abbrev gC (X : Cx) (A2 : Around) (elt iter : Expr) (x : Str) (px gpos : Pos) (scope : Scope) (it : Addr) (s0 : Shared) (H0 : Hp) (env : Env) (fp : List Addr) (pn : List (Addr × Obj)) : Cx :=
  gcx X (A2.over (.compLoop (gexp elt iter x px gpos scope) 0 (.ref it) .none env) []) s0 H0 env fp pn [x]
/-- what is asked: W goes on turn by turn -/
def tAllG (P : Addr) (wi : TI) (te : TE) : TE := fun σ H Q => wi σ H fun J H1 => H1 P = some (.ext (DS.tabP P)) ∧ ∃ W : Nat → Nat → Hp → Prop, (∃ m, W 0 m H1) ∧ ∀ i m H2, W i m H2 →
  (J.stop i H2 ∧ Q (.bl true) H2) ∨ (J.go i H2 ∧ ∀ y H3, J.yld i H2 y H3 → te [some y] H3 fun v H4 => ∃ b, v = .bl b ∧ if b = true then ∃ m', m' < m ∧ W (i + 1) m' H4 else Q (.bl false) H4)

section
variable {X : Cx} {elt iter : Expr} {x : Str} {px gpos : Pos} {scope : Scope} {wi : TI} {te : TE} {k : Nat}

/-- the protocol: True goes on, False is the end -/
def YB (X : Cx) (pn : List (Addr × Obj)) (Gx : Cx) (Q : VK) : Protocol := fun n s₀ v s kap => ∃ b σ H, v = .bool b ∧ Inv Gx [] σ H s ∧ (b = false → Q (.bl false) H) ∧
  (b = true → ∀ s', s'.os = s.os → s'.heap = s.heap → AllBare s'.gens → kap (.send .none) s')
def RB (Gx : Cx) (Q : VK) : GenEnd := fun n s₀ r s => r = .ok .next ∧ (∃ σ H, Inv Gx [] σ H s ∧ Q (.bl true) H)

theorem seg_turns {A2 : Around} {s0 : Shared} {H0 : Hp} {env : Env} {fp : List Addr} {pn : List (Addr × Obj)} {it : Addr} {tn : Nat → Heap → Prop} {J : It} {Q : VK} {W : Nat → Nat → Hp → Prop}
    (S : GScp scope x) (henv : env.scope = scope)
    (hel : PE (gC X A2 elt iter x px gpos scope it s0 H0 env fp pn) elt te)
    (T : Turn X.prog X.w X.K (.Name x px) J fp it tn)
    (hfp : ∀ {H : Hp}, (∀ b ∈ fp, H b = none) → ∀ b ∈ fp, FpOk (gC X A2 elt iter x px gpos scope it s0 H0 env fp pn) [] H b)
    (turn : ∀ i m H2, W i m H2 → (J.stop i H2 ∧ Q (.bl true) H2) ∨ (J.go i H2 ∧ ∀ y H3, J.yld i H2 y H3 → te [some y] H3 fun v H4 => ∃ b, v = .bl b ∧ if b = true then ∃ m', m' < m ∧ W (i + 1) m' H4 else Q (.bl false) H4)) :
    ∀ (n i m : Nat) (s₀ s : Shared) (σ : L2.St) (H : Hp), m < n → W i m H → Inv (gC X A2 elt iter x px gpos scope it s0 H0 env fp pn) [] σ H s → tn i s.heap → (∀ b ∈ fp, H b = none) →
      Seg (model X.prog X.w) A2 (RB (gC X A2 elt iter x px gpos scope it s0 H0 env fp pn) Q) (YB X pn (gC X A2 elt iter x px gpos scope it s0 H0 env fp pn) Q) n s₀
        (.compLoop (gexp elt iter x px gpos scope) 0 (.ref it) .none env) ((model X.prog X.w).den (.compLoop (gexp elt iter x px gpos scope) 0 (.ref it) .none env)) [] s := by
  intro n
  induction n with
  | zero => intro i m s₀ s σ H hm; exact absurd hm (Nat.not_lt_zero m)
  | succ n ih =>
    intro i m s₀ s σ H hm hw I st hf
    have kx : env.kindOf x = some .local := by
      show env.scope.names.lookup x = _
      rw [henv]
      exact S.loc
    show Seg _ A2 _ _ _ s₀ _ ((compTurn (gexp elt iter x px gpos scope) 0 (.ref it) .none env).onRaise (leaving env)) [] s
    rw [compTurn_gen, Sem.onRaise_eq_wrap]
    refine seg_bind_wrap (wpAny_standAt ?_)
    rcases turn i m H hw with ⟨hstop, hq⟩ | ⟨hgo, hgoes⟩
    · refine seg_bind_wrap (thn (T.done (gC X A2 elt iter x px gpos scope it s0 H0 env fp pn) rfl rfl rfl rfl i [] s σ H _ I (hfp hf) st hstop) fun r s1 ⟨hr, I1⟩ => ?_)
      subst hr
      exact seg_end (.ok .next) ⟨rfl, σ, H, I1, hq⟩
    · refine seg_bind_wrap (thn (T.item (gC X A2 elt iter x px gpos scope it s0 H0 env fp pn) rfl rfl rfl rfl i [] s σ H _ I (hfp hf) st hgo) fun r s1 ⟨u, hr, h1⟩ => ?_)
      subst hr
      refine seg_bind_wrap (thn h1 fun _ s2 ⟨y, H2, I2, ry, hy, st2, hf2⟩ => ?_)
      have I2' := I2.pinned (hfp hf2) (T.obj _ _ st2)
      have hlen : σ.length = 1 := I2.len
      refine seg_bind_wrap (wpAny_mono ((pg_name (i := 0) (X := gC X A2 elt iter x px gpos scope it s0 H0 env fp pn) (List.nodup_cons.mpr ⟨by simp, List.nodup_nil⟩) rfl (.inl kx) (.inr kx)).run _ s2 σ H2 y u (fun σ' H' => σ' = [some y] ∧ H' = H2) I2' ry ?_) (fun _ s3 ⟨σ3, H3, I3, e1, e2⟩ => ?_) fun _ _ z => False.elim z)
      · match σ, hlen with
        | [z], _ => exact ⟨rfl, rfl⟩
      subst e1 e2
      simp only [List.forIn_nil]
      refine seg_bind_wrap (wpAny_pure ?_)
      simp only [if_true]
      have hyo : ∀ v, yieldOut env v = yieldValue v := fun v => by simp only [yieldOut, henv, S.co, Bool.false_eq_true, if_false]
      simp only [hyo]
      rw [Sem.bind_eq_wrap', Sem.bind_eq_wrap', Sem.wrap_wrap, Sem.wrap_wrap]
      refine seg_wrap (wpAny_mono (hel.run _ s3 [some y] _ _ I3 (hgoes y _ hy)) (fun v s4 ⟨v', H4, I4, rv, b, eb, hb⟩ => ?_) fun _ _ z => False.elim z)
      subst eb
      obtain rfl : v = Value.bool b := rv
      have st4 : tn (i + 1) s4.heap := T.keep _ _ _ st2 fun c hc o e => (I4.pin (c, o) (List.mem_append_right _ (List.mem_append_right _ (mem_pinsAt hc e)))).1
      have hf4 : ∀ c ∈ fp, H4 c = none := fun c hc => by
        obtain ⟨o, ho, _⟩ := T.obj _ _ st2 c hc
        exact (I4.pin (c, o) (List.mem_append_right _ (List.mem_append_right _ (mem_pinsAt hc ho)))).2.1
      have I5 := I4.unpinned
      refine seg_at (seg_yield rfl rfl rfl ⟨b, [some y], H4, rfl, I5, fun hbf => ?_, fun hbt s' ho hh hba => ?_⟩)
      · rw [hbf, if_neg Bool.false_ne_true] at hb
        exact hb
      · rw [hbt, if_pos rfl] at hb
        obtain ⟨m', hm', hw'⟩ := hb
        exact seg_again rfl (ih (i + 1) m' s' s' [some y] H4 (by omega) hw' (Inv.gens I5 ho hh hba) (by rw [hh]; exact st4) hf4)

theorem seg_first {A2 : Around} {env : Env} {fp : List Addr} {it : Addr} {tn : Nat → Heap → Prop} {J : It} {R : GenEnd} {Y : Protocol} {n : Nat} {s₀ s : Shared}
    (T : Turn X.prog X.w X.K (.Name x px) J fp it tn) (st : tn 0 s.heap)
    (loop : Seg (model X.prog X.w) A2 R Y n s₀ (.compLoop (gexp elt iter x px gpos scope) 0 (.ref it) .none env) ((model X.prog X.w).den (.compLoop (gexp elt iter x px gpos scope) 0 (.ref it) .none env)) [] s) :
    Seg (model X.prog X.w) A2 R Y n s₀ (.compStart (gexp elt iter x px gpos scope) 0 (.ref it) .none env) ((model X.prog X.w).den (.compStart (gexp elt iter x px gpos scope) 0 (.ref it) .none env)) [] s := by
  show Seg _ A2 _ _ _ s₀ _ ((compStart (gexp elt iter x px gpos scope) 0 (.ref it) .none env).onRaise (leaving env)) [] s
  unfold compStart
  rw [Sem.onRaise_eq_wrap]
  show Seg _ A2 _ _ _ s₀ _ ((ask >>= _).wrap _ _ _ _) [] s
  refine seg_bind_wrap (wpAny_askSetting ?_)
  split
  · exact seg_again rfl loop
  · first
      | exact seg_bind_wrap (wpAny_rule (seg_bind_wrap (wpAny_standAt (seg_bind_wrap (T.self _ 0 s _ _ st (seg_again rfl loop))))))
      | (refine seg_bind_wrap (wpAny_rule ?_); show Seg _ A2 _ _ _ s₀ _ ((standAt iter.pos >>= _).wrap _ _ _ _) [] s; exact seg_bind_wrap (wpAny_standAt (seg_bind_wrap (T.self _ 0 s _ _ st (seg_again rfl loop)))))

theorem all_turns {Gx : Cx} {pn : List (Addr × Obj)} {pins : List (Addr × Obj)} {σ : L2.St} {Q : VK} {a : Addr} {g : Nat} (hh : X.A.handled = none) (hd : X.A.depth < recursionLimit)
    (hpin : ∀ (σ' : L2.St) (H' : Hp) (s' : Shared), Inv Gx [] σ' H' s' → s'.heap.IsGen a g) (back : ∀ (σ' : L2.St) (H' : Hp) (s' : Shared), Inv Gx [] σ' H' s' → Inv X pins σ H' s') :
    ∀ (n : Nat) (s : Shared) (gs : GenState), s.heap.IsGen a g → s.heap.NoLimit → s.gens[g]? = some gs → gs.Goes (model X.prog X.w) X.A.in1.in1 (RB Gx Q) (YB X pn Gx Q) n (.send .none) (s.setGen g .running) →
      codeAny (model X.prog X.w) X.A (.builtin "all.loop" ⟨[.ref a], []⟩) (fun r s' => match r with
        | .ok (.ret v) => EP X pins σ Q v s'
        | .ok _ => False
        | .error e => X.xe e s') s := by
  intro n
  induction n with
  | zero =>
    intro s gs hg hl hgs hgo
    refine codeAny_builtin PySem.F.entry_all_loop ?_
    rw [Around.under_plainId PySem.F.plain_all_loop _]
    show wpAny _ X.A.in1 (pyNext (.ref a) >>= _) _ _ s
    refine wpAny_bind (wpAny_pyNext_genexpQ (A := X.A.in1) (P := fun _ _ s1 => ∃ σ1 H1, Inv Gx [] σ1 H1 s1 ∧ Q (.bl true) H1) hh hl hd hg hgs hgo (fun v s₁ gs' hb hv => ?_) (fun s₁ hp h' hk => ?_))
    · obtain ⟨b, σ1, H1, rfl, I1, hF, hT⟩ := hv
      refine wpAny_bind (wpAny_holding (wpAny_truthy_bool ?_))
      refine wpAny_bind (wpAny_letGo ?_)
      cases b with
      | true => exact (hT rfl s₁ rfl rfl I1.bare).elim
      | false =>
        simp only [Bool.false_eq_true, if_false]
        refine wpAny_bind (wpAny_rule (wpAny_pure ?_))
        exact ⟨.bl false, H1, back _ _ _ (Inv.gens I1 rfl rfl (allBare_setGen I1.bare hb)), rfl, hF rfl⟩
    · obtain ⟨σ1, H1, I1, q1⟩ := hp
      refine wpAny_bind (wpAny_rule (wpAny_pure ?_))
      have I2 := Inv.gens (s' := s₁.setGen g .finished) I1 rfl rfl (allBare_setGen I1.bare rfl)
      exact ⟨.bl true, H1, back _ _ _ (I2.kept (t' := (s₁.setGen g .finished).toks) hk), rfl, q1⟩
  | succ n ih =>
    intro s gs hg hl hgs hgo
    have hgl : g < s.gens.size := (Array.getElem?_eq_some_iff.mp hgs).1
    refine codeAny_builtin PySem.F.entry_all_loop ?_
    rw [Around.under_plainId PySem.F.plain_all_loop _]
    show wpAny _ X.A.in1 (pyNext (.ref a) >>= _) _ _ s
    refine wpAny_bind (wpAny_gsz (n := g + 1) hgl (wpAny_pyNext_genexpQ (A := X.A.in1) (P := fun _ _ s1 => ∃ σ1 H1, Inv Gx [] σ1 H1 s1 ∧ Q (.bl true) H1) hh hl hd hg hgs hgo (fun v s₁ gs' hb hv => ?_) (fun s₁ hp h' hk => ?_)))
    · intro hsz
      obtain ⟨b, σ1, H1, rfl, I1, hF, hT⟩ := hv
      refine wpAny_bind (wpAny_holding (wpAny_truthy_bool ?_))
      refine wpAny_bind (wpAny_letGo ?_)
      have hgl1 : g < s₁.gens.size := by
        have h2 : (s₁.setGen g gs').gens.size = s₁.gens.size := setGen_size s₁ g gs'
        have h3 : g + 1 ≤ (s₁.setGen g gs').gens.size := hsz
        omega
      have I2 := Inv.gens (s' := s₁.setGen g gs') I1 rfl rfl (allBare_setGen I1.bare hb)
      cases b with
      | true =>
        simp only [if_true]
        refine wpAny_pure ⟨plainId_quiet PySem.F.plain_all_loop _, ih _ gs' (hpin _ _ _ I2) I2.nolimit (setGen_at hgl1) ?_⟩
        exact hT rfl _ rfl rfl (allBare_setGen (allBare_setGen I1.bare hb) rfl)
      | false =>
        simp only [Bool.false_eq_true, if_false]
        refine wpAny_bind (wpAny_rule (wpAny_pure ?_))
        exact ⟨.bl false, H1, back _ _ _ I2, rfl, hF rfl⟩
    · intro _
      obtain ⟨σ1, H1, I1, q1⟩ := hp
      refine wpAny_bind (wpAny_rule (wpAny_pure ?_))
      have I2 := Inv.gens (s' := s₁.setGen g .finished) I1 rfl rfl (allBare_setGen I1.bare rfl)
      exact ⟨.bl true, H1, back _ _ _ (I2.kept (t' := (s₁.setGen g .finished).toks) hk), rfl, q1⟩

theorem clo_none {cells : List (Str × Addr)} : ∀ {names : List (Str × NameKind)} {acc : List (Str × Addr)}, (∀ y ∈ names, y.2 ≠ .free) → cloFrom cells names acc = acc
  | [], acc, _ => rfl
  | (n, k) :: r, acc, h => by
    have hk : k ≠ .free := h (n, k) List.mem_cons_self
    unfold cloFrom
    cases k <;> first | exact absurd rfl hk | (exact clo_none fun y hy => h y (List.mem_cons_of_mem _ hy))

/-- the generator's frame at its begin -/
theorem inv_gen {pins : List (Addr × Obj)} {σ : L2.St} {H : Hp} {s2 s5 : Shared} {A' : Around} {env : Env} {fp : List Addr} {a : Addr} {go : Obj} (I : Inv X pins σ H s2) (S : GScp scope x) (henv : env.scope = scope) (hglob : env.globals = X.env.globals) (hblt : env.builtins = builtinsNs) (hcells : env.cells = [])
    (hfr : env.frame = some env.locals) (hlo : s2.heap.objs.size ≤ env.locals) (hA : A'.handled = none) (hAf : A'.frames = some (env :: X.stack)) (hfp : ∀ b ∈ fp, FpOk X pins H b ∧ b < s2.heap.objs.size)
    (hos : s5.os = s2.os) (hba : AllBare s5.gens) (hun : Un (frs X.stack) fp H H s2.heap s5.heap) (hok : HOk X.prog X.w H s5.heap) (hns : ∃ m, s5.heap.Ns env.locals m)
    (ha : s5.heap.get? a = some go) (hag : env.locals < a) (hgo : ∀ v, go.data ≠ .cell v) :
    Inv (gcx X A' s2 H env fp [(a, go)] [x]) [] [none] H s5 := by
  have noc : ∀ y c, env.cells.lookup y = some c → False := fun y c e => by
    rw [hcells] at e
    cases e
  have hn : ∀ {b : Addr}, s2.heap.objs.size ≤ b → H b = none := fun {b} hb => I.hok.fresh hb
  have nost : ∀ {b : Addr}, s2.heap.objs.size ≤ b → b ∉ frs X.stack := fun {b} hb hm => by
    rcases List.mem_cons.mp (I.stkSub b hm) with z | z
    · have := I.lt
      rw [z] at hb
      exact absurd (Nat.lt_of_lt_of_le this hb) (Nat.lt_irrefl _)
    · exact I.nofs hb z
  refine ⟨⟨I.ok.mod, ?_, hglob.trans I.ok.glob, hblt, hlo, fun y z c h1 _ => (noc y c h1).elim, fun y hy => ?_, fun y c _ h => (noc y c h).elim, fun _ => hA, hAf, .inr ⟨rfl, hfr⟩, fun b hb => ⟨?_, fun y c h => (noc y c h).elim⟩, I.bs, Nat.le_trans I.ok.bsz I.sz, fun b o e hb => ?_, fun b hb hm => ?_, I.stack, I.stkFree⟩,
    hos, hba, hun, ?_, fun y c h => (noc y c h).elim, hn hlo, fun y c h => (noc y c h).elim, fun p hp => ?_, hok, rfl⟩
  · show env.scope.kind = _
    rw [henv]
    exact S.kind
  · have hy : env.scope.names.lookup y = some .cell ∨ env.scope.names.lookup y = some .free := hy
    rw [henv] at hy
    rcases hy with hy | hy
    · exact absurd rfl (S.cell _ (lk_mem hy))
    · exact absurd rfl (S.free _ (lk_mem hy))
  · exact Nat.ne_of_lt (Nat.lt_of_lt_of_le (hfp b hb).2 hlo)
  · obtain ⟨⟨_, _, _, h4, _⟩, _⟩ := hfp b hb
    rcases h4 with z | z
    · exact I.ok.noex b o e z
    · have := Heap.lt_size (I.ok.bs b o e).1
      exact absurd (Nat.lt_of_lt_of_le this z) (Nat.lt_irrefl _)
  · obtain ⟨⟨_, h2, h3, _⟩, _⟩ := hfp b hb
    rcases List.mem_cons.mp (I.stkSub b hm) with z | z
    · exact h2 z
    · exact h3 z
  · obtain ⟨m, hm⟩ := hns
    refine ⟨m, hm, fun i y v e1 e2 => ?_⟩
    cases i with
    | zero => cases e2
    | succ i => simp at e2
  · rw [List.append_nil] at hp
    rw [List.mem_singleton.mp hp]
    have hs : s2.heap.objs.size ≤ a := Nat.le_trans hlo (Nat.le_of_lt hag)
    exact ⟨ha, hn hs, Nat.ne_of_gt hag, nost hs, hgo⟩

theorem room_gen {A2 : Around} {k : Nat} (hr : Room (k + 1) A2) (env : Env) (it : Addr) : Room k (A2.in1.in1.over (.compLoop (gexp elt iter x px gpos scope) 0 (.ref it) .none env) []) := by
  refine ⟨hr.hd, ?_, ?_⟩
  · have := hr.dp
    rw [over_loop_depth]
    show A2.depth + 1 + 3 * k + 5 < _
    omega
  · have h1 := hr.un
    have h2 := over_loop_units (A := A2.in1.in1) (elt := elt) (iter := iter) (x := x) (px := px) (gpos := gpos) (scope := scope) (it := it) (env := env)
    have h3 : A2.in1.in1.units = A2.units + 2 := rfl
    omega
theorem pe_allG {c P : Addr} {p pos : Pos} (hr : Room (k + 1) X.A) (hc : X.calm = true) (hg : Gl X "all") (hm : X.mg "all" = none) (hb : bootBuiltins "all" = some (.builtin "all")) (TB : GxR.TabB X.base X.mg c P) (hcode : X.env.code = .ref c) (S : GScp scope x) (hi : PI X (.Name x px) iter wi)
    (hel : ∀ (A' : Around) (s0 : Shared) (H0 : Hp) (C : Addr) (code : Value) (ex : List Addr) (pn : List (Addr × Obj)), Room k A' → PE (gcx X A' s0 H0 (genEnv scope [] C code builtinsNs X.env) ex pn [x]) elt te)
    (hs : ∀ v, genFold iter X.env v = pure v)
    (he : starEach [gexp elt iter x px gpos scope] X.env = (false, eval (gexp elt iter x px gpos scope) X.env) :: starEach [] X.env := by rfl) :
    PE X (.Call (.Name "all" p) [gexp elt iter x px gpos scope] [] pos) (tAllG P wi te) := by
  refine ⟨fun pins s σ H Q I h => ?_⟩
  refine wpAny_Call_Name_kw (ld_blt I hg hm hb ?_)
  refine PyProof.Rows.callWith_builtin1 ?_ he (by rfl)
  rw [he]
  show wpAny _ _ (spliced ((false, eval (gexp elt iter x px gpos scope) X.env) :: backTo pos (starEach [] X.env))) _ _ s
  refine Calls.spliced_cons ?_
  have clo : closureFor scope X.env = pure [] := by
    rw [closure_ok (fun y hy z => absurd z (S.free y hy)), clo_none S.free]
  refine wpAny_GeneratorExp_make S.co clo S.cell S.dot S.kind hr.depth ?_ hs
  refine thn (hi.run pins s σ H _ I h) fun xv s1 h1 => thn h1 fun itv s2 h2 => ?_
  obtain ⟨it, fp, tn, J, H2, rfl, I2, T, st2, hfp, hP, W, ⟨m0, hw0⟩, turn⟩ := h2
  refine ⟨I2.nolimit, ?_⟩
  obtain ⟨⟨ps, hPs, ht⟩, _⟩ := (show ObjOk X.prog X.w H2 s2.heap P (.ext (DS.tabP P)) from I2.hok P _ hP)
  have cd : PySem.W.CodeHd s2.heap c P := TB.code.keeps I2.bk
  have cont : ∀ (code : Value) (h3 : Heap) (tk : Nat) (ps' : Array Value), Heap.ExtBut P s2.heap h3 → s2.heap.objs.size ≤ h3.objs.size → h3.get? P = some { cls := .none, data := .fields ps' } → TriplesOk ps'.toList →
      wpAny (model X.prog X.w) X.A (builtinsFor X.env.globals X.env.builtins) (fun bi s₄ =>
        ∀ h', h'.Ns s₄.heap.objs.size (fun y => if y = ".0" then some (Value.ref it) else none) → Heap.SameBut s₄.heap.objs.size (s₄.heap.push { cls := .type "frame", data := .dict #[] }) h' →
          wpAny (model X.prog X.w) X.A (spliced (backTo pos (starEach [] X.env))) (fun us s9 => wpAny (model X.prog X.w) X.A (call (.builtin "all") (.ref h'.objs.size :: us)) (EP X pins σ Q) X.xe s9) X.xe
            { s₄ with
              gens := s₄.gens.push (.fresh (.compStart (gexp elt iter x px gpos scope) 0 (.ref it) .none (genEnv scope [] s₄.heap.objs.size code bi X.env))),
              toks := s₄.toks + 1 + 1 + 1,
              heap := h'.push { cls := .type "generator", data := .fields #[.int s₄.gens.size 0, .str "<genexpr>" (s₄.toks + 1), .str (X.env.qual ++ "<genexpr>") (s₄.toks + 1 + 1)] } }) X.xe { s2 with heap := h3, toks := tk } := by
    intro code h3 tk ps' hx hsz hP3 ht3
    obtain ⟨bm, ob, e1, e2, e3, e4, e5, e6, e7, e8⟩ := TB.bm
    have keep3 : ∀ b u, b ≠ P → s2.heap.get? b = some u → h3.get? b = some u := fun b u hb e => hx b u hb e
    refine wpAny_builtinsFor (m := X.mg) (by rw [I2.ok.glob]; exact (I2.mod.glob.keeps I2.bk).extBut hx TB.gP) e1 e2 (keep3 _ _ e4 (I2.bk _ _ e5)) e6 e7 e8 ?_
    intro h' hn' hs'
    refine Calls.spliced_nil ?_
    have hsz' : h'.objs.size = h3.objs.size + 1 := by rw [hs'.1, Heap.size_push]
    generalize hgo : ({ cls := .type "generator", data := .fields #[.int s2.gens.size 0, .str "<genexpr>" (tk + 1), .str (X.env.qual ++ "<genexpr>") (tk + 1 + 1)] } : Obj) = go
    have hgc : go.cls = .type "generator" := by rw [← hgo]
    have hgd : go.data = .fields #[.int s2.gens.size 0, .str "<genexpr>" (tk + 1), .str (X.env.qual ++ "<genexpr>") (tk + 1 + 1)] := by rw [← hgo]
    have hgs : go.slots = #[] := by rw [← hgo]
    have hgp : (h'.push go).get? h'.objs.size = some go := by
      rw [← hgo]
      exact Heap.get?_push_size _ rfl
    have isg : ∀ {hh : Heap}, hh.get? h'.objs.size = some go → hh.IsGen h'.objs.size s2.gens.size := fun {hh} e => ⟨go, _, _, e, hgc, hgd, hgs⟩
    have keep5 : ∀ b u, b ≠ P → s2.heap.get? b = some u → (h'.push go).get? b = some u := fun b u hb e => by
      have q := keep3 b u hb e
      exact Heap.get?_push_of_some _ (hs'.extBut b u (Nat.ne_of_lt (Heap.lt_size q)) (Heap.get?_push_of_some _ q))
    have hPlt : P < h3.objs.size := Heap.lt_size hP3
    have hP5 : (h'.push go).get? P = some { cls := .none, data := .fields ps' } := Heap.get?_push_of_some _ (hs'.extBut P _ (Nat.ne_of_lt hPlt) (Heap.get?_push_of_some _ hP3))
    have nP : ∀ b, H2 b = none → b ≠ P := fun b hb z => by
      rw [z, hP] at hb
      cases hb
    have un5 : Un (frs X.stack) fp H2 H2 s2.heap (h'.push go) := by
      refine ⟨fun b o e n _ _ => keep5 b o (nP b n) e, fun b o e n _ _ => ⟨o.slots, keep5 b o (nP b n) e⟩, fun b o _ n _ => n, fun b o e _ => ?_, fun b xs q => q, fun b o u q => q, fun b qs q => ⟨#[], by rw [q]; simp⟩⟩
      by_cases hb : b = P
      · rw [hb]
        exact ⟨_, hP5⟩
      · exact ⟨o, keep5 b o hb e⟩
    have ok5 : HOk X.prog X.w H2 (h'.push go) := fun b o e => by
      by_cases hb : b = P
      · subst hb
        rw [hP] at e
        cases e
        obtain ⟨_, _, q3⟩ := (show ObjOk X.prog X.w H2 s2.heap b (.ext (DS.tabP b)) from I2.hok b _ hP)
        exact ⟨⟨ps', hP5, ht3⟩, ⟨_, hP5⟩, q3⟩
      · refine (I2.hok b o e).stay (fun d v hd q => keep5 d v (fun z => ?_) q) (fun _ q => q) fun _ _ q => q
        rcases hd with z2 | z2
        · exact hb (z2.symm.trans z)
        · rw [z, hP] at z2
          cases z2
    have flt : ∀ b ∈ fp, b < s2.heap.objs.size := fun b hb => by
      obtain ⟨o, ho, _⟩ := T.obj _ _ st2 b hb
      exact Heap.lt_size ho
    have fst : ∀ b ∈ fp, b ∉ frs X.stack := fun b hb hm => by
      obtain ⟨_, q2, q3, _⟩ := hfp b hb
      rcases List.mem_cons.mp (I2.stkSub b hm) with z | z
      · exact q2 z
      · exact q3 z
    have st5 : tn 0 (h'.push go) := T.keep _ _ _ st2 fun b hb o e => keep5 b o (nP b (hfp b hb).1) e
    have ba5 : AllBare (s2.gens.push (.fresh (.compStart (gexp elt iter x px gpos scope) 0 (.ref it) .none (genEnv scope [] h3.objs.size code builtinsNs X.env)))) := I2.bare.push rfl
    have IG : ∀ (s5 : Shared), s5.os = s2.os → s5.heap = h'.push go → AllBare s5.gens → Inv (gC X X.A.in1.in1 elt iter x px gpos scope it s2 H2 (genEnv scope [] h3.objs.size code builtinsNs X.env) fp [(h'.objs.size, go)]) [] [none] H2 s5 := fun s5 h5o h5h h5b => by
      have hns5 : ∃ m, s5.heap.Ns h3.objs.size m := ⟨fun y => if y = ".0" then some (Value.ref it) else none, by
        rw [h5h]
        exact hn'.push _⟩
      exact inv_gen I2 S rfl rfl rfl rfl rfl hsz (show X.A.in1.in1.handled = none from hr.hd) (over_loop_frames (show X.A.in1.in1.frames = some X.stack from I2.ok.frames)) (fun b hb => ⟨hfp b hb, flt b hb⟩) h5o h5b (by rw [h5h]; exact un5) (by rw [h5h]; exact ok5) hns5 (by rw [h5h]; exact hgp) (by show h3.objs.size < _; omega) fun v z => by rw [hgd] at z; cases z
    refine call_function_tree PySem.F.kind_all PySem.F.plain_all PySem.F.entry_all (PySem.F.args_all1 _) ?_
    unfold Builtin.«all»
    refine wpAny_bind (m := oneArg "all" _) (wpAny_pure ?_)
    refine wpAny_bind (wpAny_pyIter_gen (isg hgp) ?_)
    refine wpAny_pure ⟨plainId_quiet PySem.F.plain_all_loop _, ?_⟩
    refine all_turns (Gx := gC X X.A.in1.in1 elt iter x px gpos scope it s2 H2 (genEnv scope [] h3.objs.size code builtinsNs X.env) fp [(h'.objs.size, go)]) (pn := [(h'.objs.size, go)]) hr.hd hr.depth (fun σ' H' s' I' => isg (I'.pin (h'.objs.size, go) (List.mem_append_left _ List.mem_cons_self)).1) (fun σ' H' s' I' => ?_) (m0 + 1) _ _ (isg hgp) ?_ (Array.getElem?_push_size ..) ?_
    · exact I2.call' (ch := fp) I'.os I'.base I'.hok I'.bare fun b hb => by
        obtain ⟨_, q2, q3, q4, q5, q6⟩ := hfp b hb
        exact ⟨q4, q2, q5, q6⟩
    · exact (IG { s2 with gens := s2.gens.push (.fresh (.compStart (gexp elt iter x px gpos scope) 0 (.ref it) .none (genEnv scope [] h3.objs.size code builtinsNs X.env))), toks := tk + 1 + 1 + 1, heap := h'.push go } rfl rfl ba5).nolimit
    · refine ⟨rfl, seg_first T st5 (seg_turns S rfl (hel _ _ _ _ _ _ _ (room_gen hr _ _)) T (fun {H'} hn b hb => ?_) turn (m0 + 1) 0 m0 _ _ [none] H2 (Nat.lt_succ_self m0) hw0 (IG _ rfl rfl (allBare_setGen ba5 rfl)) st5 fun b hb => (hfp b hb).1)⟩
      refine ⟨hn b hb, Nat.ne_of_lt (Nat.lt_of_lt_of_le (flt b hb) hsz), fst b hb, .inl hb, fun y cc e => (by cases e), fun p hp => ?_⟩
      rw [List.append_nil] at hp
      rw [List.mem_singleton.mp hp]
      have h9 : s2.heap.objs.size < h'.objs.size := by omega
      exact Nat.ne_of_gt (Nat.lt_trans (flt b hb) h9)
  cases hf : codeAmong gpos ps.toList with
  | none =>
    refine wpAny_genexprCodeX hcode (cd.code hPs ht) (cd.tab hPs) hf fun c' h' tk hx hge hlt hco' _ htab' _ => ?_
    obtain ⟨o1, vs, f1, tf, fl, tg, inF, tx, tt, op, _, _, _, _, _, _, _, _, _, htr, _⟩ := hco'
    exact cont _ h' tk _ hx (Nat.le_trans hge (Nat.le_of_lt hlt)) htab'.2 htr
  | some cv =>
    refine wpAny_genexprCode_hit hcode (cd.code hPs ht) hf ?_
    exact cont cv s2.heap s2.toks ps (Heap.ExtBut.refl _ _) (Nat.le_refl _) hPs ht
end
end GxA

namespace DS
open PySem L2

/-! ## all over a generator expression -/
def allD (fe : Nv → Option D) : List D → Option Bool
  | [] => some true
  | d :: ds => (fe [some (.sh d)]).bind fun r => (asB r).bind fun b => if b = true then allD fe ds else some false
section
variable {cs : List Tb} {X : Cx} {elt iter : Expr} {x : Str} {px gpos p pos : Pos} {scope : Scope} {f : Nv → Option (List D)} {fe : Nv → Option D} {k : Nat} {c P : Addr}
theorem e_allG (hr : Room (k + 1) X.A) (hc : X.calm = true) (hg : Gl X "all") (hm : X.mg "all" = none) (TB : GxR.TabB X.base X.mg c P) (hcode : X.env.code = .ref c) (hP : (P, none) ∈ cs) (S : GxA.GScp scope x) (hi : EI cs X AnyP (.Name x px) iter f)
    (hel : ∀ (A' : Around) (s0 : Shared) (H0 : Hp) (C : Addr) (code : Value) (ex : List Addr) (pn : List (Addr × Obj)), Room k A' → EP' cs (GxA.gcx X A' s0 H0 (genEnv scope [] C code builtinsNs X.env) ex pn [x]) elt fe)
    (hb : bootBuiltins "all" = some (.builtin "all") := by decide +kernel)
    (hs : ∀ v, genFold iter X.env v = pure v := by intro _; rfl)
    (he : starEach [GxA.gexp elt iter x px gpos scope] X.env = (false, eval (GxA.gexp elt iter x px gpos scope) X.env) :: starEach [] X.env := by rfl) :
    EP' cs X (.Call (.Name "all" p) [.GeneratorExp elt [⟨.Name x px, iter, [], 0⟩] scope gpos] [] pos) (fun ρ => (f ρ).bind fun ds => (allD fe ds).map .bool) := by
  refine ⟨pe_imp (GxA.pe_allG (te := tP X.K cs fe) hr hc hg hm hb TB hcode S hi.h (fun A' s0 H0 C code ex pn h => (hel A' s0 H0 C code ex pn h).h) hs he) ?_⟩
  rintro σ H Q ⟨Z, F, ρ, d, R, ef, q⟩
  obtain ⟨ds, e1, e2⟩ := Option.bind_eq_some_iff.mp ef
  obtain ⟨b, e3, rfl⟩ := Option.map_eq_some_iff.mp e2
  refine ⟨Z, F, ρ, ds, R, e1, fun J Pr F1 H1 x1 R1 p1 hP' Sr => ⟨R1.fh _ _ (R1.tab.2 (P, none) hP), ?_⟩⟩
  refine ⟨fun i m H2 => i + m = ds.length ∧ ∃ F2, Ext F1 F2 ∧ Rep X.K cs Z F2 H2 σ ρ ∧ Pr F2 σ ρ ∧ allD fe (ds.drop i) = some b, ⟨ds.length, by omega, F1, Ext.refl F1, R1, p1, by rw [List.drop_zero]; exact e3⟩, ?_⟩
  rintro i m H2 ⟨hmi, F2, x2, R2, p2, e4⟩
  by_cases hlt : i < ds.length
  · have hd : ds.drop i = ds[i] :: ds.drop (i + 1) := List.drop_eq_getElem_cons hlt
    rw [hd] at e4
    obtain ⟨r, e5, e6⟩ := Option.bind_eq_some_iff.mp e4
    obtain ⟨b', e7, e8⟩ := Option.bind_eq_some_iff.mp e6
    have hr' := asB_some e7
    obtain ⟨hgo, hyl⟩ := Sr.go Z F2 H2 σ ρ i ds[i] R2 p2 (List.getElem?_eq_getElem hlt)
    refine .inr ⟨hgo, fun y H3 hy => ?_⟩
    obtain ⟨F3, x3, R3, r3⟩ := hyl y H3 hy
    refine ⟨oth F3 H3, F3, [some (.sh ds[i])], r, R3.lend (.cons r3 .nil), e5, fun v F4 H4 x4 R4 r4 => ⟨b', (hr' ▸ r4).isbl, ?_⟩⟩
    have RB := R3.back x4 R4
    by_cases hb' : b' = true
    · rw [if_pos hb'] at e8
      rw [if_pos hb']
      exact ⟨m - 1, by omega, by omega, F4, (x2.trans x3).trans x4, RB, Sr.mono _ _ _ _ (x3.trans x4) p2, e8⟩
    · rw [if_neg hb'] at e8
      rw [if_neg hb']
      cases e8
      exact q _ F4 H4 (((x1.trans x2).trans x3).trans x4) RB (.bl false)
  · have hd : ds.drop i = [] := List.drop_of_length_le (by omega)
    rw [hd] at e4
    cases e4
    exact .inl ⟨Sr.stop Z F2 H2 σ ρ i R2 p2 (by omega), q _ F2 H2 (x1.trans x2) R2 (.bl true)⟩
end

/-! ## a def whose code object is known -/
structure FunC (K : PySem.W.Frag) (x qual : Str) (st : Stmt) (f : Addr) (fd : FuncData) (c : Addr) : Prop where
  ex : ∃ (oc : Value) (od : Option Addr) (kV doc pm : Value) (an : Option Addr) (ct : Value) (osl : Array (Option Value)),
    fd = PySem.W.fnOf x qual (defArgs st) (defBody st) (defScope st) .none kV doc pm an (.ref c) ct ∧ K.lookup f = some ⟨oc, od, .func fd, osl⟩ ∧ PySem.W.codeIn K (.ref c) qual = true
  kp : PySem.W.keepIn K (.ref f) = true
theorem FunC.fn {K : PySem.W.Frag} {x qual : Str} {st : Stmt} {f : Addr} {fd : FuncData} {c : Addr} (F : FunC K x qual st f fd c) : Fun K x qual st f fd := by
  obtain ⟨oc, od, kV, doc, pm, an, ct, osl, h⟩ := F.ex
  exact ⟨⟨oc, od, kV, doc, pm, an, _, ct, osl, h⟩, F.kp⟩
theorem fnc_mk {K : PySem.W.Frag} {x qual : Str} {st : Stmt} {f c : Addr} {oc : Value} {od an : Option Addr} {osl : Array (Option Value)} {kV doc pm ct : Value} (l : K.lookup f = some ⟨oc, od, .func (PySem.W.fnOf x qual (defArgs st) (defBody st) (defScope st) .none kV doc pm an (.ref c) ct), osl⟩)
    (hc : PySem.W.codeIn K (.ref c) qual = true) (k : PySem.W.keepIn K (.ref f) = true) : FunC K x qual st f (PySem.W.fnOf x qual (defArgs st) (defBody st) (defScope st) .none kV doc pm an (.ref c) ct) c := ⟨⟨oc, od, kV, doc, pm, an, ct, osl, rfl, l, hc⟩, k⟩
theorem fn_dsC {P : Program} {w : World} {K : PySem.W.Frag} {mg : Str → Option Value} {base : Heap} {cs : List Tb} {x qual : Str} {st : Stmt} {f c : Addr} {fd : FuncData} {N ps : List Str} {k : Nat} {ms : List Md} {sem : List D → Option Ou} (F : FunC K x qual st f fd c) (S : FnScope N ps (defScope st)) (hm : ms.length = ps.length)
    (hbody : ∀ (A : Around) (outer : List Env) (s : Shared) (H : Hp) (E : XK), Room k (A.deeper (PyProof.Rows.envOfC qual (defScope st) s.heap.objs.size f (.ref c))) →
      ∃ g, SDs cs (cxOf CX0 P w K mg base N qual (defScope st) f (.ref c) A outer s H E).nox E (defBody st) g ∧ Comes ms (N.length - ps.length) g sem) :
    FnOk P w K mg base CX0 (k + 1) f fd ps (spD K cs ms sem) := by
  obtain ⟨oc, od, kV, doc, pm, an, ct, osl, rfl, lk, hcd⟩ := F.ex
  refine fn_of lk hcd S (fun vs H Q E h => ?_) fun A outer s H vs Q E hr h => ?_
  · obtain ⟨_, _, _, _, hv, _⟩ := h
    rw [hv, hm]
  · obtain ⟨g, h1, h2⟩ := hbody A outer s H E hr
    exact ⟨_, h1.h.nox, body_ends hm h2 h⟩

/-! ## the law's end, with tables of code objects -/
open Classical
/-- tables, as things that are known -/
noncomputable def toX (cs : List Addr) (H : Hp) : Hp := fun a => if a ∈ cs then some (.ext (tabP a)) else H a
noncomputable def unX (cs : List Addr) (T : Addr → Array Value) (H : Hp) : Hp := fun a => if a ∈ cs then some (.tbl (T a)) else H a
theorem tab_stay (p : Addr) : ∀ h1 h2 : Heap, tabP p h1 → (∀ o, h1.get? p = some o → h2.get? p = some o) → tabP p h2 := fun h1 h2 ⟨ps, e, t⟩ k => ⟨ps, k _ e, t⟩
theorem tri0 : TriplesOk ([] : List Value) := by
  first
    | trivial
    | exact ⟨rfl⟩
    | (unfold TriplesOk; simp)
section
variable {P : Program} {w : World} {K : PySem.W.Frag} {mg : Str → Option Value} {base : Heap} {CX : CXT} {k : Nat} {f : Addr} {fd : FuncData} {ps : List Str} {sp : Sp} {cs : List Addr}
/-- the law's promise over tables as the head leaves them: what is wanted does not hang on the heap -/
noncomputable def spTab (cs : List Addr) (sp : Sp) : Sp := fun vs H Q E => (∀ p ∈ cs, H p = some (.tbl #[])) ∧ (∀ v H1 H2, Q v H1 → Q v H2) ∧ sp vs (toX cs H) (fun v H' => Q v H' ∧ ∀ p ∈ cs, H' p = some (.ext (tabP p))) E
theorem toX_none {H : Hp} (h : ∀ p ∈ cs, H p = some (.tbl #[])) {b : Addr} : toX cs H b = none ↔ H b = none := by
  unfold toX
  by_cases hb : b ∈ cs
  · rw [if_pos hb, h b hb]
    simp
  · rw [if_neg hb]
theorem fn_tab (F : FnOk P w K mg base CX0 k f fd ps sp) : FnOk P w K mg base CX0 k f fd ps (spTab cs sp) := by
  refine ⟨fun vs H Q E h => F.len _ _ _ _ h.2.2, fun A outer s H args us vs Q E hr e0 hb hv h => ?_⟩
  obtain ⟨hT, hQ, hs⟩ := h
  have kp : ∀ b o, H b = some o → b ∉ cs → toX cs H b = some o := fun b o e hb => by
    unfold toX
    rw [if_neg hb]
    exact e
  have ok : HOk P w (toX cs H) s.heap := fun b o e => by
    unfold toX at e
    by_cases hb : b ∈ cs
    · rw [if_pos hb] at e
      cases e
      have q : s.heap.get? b = some { cls := .none, data := .fields #[] } := e0.hok b _ (hT b hb)
      exact ⟨⟨#[], q, tri0⟩, ⟨_, q⟩, tab_stay b⟩
    · rw [if_neg hb] at e
      refine (e0.hok b o e).stay (fun _ _ _ q => q) (fun d q => kp d _ q fun z => ?_) fun d xs q => kp d _ q fun z => ?_
      · rw [hT d z] at q
        cases q
      · rw [hT d z] at q
        cases q
  have e1 : Env0 P w K mg base A outer s (toX cs H) := ⟨e0.frames, e0.mod, fun b o e => ⟨(e0.bs b o e).1, (toX_none hT).mpr (e0.bs b o e).2⟩, e0.bsz, e0.funs, fun b hb => (toX_none hT).mpr (e0.frf b hb), ok, e0.bare⟩
  refine codeAny_mono (F.run A outer s (toX cs H) args us vs _ E hr e1 hb hv hs) fun r s' hq => ?_
  cases r with
  | error e => exact hq.elim
  | ok fl =>
    cases fl with
    | next => exact hq
    | brk => exact hq
    | cont => exact hq
    | ret u =>
      obtain ⟨v, H', os, bare, un, hok, rv, q, hx⟩ := hq
      have ht : ∀ p, ∃ T : Array Value, p ∈ cs → s'.heap.get? p = some { cls := .none, data := .fields T } := fun p => by
        by_cases hp : p ∈ cs
        · obtain ⟨⟨T, e, _⟩, _⟩ := (show ObjOk P w H' s'.heap p (.ext (tabP p)) from hok p _ (hx p hp))
          exact ⟨T, fun _ => e⟩
        · exact ⟨#[], fun z => absurd z hp⟩
      have T : Addr → Array Value := fun p => Classical.choose (ht p)
      have hT' : ∀ p ∈ cs, s'.heap.get? p = some { cls := .none, data := .fields (Classical.choose (ht p)) } := fun p hp => Classical.choose_spec (ht p) hp
      have ku : ∀ b o, H' b = some o → b ∉ cs → unX cs (fun p => Classical.choose (ht p)) H' b = some o := fun b o e hb => by
        unfold unX
        rw [if_neg hb]
        exact e
      refine ⟨v, unX cs (fun p => Classical.choose (ht p)) H', os, bare, ⟨fun b o e n hb1 hb2 => un.keep b o e ((toX_none hT).mpr n) hb1 hb2, fun b o e n hb1 hb2 => un.slot b o e ((toX_none hT).mpr n) hb1 hb2, fun b o e n hb2 => ?_, fun b o e hb2 => un.there b o e hb2, fun b xs e => ?_, fun b o u e => ?_, fun b ps e => ?_⟩, fun b o e => ?_, rv, hQ _ _ _ q⟩
      · have h1 := un.free b o e ((toX_none hT).mpr n) hb2
        unfold unX
        rw [if_neg fun z => by rw [hx b z] at h1; cases h1]
        exact h1
      · have hb : b ∉ cs := fun z => by rw [hT b z] at e; cases e
        exact ku b _ (un.tups b xs (kp b _ e hb)) hb
      · have hb : b ∉ cs := fun z => by rw [hT b z] at e; cases e
        exact ku b _ (un.frzs b o u (kp b _ e hb)) hb
      · by_cases hb : b ∈ cs
        · rw [hT b hb] at e
          cases e
          refine ⟨Classical.choose (ht b), ?_⟩
          unfold unX
          rw [if_pos hb]
          simp
        · obtain ⟨more, h1⟩ := un.tbls b ps (kp b _ e hb)
          exact ⟨more, ku b _ h1 hb⟩
      · unfold unX at e
        by_cases hb : b ∈ cs
        · rw [if_pos hb] at e
          cases e
          exact hT' b hb
        · rw [if_neg hb] at e
          refine (hok b o e).stay (fun _ _ _ q => q) (fun d q => ku d _ q fun z => ?_) fun d xs q => ku d _ q fun z => ?_
          · rw [hx d z] at q
            cases q
          · rw [hx d z] at q
            cases q
/-- what the law is to do: True, whatever the script -/
noncomputable def semLaw (n : Nat) : List D → Option Ou := fun ds => if ∃ ns : List Int, ds = [.list (ns.map .int)] ∧ ns.length ≤ n then some (.ret (.bool true) false []) else none
theorem rps_ints {F : Hp} : ∀ ns : List Int, Rps K F (ns.map V.int) (ns.map PyData.int)
  | [] => .nil
  | n :: ns => .cons (.int n) (rps_ints ns)
def exts (ts : List Tb) : List Addr := (ts.filter fun t => t.2.isNone).map (·.1)
theorem mem_exts {ts : List Tb} {p : Addr} : p ∈ exts ts ↔ (p, none) ∈ ts := by
  unfold exts
  rw [List.mem_map]
  constructor
  · rintro ⟨⟨a, q⟩, h, rfl⟩
    rw [List.mem_filter] at h
    obtain ⟨h1, h2⟩ := h
    cases q with
    | none => exact h1
    | some q => cases h2
  · intro h
    exact ⟨(p, none), List.mem_filter.mpr ⟨h, rfl⟩, rfl⟩
theorem law_asks {ts : List Tb} {n : Nat} {H : Hp} {a : Addr} {ns : List Int} (hT : ∀ t ∈ ts, H t.1 = some (.tbl #[])) (hd : ∀ t ∈ ts, t.2 ≠ none → t.1 ∉ exts ts) (hl : ns.length ≤ n) (hS : SqL K H a (ns.map V.int)) :
    spTab (exts ts) (spD K ts [.ro] (semLaw n)) [.ref a] H (fun v _ => v = .bl true) fun _ _ _ => False := by
  have hE : ∀ p ∈ exts ts, H p = some (.tbl #[]) := fun p hp => hT _ (mem_exts.mp hp)
  have nl : ∀ (o : HO), H a = some o → (∀ ps, o ≠ .tbl ps) → a ∉ exts ts := fun o h ho z => ho #[] (Option.some.inj (h.symm.trans (hE a z)))
  refine ⟨hE, fun v H1 H2 q => q, fun _ => none, fun b => if (∃ t ∈ ts, t.2 ≠ none ∧ t.1 = b) ∨ (∃ ps, toX (exts ts) H b = some (.tbl ps)) then none else toX (exts ts) H b, [.list (ns.map .int)], .ret (.bool true) false [], rfl, rfl, rfl, ?_, ?_, ?_⟩
  · refine rep_sh (vs := [.ref a]) (ds := [.list (ns.map .int)]) rfl (fun b o h => ?_) (fun _ _ h => by cases h) (.cons (.lst ?_ (rps_ints ns)) .nil) ⟨fun b ps => ⟨fun z => (by cases z), fun z => by
      have z : (if _ then _ else _) = _ := z
      split at z
      · cases z
      · rename_i hn
        exact hn (.inr ⟨ps, z⟩)⟩, fun t ht => ?_⟩ fun b xs e => ?_
    · split at h
      · cases h
      · exact h
    · have na : ∀ (o : HO), H a = some o → (∀ ps, o ≠ .tbl ps) → (if (∃ t ∈ ts, t.2 ≠ none ∧ t.1 = a) ∨ (∃ ps, toX (exts ts) H a = some (.tbl ps)) then none else toX (exts ts) H a) = some o := fun o h ho => by
        have hx : toX (exts ts) H a = some o := by
          unfold toX
          rw [if_neg (nl o h ho)]
          exact h
        rw [if_neg (fun z => by
          rcases z with ⟨t, ht, _, e⟩ | ⟨ps, e⟩
          · exact ho #[] (Option.some.inj (h.symm.trans (e ▸ hT t ht)))
          · rw [hx] at e
            exact ho ps (Option.some.inj e))]
        exact hx
      rcases hS with (h | ⟨o, h⟩) | h
      · exact .inl (.inl (na _ h fun _ z => by cases z))
      · exact .inl (.inr ⟨o, na _ h fun _ z => by cases z⟩)
      · exact .inr h
    · obtain ⟨p, k⟩ := t
      cases k with
      | none =>
        have hp : p ∈ exts ts := mem_exts.mpr ht
        show (if _ then _ else _) = _
        have hx : toX (exts ts) H p = some (.ext (tabP p)) := by
          unfold toX
          rw [if_pos hp]
        rw [if_neg (fun z => by
          rcases z with ⟨t, ht2, hn, e⟩ | ⟨ps, e⟩
          · exact hd t ht2 hn (by rw [e]; exact hp)
          · rw [hx] at e
            cases e)]
        exact hx
      | some q =>
        have hp : p ∉ exts ts := hd _ ht (by simp)
        refine ⟨LamX.TabS.nil ?_, ?_⟩
        · unfold toX
          rw [if_neg hp]
          exact hT _ ht
        · show (if _ then _ else _) = _
          rw [if_pos (.inl ⟨_, ht, by simp, rfl⟩)]
    · show (if _ then _ else _) = _
      rw [if_neg (fun z => by
        rcases z with ⟨t, ht, hn, e1⟩ | ⟨ps, e1⟩
        · have := hT t ht
          rw [e1] at this
          unfold toX at e
          split at e
          · cases e
          · rw [this] at e
            cases e
        · rw [e] at e1
          cases e1)]
      exact e
  · unfold semLaw
    rw [if_pos ⟨ns, rfl, hl⟩]
  · intro v F' H' x R' res
    unfold ResV at res
    rw [if_neg Bool.false_ne_true] at res
    exact ⟨res.isbl, fun p hp => R'.fh _ _ (R'.tab.2 (p, none) (mem_exts.mp hp))⟩
end
end DS

namespace DS
open PySem L2

/-! ## a def that may be called by its name -/
structure Cal (P : Program) (w : World) (K : PySem.W.Frag) (mg : Str → Option Value) (base : Heap) (cs : List Tb) (x : Str) (k : Nat) (ps : List Str) (ms : List Md) (sem : List D → Option Ou) : Prop where
  ex : ∃ f fd, FnOk P w K mg base CX0 k f fd ps (spD K cs ms sem) ∧ mg x = some (.ref f) ∧ PySem.W.keepIn K (.ref f) = true ∧ Binds K fd ps []
/-- the place's program, view and so on -/
structure AtX (X : Cx) (P : Program) (w : World) (K : PySem.W.Frag) (mg : Str → Option Value) (base : Heap) : Prop where
  prog : X.prog = P
  w : X.w = w
  K : X.K = K
  mg : X.mg = mg
  base : X.base = base
section
variable {P : Program} {w : World} {K : PySem.W.Frag} {mg : Str → Option Value} {base : Heap} {cs : List Tb} {X : Cx} {e : Expr} {es : List Expr} {pos p : Pos} {fr : Nv → Option (List D)} {x : Str} {k j : Nat} {ps : List Str} {ms : List Md} {sem : List D → Option Ou}
theorem c_call (C : Cal P w K mg base cs x k ps ms sem) (hX : AtX X P w K mg base) (hro : ∀ m ∈ ms, m = .ro) (hr : Room j X.A) (hj : k ≤ j) (hg : Gl X x) (ha : EPs cs X (e :: es) fr) (hdb : (x == ("__debug__" : Str)) = false := by decide)
    (he : starEach (e :: es) X.env = (false, eval e X.env) :: starEach es X.env := by rfl) (hpl : (backTo pos (starEach es X.env)).any (·.1) = false := by rfl) : EP' cs X (.Call (.Name x p) (e :: es) [] pos) (callS ms.length sem fr) := by
  obtain ⟨rfl, rfl, rfl, rfl, rfl⟩ := hX
  obtain ⟨f, fd, h1, h2, h3, h4⟩ := C.ex
  exact e_call h1 hro (hr.mono hj) hg h2 h3 h4 pass0 ha hdb he hpl
theorem c_callO (C : Cal P w K mg base cs x k ps ms sem) (hX : AtX X P w K mg base) (hro : ∀ m ∈ ms, m = .ro) (hr : Room j X.A) (hj : k ≤ j) (hg : Gl X x) (ha : EPs cs X (e :: es) fr) (hdb : (x == ("__debug__" : Str)) = false := by decide)
    (he : starEach (e :: es) X.env = (false, eval e X.env) :: starEach es X.env := by rfl) (hpl : (backTo pos (starEach es X.env)).any (·.1) = false := by rfl) : EN cs X (.Call (.Name x p) (e :: es) [] pos) (callO ms.length sem fr) := by
  obtain ⟨rfl, rfl, rfl, rfl, rfl⟩ := hX
  obtain ⟨f, fd, h1, h2, h3, h4⟩ := C.ex
  exact e_callO h1 hro (hr.mono hj) hg h2 h3 h4 pass0 ha hdb he hpl
theorem c_callF (C : Cal P w K mg base cs x k ps ms sem) (hX : AtX X P w K mg base) (hro : ∀ m ∈ ms, m = .ro) (hr : Room j X.A) (hj : k ≤ j) (hg : Gl X x) (ha : EWs cs X (e :: es) fr) (hdb : (x == ("__debug__" : Str)) = false := by decide)
    (he : starEach (e :: es) X.env = (false, eval e X.env) :: starEach es X.env := by rfl) (hpl : (backTo pos (starEach es X.env)).any (·.1) = false := by rfl) : EP' cs X (.Call (.Name x p) (e :: es) [] pos) (callF ms.length sem fr) := by
  obtain ⟨rfl, rfl, rfl, rfl, rfl⟩ := hX
  obtain ⟨f, fd, h1, h2, h3, h4⟩ := C.ex
  exact e_callF h1 hro (hr.mono hj) hg h2 h3 h4 pass0 ha hdb he hpl
/-- f() -/
def call0 (sem : List D → Option Ou) : Nv → Option D := fun _ => match sem [] with
  | some (.ret d _ _) => some d
  | _ => none
theorem c_call0 (C : Cal P w K mg base cs x k ps [] sem) (hX : AtX X P w K mg base) (hr : Room j X.A) (hj : k ≤ j) (hg : Gl X x) (hdb : (x == ("__debug__" : Str)) = false := by decide) : EP' cs X (.Call (.Name x p) [] [] pos) (call0 sem) := by
  obtain ⟨rfl, rfl, rfl, rfl, rfl⟩ := hX
  obtain ⟨f, fd, h1, h2, h3, h4⟩ := C.ex
  refine ⟨pe_imp (pe_call0 h1 (hr.mono hj) hg h2 h3 h4 .nil (pass0 (X := X)) hdb) fun σ H Q ⟨Z, F0, ρ, d, R, ef, q⟩ => ?_⟩
  unfold call0 at ef
  split at ef
  · rename_i d' own outs es
    cases ef
    refine ⟨oth F0 H, F0, [], _, rfl, rfl, rfl, R.lend (vs := []) .nil, es, fun v F2 H2 x2 R2 res => ?_⟩
    have RB := R.back x2 R2
    unfold ResV at res
    split at res
    · obtain ⟨p', rfl, h1, h2, h3, h4⟩ := res
      obtain ⟨z1, z2⟩ := R.backN h2
      obtain ⟨o, g1, g2⟩ := h4.rp
      exact q _ _ _ (x2.trans (Ext.upd h1)) (RB.give g1 h1 z1 z2 (h4.pl g1)) (g2 _ (Ext.upd h1) upd_same)
    · exact q v F2 H2 x2 RB res
  · cases ef
end
/-! ## y = [.. for .. in ..] on one row -/
section
variable {cs : List Tb} {X : Cx} {E : XK} {elt iter : Expr} {ifs : List Expr} {scope : Scope} {x y : Str} {i j : Nat} {px py pos spos : Pos} {f : Nv → Option (List D)} {t : Nv → Option Bool} {fe : Nv → Option D}
/-- what a comprehension's reading gives: (it is the reading of e_lc) -/
theorem t_lc (σ : L2.St) (H : Hp) (Q : VK) (h : tN X.K cs (lcV i f t fe) σ H Q) : tLc (tI X.K cs SetP f) (gName i) (tPT X.K cs t) (tP X.K cs fe) [i] σ H Q := by
  obtain ⟨Z, F, ρ, d, R, ef, q⟩ := h
  obtain ⟨ds, e1, e2⟩ := Option.bind_eq_some_iff.mp ef
  split at e2
  · rename_i hb
    obtain ⟨hn, hdl⟩ := hb
    obtain ⟨ys, e3, rfl⟩ := Option.map_eq_some_iff.mp e2
    refine ⟨Z, F, ρ, ds, R, e1, fun J P F1 H1 x1 R1 p1 hP S D hD => ?_⟩
    obtain ⟨R2, fD, zD, mD⟩ := R1.made (o := .lst []) hD
    have R3 := R2.aside upd_same fD mD pl_lst
    have R4 : Rep X.K cs (upd Z D (.lst [])) F1 (upd H1 D (.lst [])) (σ.set i none) (ρ.set i none) := R3.drop i none
    have pS : P F1 (σ.set i none) (ρ.set i none) := hP _ _ _ _ _ _ hn p1
    refine ⟨fun k m H2 => k + m = ds.length ∧ ∃ F2 acc zs rest, Ext F1 F2 ∧ Rep X.K cs (upd Z D (.lst acc)) F2 H2 (σ.set i none) (ρ.set i none) ∧ P F2 (σ.set i none) (ρ.set i none) ∧ Rps X.K F2 acc zs ∧ acc.length ≤ k ∧ lcD i t fe ρ (ds.drop k) = some rest ∧ ys = zs ++ rest,
      ⟨ds.length, by omega, F1, [], [], ys, Ext.refl F1, R4, pS, .nil, Nat.le_refl _, by rw [List.drop_zero]; exact e3, rfl⟩, ?_⟩
    rintro k m H2 ⟨hm, F2, acc, zs, rest, x2, R5, p5, r5, la, e5, hy⟩
    by_cases hlt : k < ds.length
    · have hd : ds.drop k = ds[k] :: ds.drop (k + 1) := List.drop_eq_getElem_cons hlt
      rw [hd] at e5
      obtain ⟨b, e6, e7⟩ := Option.bind_eq_some_iff.mp e5
      obtain ⟨hgo, hyl⟩ := S.go _ F2 H2 _ _ k ds[k] R5 p5 (List.getElem?_eq_getElem hlt)
      refine .inr ⟨hgo, fun H3 => ∃ m', m' < m ∧ (k + 1) + m' = ds.length ∧ ∃ F3 acc zs rest, Ext F1 F3 ∧ Rep X.K cs (upd Z D (.lst acc)) F3 H3 (σ.set i none) (ρ.set i none) ∧ P F3 (σ.set i none) (ρ.set i none) ∧ Rps X.K F3 acc zs ∧ acc.length ≤ k + 1 ∧ lcD i t fe ρ (ds.drop (k + 1)) = some rest ∧ ys = zs ++ rest, fun H3 h => h, fun v H3 hyv => ?_⟩
      obtain ⟨F3, x3, R6, r6⟩ := hyl v H3 hyv
      have R7 := R6.setSh i r6
      have sset : ∀ w : Option V, (σ.set i none).set i w = σ.set i w := fun w => by rw [List.set_set]
      have rset : ∀ c : Option Cell, (ρ.set i none).set i c = ρ.set i c := fun c => by rw [List.set_set]
      rw [sset, rset] at R7
      refine ⟨?_, ?_⟩
      · show ((σ.set i none).set i (some v)).set i none = σ.set i none
        rw [List.set_set, List.set_set]
      · have hw : List.set (wipe σ [i]) i (some v) = σ.set i (some v) := sset (some v)
        rw [hw]
        refine ⟨_, F3, _, b, R7, e6, fun F4 H4 x4 R8 => ?_⟩
        have back : ∀ {F5 H5 : Hp} {acc' : List V}, Rep X.K cs (upd Z D (.lst acc')) F5 H5 (σ.set i (some v)) (ρ.set i (some (.sh ds[k]))) → Rep X.K cs (upd Z D (.lst acc')) F5 H5 (σ.set i none) (ρ.set i none) := fun {F5 H5 acc'} r => by
          have := r.drop i none
          rw [List.set_set, List.set_set] at this
          exact this
        by_cases hb : b = true
        · rw [if_pos hb] at e7
          show if b = true then _ else _
          rw [if_pos hb]
          obtain ⟨y, e8, e9⟩ := Option.bind_eq_some_iff.mp e7
          obtain ⟨rest', e10, rfl⟩ := Option.map_eq_some_iff.mp e9
          refine ⟨_, F4, _, y, R8, e8, fun u F5 H5 x5 R9 r9 => ⟨acc, (R9.zh D _ upd_same).1, ?_, ?_⟩⟩
          · have : (100000 : Nat) ≤ sizeLine := by decide
            omega
          · have x25 : Ext F2 F5 := (x3.trans x4).trans x5
            refine ⟨m - 1, by omega, by omega, F5, acc ++ [u], zs ++ [y], rest', x2.trans x25, back (R9.asideSet pl_lst pl_lst), S.mono _ _ _ _ x25 p5, (r5.ext x25).app (.cons r9 .nil), ?_, e10, ?_⟩
            · rw [List.length_append]
              simp only [List.length_cons, List.length_nil]
              omega
            · rw [hy, List.append_assoc]
              rfl
        · rw [if_neg hb] at e7
          show if b = true then _ else _
          rw [if_neg hb]
          have x24 : Ext F2 F4 := x3.trans x4
          exact ⟨m - 1, by omega, by omega, F4, acc, zs, rest, x2.trans x24, back R8, S.mono _ _ _ _ x24 p5, r5.ext x24, by omega, e7, hy⟩
    · have hd : ds.drop k = [] := List.drop_of_length_le (by omega)
      rw [hd] at e5
      cases e5
      rw [List.append_nil] at hy
      refine .inl ⟨S.stop _ F2 H2 _ _ k R5 p5 (by omega), ?_⟩
      obtain ⟨hDH, hDF⟩ := R5.zh D _ upd_same
      have RB : Rep X.K cs Z F2 H2 σ ρ := R1.restore hn (fun _ z => by cases z) x2 (fun a o h => by
        have ha : a ≠ D := ne_of_none h zD
        rw [upd_ne ha]
        exact h) R5
      refine q D F2 H2 (x1.trans x2) RB hDF zD mD ⟨acc, hDH, ?_⟩
      rw [hy]
      exact r5
  · cases e2
theorem sd_setLc (hc : X.calm = true) (hN : X.N.Nodup) (hy : X.N[j]? = some y) (hyl : X.env.scope.names.lookup y = some .local) (hsw : swapsWith (.ListComp elt [⟨.Name x px, iter, ifs, 0⟩] scope pos) (some (.Name y py)) spos.line X.env = pure true)
    (hix : X.N[i]? = some x) (hi : EI cs X SetP (.Name x px) iter f) (ok : BlkOk X.N X.env.scope scope [(x, i)])
    (hl : ∀ (s : Shared) (H : Hp) (C : Addr) (cl : List (Str × Addr)) (fp : List Addr), (X.blk s H scope (compEnvC scope cl C X.env) fp).env.scope.names.lookup x = some .local)
    (ht : ∀ (s : Shared) (H : Hp) (C : Addr) (cl : List (Str × Addr)) (fp : List Addr), ETs cs (X.blk s H scope (compEnvC scope cl C X.env) fp) ifs t)
    (he : ∀ (s : Shared) (H : Hp) (C : Addr) (cl : List (Str × Addr)) (fp : List Addr), EP' cs (X.blk s H scope (compEnvC scope cl C X.env) fp) elt fe) (hs : ∀ x, foldedSetIterable iter X.env x = pure x := by intro _; rfl) :
    SD cs X E (.Assign [.Name y py] (.ListComp elt [⟨.Name x px, iter, ifs, 0⟩] scope pos) spos) (setN j (lcV i f t fe)) := by
  refine ⟨ps_imp (ps_setLc (i := j) (own := [(x, i)]) (g := gName i) (tt := tPT X.K cs t) (te := tP X.K cs fe) hc hN hy hyl hsw hi.h ok (fun s H C cl fp => pg_name (X := X.blk s H scope (compEnvC scope cl C X.env) fp) (i := i) hN hix (.inl (hl s H C cl fp)) (.inr (hl s H C cl fp))) (fun s H C cl fp => (ht s H C cl fp).h) (fun s H C cl fp => (he s H C cl fp).h) hs) ?_⟩
  rintro D σ H ⟨Z, F, ρ, r, R, ef, w⟩
  obtain ⟨d, e1, rfl⟩ := Option.map_eq_some_iff.mp ef
  exact t_lc σ H _ ⟨Z, F, ρ, d, R, e1, fun p F1 H1 x1 R1 fp zp mp o => w _ F1 H1 (by rw [List.length_set]) x1 (R1.setOw j fp zp mp o)⟩
theorem sd_setLcS (hc : X.calm = true) (hN : X.N.Nodup) (hy : X.N[j]? = some y) (hyl : X.env.scope.names.lookup y = some .local) (hsw : swapsWith (.ListComp elt [⟨.Name x px, iter, ifs, 0⟩] scope pos) (some (.Name y py)) spos.line X.env = pure true)
    (hix : X.N[i]? = some x) (hi : EI cs X SetP (.Name x px) iter f) (ok : BlkOk X.N X.env.scope scope [(x, i)])
    (hl : ∀ (s : Shared) (H : Hp) (C : Addr) (cl : List (Str × Addr)) (fp : List Addr), (X.blk s H scope (compEnvC scope cl C X.env) fp).env.scope.names.lookup x = some .local)
    (ht : ∀ (s : Shared) (H : Hp) (C : Addr) (cl : List (Str × Addr)) (fp : List Addr), ETs cs (X.blk s H scope (compEnvC scope cl C X.env) fp) ifs t)
    (he : ∀ (s : Shared) (H : Hp) (C : Addr) (cl : List (Str × Addr)) (fp : List Addr), EP' cs (X.blk s H scope (compEnvC scope cl C X.env) fp) elt fe) (hs : ∀ x, foldedSetIterable iter X.env x = pure x := by intro _; rfl) :
    SD cs X E (.Assign [.Name y py] (.ListComp elt [⟨.Name x px, iter, ifs, 0⟩] scope pos) spos) (setS j (lcV i f t fe)) := by
  refine ⟨ps_imp (ps_setLc (i := j) (own := [(x, i)]) (g := gName i) (tt := tPT X.K cs t) (te := tP X.K cs fe) hc hN hy hyl hsw hi.h ok (fun s H C cl fp => pg_name (X := X.blk s H scope (compEnvC scope cl C X.env) fp) (i := i) hN hix (.inl (hl s H C cl fp)) (.inr (hl s H C cl fp))) (fun s H C cl fp => (ht s H C cl fp).h) (fun s H C cl fp => (he s H C cl fp).h) hs) ?_⟩
  rintro D σ H ⟨Z, F, ρ, r, R, ef, w⟩
  obtain ⟨d, e1, rfl⟩ := Option.map_eq_some_iff.mp ef
  refine t_lc σ H _ ⟨Z, F, ρ, d, R, e1, fun p F1 H1 x1 R1 fp zp mp o => ?_⟩
  obtain ⟨ob, h1, h2⟩ := o.rp
  exact w _ _ H1 (by rw [List.length_set]) (x1.trans (Ext.upd fp)) ((R1.give h1 fp zp mp (o.pl h1)).setSh j (h2 _ (Ext.upd fp) upd_same))
end

/-! ## small things -/
theorem hu65 {k : Nat} {A : Around} (h : Room k A) : A.units + 65 < cLine := by have := h.un; omega
theorem e_gint {cs : List Tb} {X : Cx} {x : Str} {i : Int} {pos : Pos} (hg : Gl X x) (h : ∃ t, X.mg x = some (.int i t)) (hd : (x == ("__debug__" : Str)) = false := by decide) : EP' cs X (.Name x pos) (fun _ => some (.int i)) := by
  obtain ⟨t, h⟩ := h
  exact e_glob (pe_glob (v := .int i) hg h ⟨t, rfl⟩ hd) fun F => .int i
end DS

namespace DS
open PySem L2
instance : DecidableEq Md := fun a b => by
  cases a <;> cases b <;> first | exact isTrue rfl | exact isFalse fun h => by cases h

/-! ## what a def comes to, where it changes none of its arguments -/
def shs (ds : List D) (n : Nat) : Nv := (ds.map fun d => some (.sh d)) ++ List.replicate n none
def fin0 (k : Nat) : SR → Option Ou
  | .nx ρ => if k ≤ ρ.length then some (.ret .none false []) else none
  | .rt d own ρ => if k ≤ ρ.length then some (.ret d own []) else none
  | .exc c => some (.exc c)
  | _ => none
/-- its meaning by its body's: k arguments, n names more -/
def semR (k n : Nat) (g : Nv → Option SR) : List D → Option Ou := fun ds => if ds.length = k then (g (shs ds n)).bind (fin0 k) else none
theorem outs_ro : ∀ {ms : List Md} {vs : List V} {ρ : Nv}, (∀ m ∈ ms, m = .ro) → vs.length = ms.length → ms.length ≤ ρ.length → outsOf ms vs ρ = some []
  | [], _, _, _, _, _ => rfl
  | m :: ms, [], _, _, h, _ => by cases h
  | m :: ms, v :: vs, [], _, _, h => by simp at h
  | m :: ms, v :: vs, r :: ρ, h, h1, h2 => by
    have e : m = .ro := h m List.mem_cons_self
    subst e
    show outsOf ms vs ρ = some []
    exact outs_ro (fun m hm => h m (List.mem_cons_of_mem _ hm)) (by simpa using h1) (by simpa using h2)
theorem comes_ro {ms : List Md} {n : Nat} {g : Nv → Option SR} (hro : ∀ m ∈ ms, m = .ro) : Comes ms n g (semR ms.length n g) := fun vs ds o hv hd _ h => by
  unfold semR at h
  rw [if_pos hd] at h
  unfold runD
  rw [argNv_ro hro hv hd]
  obtain ⟨r, e1, e2⟩ := Option.bind_eq_some_iff.mp h
  show (g (shs ds n)).bind _ = _
  rw [e1]
  show finD ms vs r = some o
  cases r with
  | nx ρ =>
    unfold fin0 at e2
    dsimp only at e2
    split at e2
    · rename_i hl
      cases e2
      show (outsOf ms vs ρ).map _ = _
      rw [outs_ro hro hv hl]
      rfl
    · cases e2
  | rt d own ρ =>
    unfold fin0 at e2
    dsimp only at e2
    split at e2
    · rename_i hl
      cases e2
      show (outsOf ms vs ρ).map _ = _
      rw [outs_ro hro hv hl]
      rfl
    · cases e2
  | bk ρ => cases e2
  | ct ρ => cases e2
  | exc c => cases e2; rfl

/-! ## steps over data -/
def sgOk (d : D) : Bool := match d with
  | .none => true
  | .bool _ => true
  | .int _ => true
  | .str x => decide (x.length ≤ 100000) && PyData.strOk x
  | _ => false
/-- data of at most this depth, its texts plain and short -/
def fine : Nat → D → Bool
  | 0, d => sgOk d
  | n + 1, .list xs => xs.all (fine n)
  | n + 1, .tuple xs => xs.all (fine n)
  | _ + 1, d => sgOk d
theorem lay_all {n : Nat} (ih : ∀ d, fine n d = true → d.canLay0 = true ∧ d.depth ≤ n) : ∀ xs : List D, xs.all (fine n) = true → PyData.canLayAll0 xs = true ∧ PyData.depthAll xs ≤ n
  | [], _ => ⟨by rw [PyData.canLayAll0], by rw [PyData.depthAll]; exact Nat.zero_le _⟩
  | x :: xs, h => by
    rw [List.all_cons, Bool.and_eq_true] at h
    obtain ⟨h1, h2⟩ := ih x h.1
    obtain ⟨h3, h4⟩ := lay_all ih xs h.2
    refine ⟨by rw [PyData.canLayAll0, h1, h3]; rfl, ?_⟩
    rw [PyData.depthAll]
    omega
theorem lay_sg {d : D} (h : sgOk d = true) : d.canLay0 = true ∧ d.depth = 0 := by
  cases d with
  | none => exact ⟨by simp [PyData.canLay0], by simp [PyData.depth]⟩
  | bool b => exact ⟨by simp [PyData.canLay0], by simp [PyData.depth]⟩
  | int i => exact ⟨by simp [PyData.canLay0], by simp [PyData.depth]⟩
  | str x =>
    have h' : decide (x.length ≤ 100000) = true ∧ PyData.strOk x = true := by simpa [sgOk] using h
    exact ⟨by rw [PyData.canLay0]; exact h'.2, by simp [PyData.depth]⟩
  | list _ => cases h
  | tuple _ => cases h
  | dict _ => cases h
theorem lay_fine : ∀ (n : Nat) (d : D), fine n d = true → d.canLay0 = true ∧ d.depth ≤ n
  | 0, d, h => by
    obtain ⟨h1, h2⟩ := lay_sg (d := d) (by unfold fine at h; exact h)
    exact ⟨h1, by omega⟩
  | n + 1, d, h => by
    cases d with
    | list xs =>
      obtain ⟨h1, h2⟩ := lay_all (lay_fine n) xs (by simpa [fine] using h)
      exact ⟨by rw [PyData.canLay0]; exact h1, by rw [PyData.depth]; omega⟩
    | tuple xs =>
      obtain ⟨h1, h2⟩ := lay_all (lay_fine n) xs (by simpa [fine] using h)
      exact ⟨by rw [PyData.canLay0]; exact h1, by rw [PyData.depth]; omega⟩
    | _ =>
      obtain ⟨h1, h2⟩ := lay_sg (by simpa [fine] using h)
      exact ⟨h1, by omega⟩
theorem shaped_fine {n : Nat} {d : D} (h : fine n d = true) (hn : n ≤ 60) : SeqAt.shaped d = true := by
  obtain ⟨h1, h2⟩ := lay_fine n d h
  unfold SeqAt.shaped
  rw [h1, Bool.true_and]
  exact decide_eq_true (by omega)
theorem shaped_int {i : Int} : SeqAt.shaped (.int i) = true := shaped_fine (n := 0) (d := .int i) rfl (by decide)
theorem shaped_none : SeqAt.shaped .none = true := shaped_fine (n := 0) (d := .none) rfl (by decide)
theorem shaped_bool {i : Bool} : SeqAt.shaped (.bool i) = true := shaped_fine (n := 0) (d := .bool i) rfl (by decide)
theorem shaped_str {x : Str} (h1 : x.length ≤ 100000) (h2 : PyData.strOk x = true) : SeqAt.shaped (.str x) = true := shaped_fine (n := 0) (d := .str x) (by simp [fine, sgOk, h1, h2]) (by decide)
theorem fine_up : ∀ {n : Nat} {d : D}, fine n d = true → fine (n + 1) d = true
  | 0, d, h => by
    cases d with
    | list _ => cases h
    | tuple _ => cases h
    | dict _ => cases h
    | _ => exact h
  | n + 1, d, h => by
    cases d with
    | list xs =>
      have h' : xs.all (fine n) = true := h
      show xs.all (fine (n + 1)) = true
      rw [List.all_eq_true] at h' ⊢
      exact fun x hx => fine_up (h' x hx)
    | tuple xs =>
      have h' : xs.all (fine n) = true := h
      show xs.all (fine (n + 1)) = true
      rw [List.all_eq_true] at h' ⊢
      exact fun x hx => fine_up (h' x hx)
    | _ => exact h
/-- an item at a rest -/
theorem atI_ok {α : Type} {xs : List α} {i : Int} (h0 : 0 ≤ i) (h1 : i < xs.length) : ∃ x, atI xs i = some x ∧ x ∈ xs := by
  have hj : i.toNat < xs.length := by omega
  refine ⟨xs[i.toNat], ?_, List.getElem_mem hj⟩
  unfold atI ixN
  rw [if_pos h0, if_pos h1]
  show xs[i.toNat]? = _
  exact List.getElem?_eq_getElem hj
theorem atI_mod {α : Type} {xs : List α} {i n : Int} (hn : 0 < n) (hl : n ≤ xs.length) : ∃ x, atI xs (i % n) = some x ∧ x ∈ xs := by
  have h1 := Int.emod_nonneg i (b := n) (by omega)
  have h2 := Int.emod_lt_of_pos i hn
  exact atI_ok h1 (by omega)
end DS

namespace DS
open PySem L2

/-! ## a body's run, step by step -/
def Rets (n : Nat) (o : Bool) (φ : D → Prop) (x : Option SR) : Prop := ∃ d ρ', x = some (.rt d o ρ') ∧ n ≤ ρ'.length ∧ φ d
section
variable {n : Nat} {φ : D → Prop} {g g' : Nv → Option SR} {ρ ρ' : Nv} {t : Nv → Option Bool} {f : Nv → Option D} {d : D} {b o : Bool}
theorem rets_nx (h1 : g ρ = some (.nx ρ')) (h2 : Rets n o φ (g' ρ')) : Rets n o φ (seqS g g' ρ) := by
  unfold seqS
  rw [h1]
  exact h2
theorem rets_rt (h1 : Rets n o φ (g ρ)) : Rets n o φ (seqS g g' ρ) := by
  obtain ⟨d, ρ', e, h⟩ := h1
  unfold seqS
  rw [e]
  exact ⟨d, ρ', rfl, h⟩
theorem rets_if (h : t ρ = some b) (h1 : b = true → Rets n o φ (g ρ)) (h2 : b = false → Rets n o φ (g' ρ)) : Rets n o φ (ifS t g g' ρ) := by
  unfold ifS
  rw [h]
  cases b with
  | true => exact h1 rfl
  | false => exact h2 rfl
/-- if t: return ..; rest -/
theorem rets_ifr (h : t ρ = some b) (h1 : b = true → Rets n o φ (g ρ)) (h2 : b = false → Rets n o φ (g' ρ)) : Rets n o φ (seqS (ifS t g (fun ρ => some (.nx ρ))) g' ρ) := by
  cases b with
  | true => exact rets_rt (rets_if h (fun _ => h1 rfl) fun z => by cases z)
  | false =>
    refine rets_nx (ρ' := ρ) ?_ (h2 rfl)
    unfold ifS
    rw [h]
    rfl
theorem rets_ret (h : f ρ = some d) (hn : n ≤ ρ.length) (hφ : φ d) : Rets n o φ ((fun ρ => (f ρ).map fun d => .rt d o ρ) ρ) := ⟨d, ρ, by show (f ρ).map _ = _; rw [h]; rfl, hn, hφ⟩
theorem setS_is {i : Nat} (h : f ρ = some d) : setS i f ρ = some (.nx (ρ.set i (some (.sh d)))) := by
  unfold setS
  rw [h]
  rfl
theorem sem_rets {k m : Nat} {ds : List D} (hk : ds.length = k) (h : Rets k o φ (g (shs ds m))) : ∃ d, semR k m g ds = some (.ret d o []) ∧ φ d := by
  obtain ⟨d, ρ', e, h1, h2⟩ := h
  refine ⟨d, ?_, h2⟩
  unfold semR
  rw [if_pos hk, e]
  show (if _ then _ else _) = _
  rw [if_pos h1]
theorem op2_is {op : D → D → Option D} {fa fb : Nv → Option D} {x y r : D} (h1 : fa ρ = some x) (h2 : fb ρ = some y) (h3 : op x y = some r) : op2 op fa fb ρ = some r := by
  unfold op2
  rw [h1, h2]
  exact h3
theorem opT_is {op : D → D → Option D} {fa fb : Nv → Option D} {x y : D} (h1 : fa ρ = some x) (h2 : fb ρ = some y) (h3 : op x y = some (.bool b)) : opT op fa fb ρ = some b := by
  unfold opT
  rw [op2_is h1 h2 h3]
  rfl
theorem callS_is {k : Nat} {sem : List D → Option Ou} {fr : Nv → Option (List D)} {ds : List D} {os : List D} (h : fr ρ = some ds) (hk : ds.length = k) (e : sem ds = some (.ret d o os)) : callS k sem fr ρ = some d := by
  unfold callS
  rw [h]
  show (if _ then _ else _) = _
  rw [if_pos hk, e]
theorem cons2_is {fa : Nv → Option D} {fr : Nv → Option (List D)} {ds : List D} (h : fa ρ = some d) (h2 : fr ρ = some ds) : cons2 fa fr ρ = some (d :: ds) := by
  unfold cons2
  rw [h, h2]
  rfl
/-- a comprehension without conditions -/
theorem lcD_all {i : Nat} {Q : D → Prop} : ∀ ds : List D, (∀ x ∈ ds, ∃ y, f (ρ.set i (some (.sh x))) = some y ∧ Q y) → ∃ ys, lcD i (fun _ => some true) f ρ ds = some ys ∧ ys.length = ds.length ∧ ∀ y ∈ ys, Q y
  | [], _ => ⟨[], rfl, rfl, fun _ h => by cases h⟩
  | x :: r, h => by
    obtain ⟨y, e1, q1⟩ := h x List.mem_cons_self
    obtain ⟨ys, e2, l2, q2⟩ := lcD_all r fun z hz => h z (List.mem_cons_of_mem _ hz)
    refine ⟨y :: ys, ?_, by rw [List.length_cons, l2, List.length_cons], fun z hz => ?_⟩
    · rw [lcD]
      show (f (ρ.set i (some (.sh x)))).bind _ = _
      rw [e1]
      show (lcD i (fun _ => some true) f ρ r).map _ = _
      rw [e2]
      rfl
    · rcases List.mem_cons.mp hz with rfl | hz
      · exact q1
      · exact q2 z hz
theorem lcV_all {i : Nat} {Q : D → Prop} {fi : Nv → Option (List D)} {ds : List D} (hi : fi ρ = some ds) (hn : noMine ρ i = true) (hl : ds.length ≤ 100000) (h : ∀ x ∈ ds, ∃ y, f (ρ.set i (some (.sh x))) = some y ∧ Q y) :
    ∃ ys, lcV i fi (fun _ => some true) f ρ = some (.list ys) ∧ ys.length = ds.length ∧ ∀ y ∈ ys, Q y := by
  obtain ⟨ys, e, h1, h2⟩ := lcD_all ds h
  refine ⟨ys, ?_, h1, h2⟩
  unfold lcV
  rw [hi]
  show (if _ then _ else _) = _
  rw [if_pos ⟨hn, hl⟩, e]
  rfl
/-- a loop that goes through, keeping what it keeps -/
theorem forS_all {a : D → Nv → Option Nv} {I : Nv → Prop} : ∀ (ds : List D) (ρ : Nv), I ρ → (∀ d ∈ ds, ∀ ρ, I ρ → ∃ ρ1 ρ2, a d ρ = some ρ1 ∧ g ρ1 = some (.nx ρ2) ∧ I ρ2) → ∃ ρ', forS a g ds ρ = some (.nx ρ') ∧ I ρ'
  | [], ρ, h, _ => ⟨ρ, rfl, h⟩
  | d :: r, ρ, h, hs => by
    obtain ⟨ρ1, ρ2, e1, e2, h2⟩ := hs d List.mem_cons_self ρ h
    obtain ⟨ρ', e3, h3⟩ := forS_all r ρ2 h2 fun z hz => hs z (List.mem_cons_of_mem _ hz)
    refine ⟨ρ', ?_, h3⟩
    rw [forS, e1]
    show (g ρ1).bind _ = _
    rw [e2]
    exact e3
end
/-! ## texts -/
def sgD (c : Nat) : D := .str ⟨#[c]⟩
theorem join_sg (cs : List Nat) : (Txt.join (⟨#[]⟩ : Str) (cs.map fun c => ⟨#[c]⟩)).cps.toList = cs := by
  show (Builtin.Str.glued _ _).cps.toList = cs
  rw [StrLaws.glued_eq_join]
  induction cs with
  | nil => rfl
  | cons c r ih =>
    match r, ih with
    | [], _ => rfl
    | d :: r, ih =>
      show ((Str.append (Str.append (⟨#[c]⟩ : Str) (⟨#[]⟩ : Str)) (Str.join ⟨#[]⟩ ((d :: r).map fun c => ⟨#[c]⟩))).cps).toList = _
      simp only [Str.append, Array.toList_append, ih]
      rfl
theorem strs_sg : ∀ cs : List Nat, strsD (cs.map sgD) = some (cs.map fun c => ⟨#[c]⟩)
  | [] => rfl
  | c :: r => by
    show (strsD (r.map sgD)).map _ = _
    rw [strs_sg r]
    rfl
theorem len_sg : ∀ cs : List Nat, ((cs.map fun c => (⟨#[c]⟩ : Str)).map (·.length)).sum = cs.length
  | [] => rfl
  | c :: r => by
    rw [List.map_cons, List.map_cons, List.sum_cons, len_sg r, List.length_cons]
    show 1 + r.length = _
    omega
theorem joinD_sg {cs : List Nat} (h : cs.length ≤ 100000) : ∃ t : Str, joinD (.str ⟨#[]⟩) (.list (cs.map sgD)) = some (.str t) ∧ t.cps.toList = cs := by
  refine ⟨_, ?_, join_sg cs⟩
  show (strsD (cs.map sgD)).bind _ = _
  rw [strs_sg]
  show (if _ then _ else _) = _
  rw [if_pos]
  rw [len_sg]
  show cs.length + _ * 0 ≤ 100000
  omega
theorem strOk_all {t : Str} : PyData.strOk t = true ↔ ∀ c ∈ t.cps.toList, c < 0x110000 := by
  unfold PyData.strOk
  rw [Array.all_eq_true_iff_forall_mem]
  simp
theorem len_list (t : Str) : t.length = t.cps.toList.length := rfl
theorem fine_str {n : Nat} {t : Str} (h1 : t.length ≤ 100000) (h2 : ∀ c ∈ t.cps.toList, c < 0x110000) : fine n (.str t) = true := by
  have : sgOk (.str t) = true := by
    unfold sgOk
    simp [h1, strOk_all.mpr h2]
  cases n with
  | zero => exact this
  | succ n => exact this
theorem str_fine {n : Nat} {t : Str} (h : fine n (.str t) = true) : t.length ≤ 100000 ∧ ∀ c ∈ t.cps.toList, c < 0x110000 := by
  have : sgOk (.str t) = true := by
    cases n with
    | zero => exact h
    | succ n => exact h
  unfold sgOk at this
  simp only [Bool.and_eq_true, decide_eq_true_eq] at this
  exact ⟨this.1, strOk_all.mp this.2⟩
theorem mem_cutS {z : Str} {lo hi : Option Int} {c : Nat} (h : c ∈ (cutS z lo hi).cps.toList) : c ∈ z.cps.toList := by
  have h' : c ∈ ((z.cps.toList.drop (HT.sIx z.length 0 lo)).take (HT.sIx z.length z.length hi - HT.sIx z.length 0 lo)) := h
  exact List.mem_of_mem_drop (List.mem_of_mem_take h')
theorem mem_app {x y : Str} {c : Nat} (h : c ∈ (x ++ y).cps.toList) : c ∈ x.cps.toList ∨ c ∈ y.cps.toList := by
  have h' : c ∈ (x.cps ++ y.cps).toList := h
  rw [Array.toList_append] at h'
  exact List.mem_append.mp h'
theorem len_app (x y : Str) : (x ++ y).length = x.length + y.length := Str.length_append x y
end DS

namespace DS
open PySem L2 PySem.Spec PyProof.Rows
/-- a promise that asks for less -/
theorem fn_sem {P : Program} {w : World} {K : PySem.W.Frag} {mg : Str → Option Value} {base : Heap} {CX : CXT} {k : Nat} {f : Addr} {fd : FuncData} {ps : List Str} {cs : List Tb} {ms : List Md} {sem sem' : List D → Option Ou} (F : FnOk P w K mg base CX k f fd ps (spD K cs ms sem)) (h : ∀ ds o, sem' ds = some o → sem ds = some o) : FnOk P w K mg base CX k f fd ps (spD K cs ms sem') := by
  have im : ∀ vs H Q E, spD K cs ms sem' vs H Q E → spD K cs ms sem vs H Q E := fun vs H Q E ⟨Z, F, ds, o, h1, h2, h3, h4, h5, h6⟩ => ⟨Z, F, ds, o, h1, h2, h3, h4, h _ _ h5, h6⟩
  exact ⟨fun vs H Q E q => F.len _ _ _ _ (im _ _ _ _ q), fun A outer s H args us vs Q E hr e0 hb hv q => F.run A outer s H args us vs Q E hr e0 hb hv (im _ _ _ _ q)⟩
/-- a def's code object and its table, by what the view shows -/
theorem tab_is {K : PySem.W.Frag} {x : Str} {f c P : Addr} {oc oe : Value} {od oe2 : Option Addr} {fd : FuncData} {sl sl2 : Array (Option Value)} {vs : Array Value} (a : PySem.W.nsIn K mainGlobals x = some (some (.ref f))) (l : K.lookup f = some ⟨oc, od, .func fd, sl⟩) (hc : fd.code = .ref c)
    (g : K.lookup c = some ⟨oe, oe2, .fields vs, sl2⟩) (v : vs[11]? = some (.ref P)) : PySem.W.tabIn K x = some (c, P) := by
  unfold PySem.W.tabIn
  simp [a, l, hc, g, v]
/-- the law's walk, where some of its defs hold generator expressions: their tables are empty behind the head -/
theorem walk_tabs {l : PySem.W.OpenLaw} {n k : Nat} {q : Program} {loose : List Str} {XP : (Str → Option Value) → Heap → Prop} {YP : World → Heap → Prop} {d : DefRec} {K : Params → PySem.W.Frag} {CX : World → CXT} {x : Str} (xs : List Str)
    (hn : l.most = some n) (hn2 : n ≤ sizeLine) (hdf : d.params.defaults = []) (hr : Room k callerA) (hrec : xs.all (fun x => ((recsOf q).find? fun e => e.name == x).isSome) = true) (hY : ∀ (w : World) (h : Heap), YP w h → (K w.params).In h)
    (F : ∀ (w : World) (mg : Str → Option Value) (fa : Addr) (h : Heap), YP w h → (K w.params).In h → h.Ns mainGlobals mg → mg d.name = some (.ref fa) →
      (∀ x c P, x ∈ xs → PySem.W.tabIn (K w.params) x = some (c, P) → PySem.W.CodeHd h c P ∧ h.get? P = some { cls := .none, data := .fields #[] }) → LamX.LawAtS l w (K w.params) (CX w) k n x mg fa h)
    (hCX : ∀ (w : World) (H : Hp) (s : Shared) (e : Value) (s' : Shared), CX w [] H s (fun _ _ _ => False) e s' → False) :
    PySem.W.WalkO q loose XP YP l.row.toRowW d [] (fun f vs => PySem.call f vs) := by
  refine Att.attach_callB hn hdf fun w s₀ s₁ mg mb fa o pm cd doc a vs ns G Y ho hd hcd hmg hobj hints hlen hbits hg => ?_
  have KX := hY w _ Y
  obtain ⟨fd, cs, sp, hT, nT, C, hb, hsp, hF⟩ := F w mg fa _ Y KX G.T.g hmg (fun x c P hx ht => by
    obtain ⟨d', hd'⟩ := Option.isSome_iff_exists.mp (List.all_eq_true.mp hrec x hx)
    exact PySem.W.tab_of G.T KX hd' ht)
  exact LamX.law_callTs KX G.T.g G.T.b G.T.builtins G.T.nolimit hg hT nT C G.T.bmain hobj hints (Nat.le_trans hlen hn2) hr hF hb (fun H hH hS => hsp H a ns hlen hbits hH hS) fun H e s' => hCX w H s₁ e s'
end DS

namespace DS
open PySem L2

/-! ## dicts: keys and values told by data -/
def keyD : D → Option Key
  | .int i => some (.inl i)
  | .str x => some (.inr x)
  | _ => none
def flatD : D → Option V
  | .none => some .non
  | .bool b => some (.bl b)
  | .int i => some (.int i)
  | .str x => some (.str x)
  | _ => none
theorem keyD_k (k : Key) : keyD (kD k) = some k := by cases k <;> rfl
theorem keyD_some {d : D} {k : Key} (h : keyD d = some k) : d = kD k := by
  cases d with
  | int i => cases h; rfl
  | str x => cases h; rfl
  | _ => cases h
theorem flatD_s {v : V} (h : flat v = true) : flatD (sD v) = some v := by
  cases v with
  | non => rfl
  | bl b => rfl
  | int i => rfl
  | str x => rfl
  | _ => cases h
theorem flatD_some {d : D} {v : V} (h : flatD d = some v) : d = sD v ∧ flat v = true := by
  cases d with
  | none => cases h; exact ⟨rfl, rfl⟩
  | bool b => cases h; exact ⟨rfl, rfl⟩
  | int i => cases h; exact ⟨rfl, rfl⟩
  | str x => cases h; exact ⟨rfl, rfl⟩
  | _ => cases h
def decK : List (D × D) → Option (List (Key × V))
  | [] => some []
  | (a, b) :: r => (keyD a).bind fun k => (flatD b).bind fun v => (decK r).map ((k, v) :: ·)
theorem decK_en : ∀ {kvs : List (Key × V)}, (kvs.all fun p => flat p.2) = true → decK (kvs.map enK) = some kvs
  | [], _ => rfl
  | (k, v) :: r, h => by
    rw [List.all_cons, Bool.and_eq_true] at h
    have ih := decK_en h.2
    show (keyD (kD k)).bind _ = _
    rw [keyD_k]
    show (flatD (sD v)).bind _ = _
    rw [flatD_s h.1]
    show (decK (r.map enK)).map _ = _
    rw [ih]
    rfl
theorem decK_enT {kvs : List (List Key × V)} {r : List (Key × V)} (h : decK (kvs.map enT) = some r) : kvs = [] := by
  cases kvs with
  | nil => rfl
  | cons p q => cases h
theorem decK_ents {K : PySem.W.Frag} {F : Hp} {kvs : List (List Key × V)} {es : List (D × D)} {r : List (Key × V)} (e : Ents K F kvs es) (h : decK es = some r) : kvs = [] := by
  cases e with
  | nil => rfl
  | cons a b => cases h
/-- a dict with plain keys, seen -/
theorem Rep.dk {K : PySem.W.Frag} {cs : List Tb} {Z F H : Hp} {σ : L2.St} {ρ : Nv} {v : V} {es : List (D × D)} {kvs : List (Key × V)} (R : Rep K cs Z F H σ ρ) (h : Vw K F σ ρ v (.dict es)) (e : decK es = some kvs) :
    ∃ a, v = .ref a ∧ Rd H a (.dK kvs) ∧ (kvs.all fun p => flat p.2) = true := by
  have h' := R.all h
  cases h' with
  | dK r f =>
    rw [decK_en f] at e
    cases e
    exact ⟨_, rfl, r, f⟩
  | dT r f n => exact (n (decK_ents f e)).elim
theorem rp_flat {K : PySem.W.Frag} {F : Hp} {v : V} (h : flat v = true) : Rp K F v (sD v) := by
  cases v with
  | non => exact .non
  | bl b => exact .bl b
  | int i => exact .int i
  | str x => exact .str x
  | _ => cases h
theorem vw_flat {K : PySem.W.Frag} {cs : List Tb} {Z F H : Hp} {σ : L2.St} {ρ : Nv} {v : V} {d : D} {w : V} (R : Rep K cs Z F H σ ρ) (h : Vw K F σ ρ v d) (e : flatD d = some w) : v = w := by
  have h' := R.all h
  cases h' with
  | non => cases e; rfl
  | bl b => cases e; rfl
  | int i => cases e; rfl
  | str x => cases e; rfl
  | _ => cases e
theorem vw_key {K : PySem.W.Frag} {cs : List Tb} {Z F H : Hp} {σ : L2.St} {ρ : Nv} {v : V} {d : D} {k : Key} (R : Rep K cs Z F H σ ρ) (h : Vw K F σ ρ v d) (e : keyD d = some k) : v = kV k := by
  have h' := R.all h
  cases h' with
  | int i => cases e; rfl
  | str x => cases e; rfl
  | _ => cases e
theorem flat_val {kvs : List (Key × V)} {k : Key} {v : V} (h : (kvs.all fun p => flat p.2) = true) (e : valV kvs k = some v) : flat v = true := by
  unfold valV at e
  obtain ⟨p, h1, rfl⟩ := Option.map_eq_some_iff.mp e
  exact List.all_eq_true.mp h p (List.mem_of_find?_eq_some h1)
/-- d[k] -/
def getKD (d k : D) : Option D := match d with
  | .dict es => (keyD k).bind fun k => (decK es).bind fun kvs => (valV kvs k).map sD
  | _ => none
/-- k in d -/
def inKD (k d : D) : Option D := match d with
  | .dict es => (keyD k).bind fun k => (decK es).map fun kvs => .bool (valV kvs k).isSome
  | _ => none
def ninKD (k d : D) : Option D := match d with
  | .dict es => (keyD k).bind fun k => (decK es).map fun kvs => .bool (!(valV kvs k).isSome)
  | _ => none
section
variable {cs : List Tb} {X : Cx} {a b : Expr} {pos : Pos} {fa fb : Nv → Option D}
theorem e_getK (hu : X.A.units + 65 < cLine) (ha : EW cs X a fa) (hb : EW cs X b fb) (hs : NoSl b) : EP' cs X (.Subscript a b pos) (op2 getKD fa fb) := ⟨pe_imp (pe_dget (by omega) ha.h hb.h hs) fun σ H Q ⟨Z, F, ρ, d, R, ef, q⟩ => by
  unfold op2 at ef
  obtain ⟨x, ea, ef⟩ := Option.bind_eq_some_iff.mp ef
  obtain ⟨y, eb, ef⟩ := Option.bind_eq_some_iff.mp ef
  refine ⟨Z, F, ρ, x, R, ea, fun v F1 H1 e1 R1 w1 => ⟨Z, F1, ρ, y, R1, eb, fun u F2 H2 e2 R2 w2 => ?_⟩⟩
  unfold getKD at ef
  split at ef
  · obtain ⟨k, h1, ef⟩ := Option.bind_eq_some_iff.mp ef
    obtain ⟨kvs, h2, ef⟩ := Option.bind_eq_some_iff.mp ef
    obtain ⟨z, h3, rfl⟩ := Option.map_eq_some_iff.mp ef
    obtain ⟨p, rfl, g1, g2⟩ := R2.dk (w1.ext e2) h2
    have gk := vw_key R2 w2 h1
    subst gk
    exact ⟨p, z, rfl, by rw [← h3]; exact .inl ⟨_, _, g1, rfl, rfl⟩, q z F2 H2 (e1.trans e2) R2 (rp_flat (flat_val g2 h3))⟩
  · cases ef⟩
theorem e_inK (hu : X.A.units + 65 < cLine) (ha : EW cs X a fa) (hb : EW cs X b fb) (hm : behindInMarks .In b = false) : EP' cs X (.Compare a [.In] [b] pos) (op2 inKD fa fb) := ⟨pe_imp (pe_cmp (pc_din (by omega) ha.h hb.h) hm) fun σ H Q ⟨Z, F, ρ, d, R, ef, q⟩ => by
  unfold op2 at ef
  obtain ⟨x, ea, ef⟩ := Option.bind_eq_some_iff.mp ef
  obtain ⟨y, eb, ef⟩ := Option.bind_eq_some_iff.mp ef
  refine ⟨Z, F, ρ, x, R, ea, fun v F1 H1 e1 R1 w1 => ⟨Z, F1, ρ, y, R1, eb, fun u F2 H2 e2 R2 w2 => ?_⟩⟩
  unfold inKD at ef
  split at ef
  · obtain ⟨k, h1, ef⟩ := Option.bind_eq_some_iff.mp ef
    obtain ⟨kvs, h2, rfl⟩ := Option.map_eq_some_iff.mp ef
    obtain ⟨p, rfl, g1, g2⟩ := R2.dk w2 h2
    have gk := vw_key R2 (w1.ext e2) h1
    subst gk
    exact ⟨p, _, rfl, .inl ⟨_, _, g1, rfl, rfl⟩, q _ F2 H2 (e1.trans e2) R2 (.bl _)⟩
  · cases ef⟩
theorem e_ninK (hu : X.A.units + 65 < cLine) (ha : EW cs X a fa) (hb : EW cs X b fb) (hm : behindInMarks .NotIn b = false) : EP' cs X (.Compare a [.NotIn] [b] pos) (op2 ninKD fa fb) := ⟨pe_imp (pe_cmp (pc_dnotin (by omega) ha.h hb.h) hm) fun σ H Q ⟨Z, F, ρ, d, R, ef, q⟩ => by
  unfold op2 at ef
  obtain ⟨x, ea, ef⟩ := Option.bind_eq_some_iff.mp ef
  obtain ⟨y, eb, ef⟩ := Option.bind_eq_some_iff.mp ef
  refine ⟨Z, F, ρ, x, R, ea, fun v F1 H1 e1 R1 w1 => ⟨Z, F1, ρ, y, R1, eb, fun u F2 H2 e2 R2 w2 => ?_⟩⟩
  unfold ninKD at ef
  split at ef
  · obtain ⟨k, h1, ef⟩ := Option.bind_eq_some_iff.mp ef
    obtain ⟨kvs, h2, rfl⟩ := Option.map_eq_some_iff.mp ef
    obtain ⟨p, rfl, g1, g2⟩ := R2.dk w2 h2
    have gk := vw_key R2 (w1.ext e2) h1
    subst gk
    exact ⟨p, _, rfl, .inl ⟨_, _, g1, rfl, rfl⟩, q _ F2 H2 (e1.trans e2) R2 (.bl _)⟩
  · cases ef⟩
theorem et_inK (hu : X.A.units + 65 < cLine) (ha : EW cs X a fa) (hb : EW cs X b fb) (hm : behindInMarks .In b = false) : ET cs X (.Compare a [.In] [b] pos) (opT inKD fa fb) := ⟨pt_imp (pt_cmp (pc_din (by omega) ha.h hb.h) hm) fun σ H Q ⟨Z, F, ρ, k0, R, ef, q⟩ => by
  unfold opT op2 at ef
  obtain ⟨r0, ef, er⟩ := Option.bind_eq_some_iff.mp ef
  obtain ⟨x, ea, ef⟩ := Option.bind_eq_some_iff.mp ef
  obtain ⟨y, eb, ef⟩ := Option.bind_eq_some_iff.mp ef
  refine ⟨Z, F, ρ, x, R, ea, fun v F1 H1 e1 R1 w1 => ⟨Z, F1, ρ, y, R1, eb, fun u F2 H2 e2 R2 w2 => ?_⟩⟩
  unfold inKD at ef
  split at ef
  · obtain ⟨k, h1, ef⟩ := Option.bind_eq_some_iff.mp ef
    obtain ⟨kvs, h2, rfl⟩ := Option.map_eq_some_iff.mp ef
    obtain ⟨p, rfl, g1, g2⟩ := R2.dk w2 h2
    have gk := vw_key R2 (w1.ext e2) h1
    subst gk
    cases er
    exact ⟨p, _, rfl, .inl ⟨_, _, g1, rfl, rfl⟩, _, rfl, q F2 H2 (e1.trans e2) R2⟩
  · cases ef⟩
theorem et_ninK (hu : X.A.units + 65 < cLine) (ha : EW cs X a fa) (hb : EW cs X b fb) (hm : behindInMarks .NotIn b = false) : ET cs X (.Compare a [.NotIn] [b] pos) (opT ninKD fa fb) := ⟨pt_imp (pt_cmp (pc_dnotin (by omega) ha.h hb.h) hm) fun σ H Q ⟨Z, F, ρ, k0, R, ef, q⟩ => by
  unfold opT op2 at ef
  obtain ⟨r0, ef, er⟩ := Option.bind_eq_some_iff.mp ef
  obtain ⟨x, ea, ef⟩ := Option.bind_eq_some_iff.mp ef
  obtain ⟨y, eb, ef⟩ := Option.bind_eq_some_iff.mp ef
  refine ⟨Z, F, ρ, x, R, ea, fun v F1 H1 e1 R1 w1 => ⟨Z, F1, ρ, y, R1, eb, fun u F2 H2 e2 R2 w2 => ?_⟩⟩
  unfold ninKD at ef
  split at ef
  · obtain ⟨k, h1, ef⟩ := Option.bind_eq_some_iff.mp ef
    obtain ⟨kvs, h2, rfl⟩ := Option.map_eq_some_iff.mp ef
    obtain ⟨p, rfl, g1, g2⟩ := R2.dk w2 h2
    have gk := vw_key R2 (w1.ext e2) h1
    subst gk
    cases er
    exact ⟨p, _, rfl, .inl ⟨_, _, g1, rfl, rfl⟩, _, rfl, q F2 H2 (e1.trans e2) R2⟩
  · cases ef⟩
/-- {} -/
theorem e_dnew : EN cs X (.Dict [] [] pos) (fun _ => some (.dict [])) := ⟨pe_imp pe_dnewK fun σ H Q ⟨Z, F, ρ, d, R, ef, q⟩ p hp => by
  cases ef
  obtain ⟨R1, fp, zp, mp⟩ := R.made (o := .dK []) hp
  exact q p F _ (Ext.refl F) R1 fp zp mp (.inl ⟨[], upd_same, rfl, rfl⟩)⟩
/-- list(d) -/
def listKD : List D → Option D
  | [.dict es] => (decK es).map fun kvs => .list (kvs.map fun kv => kD kv.1)
  | _ => none
theorem rp_key {K : PySem.W.Frag} {F : Hp} (k : Key) : Rp K F (kV k) (kD k) := by
  cases k with
  | inl i => exact .int i
  | inr x => exact .str x
theorem rps_keys {K : PySem.W.Frag} {F : Hp} : ∀ kvs : List (Key × V), Rps K F (kvs.map fun kv => kV kv.1) (kvs.map fun kv => kD kv.1)
  | [] => .nil
  | p :: r => .cons (rp_key p.1) (rps_keys r)
/-- list(d), d perhaps locked -/
theorem list_rd (hc : X.calm = true) : CallR X (.type "list") (fun xs H Q => ∃ p kvs, xs = [V.ref p] ∧ Rd H p (.dK kvs) ∧ ∀ l, H l = none → Q (.ref l) (upd H l (.lst (kvs.map fun kv => kV kv.1)))) := by
  rintro pins s σ H xs us Q I r ⟨p, kvs, rfl, hk, q⟩
  obtain ⟨u0, rfl, r0⟩ := r.one
  cases r0
  obtain ⟨len, low, ws, kv, dict⟩ := dk_rd I.hok hk
  obtain ⟨n, place⟩ := dict.dictAt
  have same : kvs.length = ws.length := Paired.length kv
  have size : (kvs.map fun x => kV x.1).length ≤ sizeLine := by
    rw [List.length_map]
    exact len
  refine PySem.W.kdl_call (PySem.W.kdl_dict (knd := mixKind X.prog X.w) (ep := n) low) (I.ok.hd hc) place (by omega) fun hp tk its cap stay made got => ?_
  have vals : Vals (kvs.map fun x => kV x.1) its.toList := by
    refine vals_of_at (by have h1 := got.1; have h2 : its.toList.length = its.size := Array.length_toList; rw [List.length_map]; omega) fun i y z hy hz => ?_
    obtain ⟨key, val, at_, is_⟩ := got.2 i z (by rw [← Array.getElem?_toList]; exact hz)
    have first : (kvs.map Prod.fst)[i]? = some key := by
      have := KV.keys kv
      rw [this, List.getElem?_map, at_]
      rfl
    rw [List.getElem?_map] at first hy
    obtain ⟨pair, g1, g2⟩ := Option.map_eq_some_iff.mp first
    rw [g1] at hy
    cases hy
    show RelV (kV pair.1) z
    rw [g2]
    exact keyIs_rel is_
  exact ⟨.ref s.heap.objs.size, upd H s.heap.objs.size (.lst (kvs.map fun x => kV x.1)), I.laid stay (Nat.le_refl _) ⟨size, its.toList, cap, vals, by rw [Array.toArray_toList]; exact made⟩, rfl, q _ (I.hok.fresh (Nat.le_refl _))⟩
theorem cn_listK (hc : X.calm = true) : CallR X (.type "list") (rNs X.K cs listKD) := by
  rintro pins s σ H xs us Q I r ⟨Z, F, σ', ρ, ds, d, R, w, e, q⟩
  unfold listKD at e
  split at e
  · obtain ⟨kvs, e1, rfl⟩ := Option.map_eq_some_iff.mp e
    obtain ⟨v, rfl, w1⟩ := vws1 w
    obtain ⟨a, rfl, h1, h2⟩ := R.dk w1 e1
    refine list_rd hc pins s σ H _ us Q I r ⟨a, kvs, rfl, h1, fun l hl => ?_⟩
    obtain ⟨R4, fp, zp, mp⟩ := R.made (o := .lst (kvs.map fun kv => kV kv.1)) hl
    exact q l F _ (Ext.refl F) R4 fp zp mp ⟨_, upd_same, rps_keys kvs⟩
  · cases e
end

/-! ## what a frame's own things become -/
def Cell.put : Cell → D → Cell
  | .sh _, d => .sh d
  | .ow _, d => .ow d
  | .io a _, d => .io a d
theorem Cell.put_mine {c : Cell} {d : D} : (c.put d).mine = c.mine := by cases c <;> rfl
theorem Cell.put_got {c : Cell} {d : D} : (c.put d).got = d := by cases c <;> rfl
section
variable {K : PySem.W.Frag} {cs : List Tb} {Z F H : Hp} {σ : L2.St} {ρ : Nv} {c : Cell} {d : D} {a : Addr} {i : Nat} {o : HO}
theorem Rep.mut (R : Rep K cs Z F H σ ρ) (h1 : ρ[i]? = some (some c)) (h2 : c.mine = true) (h3 : σ[i]? = some (some (.ref a))) (ow : Own K F (upd H a o) a d) : Rep K cs Z F (upd H a o) σ (ρ.set i (some (c.put d))) := by
  obtain ⟨a', e', fa, za, owA⟩ := R.mine i c h1 h2
  rw [h3] at e'
  cases e'
  obtain ⟨oA, hA, _⟩ := owA.rp
  have plA := owA.pl hA
  have hl : i < ρ.length := (List.getElem?_eq_some_iff.mp h1).1
  have hset : ∀ {j : Nat} {e : Cell}, (ρ.set i (some (c.put d)))[j]? = some (some e) → (j = i ∧ e = c.put d) ∨ (j ≠ i ∧ ρ[j]? = some (some e)) := fun {j e} h => by
    by_cases hj : j = i
    · subst hj
      rw [List.getElem?_set_self hl] at h
      cases h
      exact .inl ⟨rfl, rfl⟩
    · rw [List.getElem?_set_ne (Ne.symm hj)] at h
      exact .inr ⟨hj, h⟩
  refine ⟨by rw [List.length_set]; exact R.len, fun b u e => ?_, fun b u e => ?_, fun j e g1 g2 => ?_, fun j e g1 => ?_, fun j k c1 c2 b g1 g2 g3 g4 g5 g6 => ?_, fun j b e g1 => ?_, ⟨R.tab.1, fun t ht => (R.tab.2 t ht).to (fun e => e) (fun ps e1 e2 => ⟨by rw [upd_ne (fun z => by rw [z, hA] at e1; exact plA.1 ps (Option.some.inj e1))]; exact e1, e2⟩) fun c φ e => by rw [upd_ne (fun z => by rw [z, hA] at e; exact plA.2.1 φ (Option.some.inj e))]; exact e⟩, R.tp.set (ow.pl upd_same).2.2⟩
  · rw [upd_ne (ne_of_none e fa)]
    exact R.fh b u e
  · obtain ⟨q1, q2⟩ := R.zh b u e
    rw [upd_ne (ne_of_none e za)]
    exact ⟨q1, q2⟩
  · rcases hset g1 with ⟨rfl, rfl⟩ | ⟨hj, g⟩
    · exact ⟨a, h3, fa, za, by rw [Cell.put_got]; exact ow⟩
    · obtain ⟨b, q1, q2, q3, q4⟩ := R.mine j e g g2
      have hne : b ≠ a := fun z => hj (R.inj j i e c a g g2 h1 h2 (by rw [← z]; exact q1) h3)
      exact ⟨b, q1, q2, q3, q4.ext (Ext.refl F) (upd_ne hne)⟩
  · rcases hset g1 with ⟨rfl, e2⟩ | ⟨hj, g⟩
    · cases c with
      | sh _ => cases h2
      | ow _ => cases e2
      | io _ _ => cases e2
    · exact R.sh j e g
  · have f1 : ∃ c1', ρ[j]? = some (some c1') ∧ c1'.mine = true := by
      rcases hset g1 with ⟨rfl, rfl⟩ | ⟨_, g⟩
      · exact ⟨c, h1, h2⟩
      · exact ⟨c1, g, g2⟩
    have f2 : ∃ c2', ρ[k]? = some (some c2') ∧ c2'.mine = true := by
      rcases hset g3 with ⟨rfl, rfl⟩ | ⟨_, g⟩
      · exact ⟨c, h1, h2⟩
      · exact ⟨c2, g, g4⟩
    obtain ⟨d1, x1, y1⟩ := f1
    obtain ⟨d2, x2, y2⟩ := f2
    exact R.inj j k d1 d2 b x1 y1 x2 y2 g5 g6
  · rcases hset g1 with ⟨rfl, e2⟩ | ⟨hj, g⟩
    · cases c with
      | sh _ => cases h2
      | ow _ => cases e2
      | io _ _ =>
        cases e2
        exact R.io j _ _ h1
    · exact R.io j b e g
end
/-- a change of what slot i names -/
def mutS (i : Nat) (op : D → Option D) : Nv → Option SR := fun ρ => match ρ[i]? with
  | some (some c) => if c.mine = true then (op c.got).map fun d => .nx (ρ.set i (some (c.put d))) else none
  | _ => none
def appD (x : D) : D → Option D
  | .list xs => if xs.length < 100000 then some (.list (xs ++ [x])) else none
  | _ => none
def revD : D → Option D
  | .list xs => some (.list xs.reverse)
  | _ => none
def appS (i : Nat) (fa : Nv → Option D) : Nv → Option SR := fun ρ => (fa ρ).bind fun x => mutS i (appD x) ρ
/-- d[k] = v on data -/
def putD (k v : D) : D → Option D
  | .dict es => (keyD k).bind fun k => (flatD v).bind fun v => (decK es).bind fun kvs => if kvs.length < 100000 then some (.dict ((putK kvs k v).map enK)) else none
  | _ => none
def putS (i : Nat) (fk fv : Nv → Option D) : Nv → Option SR := fun ρ => (fv ρ).bind fun v => (fk ρ).bind fun k => mutS i (putD k v) ρ
section
variable {cs : List Tb} {X : Cx} {E : XK} {e k : Expr} {x : Str} {p pos apos cpos : Pos} {i : Nat} {fa fk : Nv → Option D}
theorem mutS_some {op : D → Option D} {ρ : Nv} {r : SR} (h : mutS i op ρ = some r) : ∃ c d, ρ[i]? = some (some c) ∧ c.mine = true ∧ op c.got = some d ∧ r = .nx (ρ.set i (some (c.put d))) := by
  unfold mutS at h
  split at h
  · rename_i c hc
    split at h
    · rename_i hm
      obtain ⟨d, h1, rfl⟩ := Option.map_eq_some_iff.mp h
      exact ⟨c, d, hc, hm, h1, rfl⟩
    · cases h
  · cases h
/-- xs.append(e) -/
theorem sd_app (h : PE X (.Name x p) (tVar i)) (ha : EP' cs X e fa) (hbase : attributeBase (.Name x p) "append" X.env (eval (.Name x p) X.env) = eval (.Name x p) X.env := by rfl)
    (hfew : ((backTo cpos (starEach [e] X.env)).all (fun x => !x.1) && (backToKw cpos (keywordEach [] X.env)).all (fun x => x.1.isSome)
      && decide (([e] : List Expr).length + ([] : List Keyword).length + (if ([] : List Keyword).isEmpty then 0 else 1) < 30)) = true := by rfl)
    (hline : (apos.endLine == cpos.line) = true := by rfl) (hs : starEach [e] X.env = (false, eval e X.env) :: starEach [] X.env := by rfl) (hplain : (backTo cpos (starEach [] X.env)).any (·.1) = false := by rfl)
    (hsw : swapsWith (.Call (.Attribute (.Name x p) "append" apos) [e] [] cpos) none pos.line X.env = pure false := by rfl) :
    SD cs X E (.Expr (.Call (.Attribute (.Name x p) "append" apos) [e] [] cpos) pos) (appS i fa) :=
  ⟨ps_imp (ps_expr (pe_bm PySem.F.plainAttrs_list PySem.F.slot_list_append PySem.F.type_list_append mt_append h (pa_cons ha.h pa_nil hs) hbase hfew hline hs hplain) hsw) fun D σ H ⟨Z, F, ρ, r, R, ef, w⟩ => by
  obtain ⟨y, e1, e2⟩ := Option.bind_eq_some_iff.mp ef
  obtain ⟨c, d, hc, hm, e3, rfl⟩ := mutS_some e2
  obtain ⟨a, h1, fa0, za, ow⟩ := R.mine i c hc hm
  unfold appD at e3
  split at e3
  · rename_i xs hg
    split at e3
    · rename_i hlen
      cases e3
      rw [hg] at ow
      obtain ⟨vs, g1, g2⟩ := ow
      refine ⟨.ref a, h1, .inl ⟨rfl, vs, .inl (.inl g1)⟩, Z, F, ρ, y, R, e1, fun v F1 H1 x1 R1 r1 => ?_⟩
      obtain ⟨a', h1', _, _, ow'⟩ := R1.mine i c hc hm
      rw [h1] at h1'
      cases h1'
      rw [hg] at ow'
      obtain ⟨vs', g1', g2'⟩ := ow'
      have hz : vs'.length < sizeLine := by
        rw [g2'.len]
        have : (100000 : Nat) ≤ sizeLine := by decide
        omega
      exact ⟨a, vs', v, rfl, rfl, g1', hz, w σ F1 _ rfl x1 (R1.mut hc hm h1 ⟨_, upd_same, g2'.app (.cons r1 .nil)⟩)⟩
    · cases e3
  · cases e3⟩
/-- xs.reverse() -/
theorem sd_rev (h : PE X (.Name x p) (tVar i)) (hbase : attributeBase (.Name x p) "reverse" X.env (eval (.Name x p) X.env) = eval (.Name x p) X.env := by rfl) (hline : (apos.endLine == cpos.line) = true := by rfl)
    (hsw : swapsWith (.Call (.Attribute (.Name x p) "reverse" apos) [] [] cpos) none pos.line X.env = pure false := by rfl) :
    SD cs X E (.Expr (.Call (.Attribute (.Name x p) "reverse" apos) [] [] cpos) pos) (mutS i revD) :=
  ⟨ps_imp (ps_expr (pe_bm0 PySem.F.plainAttrs_list PySem.F.slot_list_reverse PySem.F.type_list_reverse mt_reverse h hbase hline) hsw) fun D σ H ⟨Z, F, ρ, r, R, ef, w⟩ => by
  obtain ⟨c, d, hc, hm, e3, rfl⟩ := mutS_some ef
  obtain ⟨a, h1, fa0, za, ow⟩ := R.mine i c hc hm
  unfold revD at e3
  split at e3
  · rename_i xs hg
    cases e3
    rw [hg] at ow
    obtain ⟨vs, g1, g2⟩ := ow
    exact ⟨.ref a, h1, .inl ⟨rfl, vs, .inl (.inl g1)⟩, a, vs, rfl, rfl, g1, w σ F _ rfl (Ext.refl F) (R.mut hc hm h1 ⟨_, upd_same, g2.rev⟩)⟩
  · cases e3⟩
/-- d[k] = v, d this frame's own or lent -/
theorem sd_put {spos : Pos} (hu : X.A.units + 65 < cLine) (h : PE X (.Name x p) (tVar i)) (hk : EW cs X k fk) (hv : EP' cs X e fa) (hs : swapsWith e (some (.Subscript (.Name x p) k spos)) pos.line X.env = pure false := by rfl) :
    SD cs X E (.Assign [.Subscript (.Name x p) k spos] e pos) (putS i fk fa) :=
  ⟨ps_imp (ps_dput (by omega) h hk.h hv.h hs) fun D σ H ⟨Z, F, ρ, r, R, ef, w⟩ => by
  obtain ⟨y, e1, e2⟩ := Option.bind_eq_some_iff.mp ef
  obtain ⟨z, e3, e4⟩ := Option.bind_eq_some_iff.mp e2
  obtain ⟨c, d, hc, hm, e5, rfl⟩ := mutS_some e4
  refine ⟨Z, F, ρ, y, R, e1, fun v F1 H1 x1 R1 r1 => ?_⟩
  obtain ⟨a, h1, fa0, za, _⟩ := R1.mine i c hc hm
  refine ⟨.ref a, h1, Z, F1, ρ, z, R1, e3, fun u F2 H2 x2 R2 w2 => ?_⟩
  obtain ⟨a', h1', _, _, ow⟩ := R2.mine i c hc hm
  rw [h1] at h1'
  cases h1'
  unfold putD at e5
  split at e5
  · rename_i es hg
    obtain ⟨k', q1, e5⟩ := Option.bind_eq_some_iff.mp e5
    obtain ⟨v', q2, e5⟩ := Option.bind_eq_some_iff.mp e5
    obtain ⟨kvs, q3, e5⟩ := Option.bind_eq_some_iff.mp e5
    split at e5
    · rename_i hlen
      cases e5
      have gk := vw_key R2 w2 q1
      subst gk
      have gv := vw_flat R1 (.inl r1) q2
      subst gv
      obtain ⟨_, fv⟩ := flatD_some q2
      rw [hg] at ow
      rcases ow with ⟨kvs', g1, g2, g3⟩ | ⟨kvs', g1, g2, g4⟩
      · rw [g3, decK_en g2] at q3
        cases q3
        have hz : kvs.length < sizeLine := by
          have : (100000 : Nat) ≤ sizeLine := by decide
          omega
        refine ⟨a, _, rfl, .inl ⟨kvs, k', g1, rfl, hz, rfl⟩, w σ F2 _ rfl (x1.trans x2) (R2.mut hc hm h1 (.inl ⟨_, upd_same, ?_, rfl⟩))⟩
        rw [List.all_eq_true]
        intro q hq
        unfold putK at hq
        split at hq
        · obtain ⟨q0, hq0, rfl⟩ := List.mem_map.mp hq
          split
          · exact fv
          · exact List.all_eq_true.mp g2 _ hq0
        · rcases List.mem_append.mp hq with hq | hq
          · exact List.all_eq_true.mp g2 _ hq
          · rcases List.mem_cons.mp hq with rfl | hq
            · exact fv
            · cases hq
      · exact (g4 (decK_ents g2 q3)).elim
    · cases e5
  · cases e5⟩
/-- a name's own list or dict, shared from now on -/
def shrS (i : Nat) : Nv → Option Nv := fun ρ => match ρ[i]? with
  | some (some (.ow d)) => some (ρ.set i (some (.sh d)))
  | some (some (.sh _)) => some ρ
  | _ => none
theorem sd_share {st : Stmt} {g : Nv → Option SR} (i : Nat) (h : SD cs X E st g) : SD cs X E st (fun ρ => (shrS i ρ).bind g) := ⟨ps_imp h.h fun D σ H ⟨Z, F, ρ, r, R, ef, w⟩ => by
  obtain ⟨ρ', e1, e2⟩ := Option.bind_eq_some_iff.mp ef
  unfold shrS at e1
  split at e1
  · rename_i d hd
    cases e1
    obtain ⟨a, h1, fa0, za, ow⟩ := R.mine i _ hd rfl
    obtain ⟨o, g1, g2⟩ := ow.rp
    have RD : Rep X.K cs Z F H σ (ρ.set i none) := by
      have := R.drop i (some (.ref a))
      have es : σ.set i (some (.ref a)) = σ := by
        refine List.ext_getElem? fun j => ?_
        by_cases hj : j = i
        · subst hj
          rw [List.getElem?_set_self (by rw [List.getElem?_eq_some_iff] at h1; exact h1.1), h1]
        · rw [List.getElem?_set_ne (Ne.symm hj)]
      rw [es] at this
      exact this
    have nm : ¬ Mine σ (ρ.set i none) a := fun ⟨j, c, q1, q2, q3⟩ => by
      by_cases hj : j = i
      · subst hj
        by_cases hl : j < ρ.length
        · rw [List.getElem?_set_self hl] at q1
          cases q1
        · rw [List.getElem?_eq_none (by rw [List.length_set]; omega)] at q1
          cases q1
      · rw [List.getElem?_set_ne (Ne.symm hj)] at q1
        exact hj (R.inj j i c _ a q1 q2 hd rfl q3 h1)
    have RG := RD.give g1 fa0 za nm (ow.pl g1)
    have RS := RG.setSh i (g2 _ (Ext.upd fa0) upd_same)
    rw [List.set_set] at RS
    have es : σ.set i (some (.ref a)) = σ := by
      refine List.ext_getElem? fun j => ?_
      by_cases hj : j = i
      · subst hj
        rw [List.getElem?_set_self (by rw [List.getElem?_eq_some_iff] at h1; exact h1.1), h1]
      · rw [List.getElem?_set_ne (Ne.symm hj)]
    rw [es] at RS
    exact ⟨Z, _, _, r, RS, e2, w.ext (Ext.upd fa0)⟩
  · cases e1
    exact ⟨Z, F, _, r, R, e2, w⟩
  · cases e1⟩
end
end DS

namespace DS
open PySem L2

/-! ## targets that are tuples -/
section
variable {cs : List Tb} {X : Cx} {E : XK} {e a b tg : Expr} {pos : Pos} {fa fb : Nv → Option D} {ga : D → Nv → Option Nv} {fr : Nv → Option (List D)}
theorem sd_asgT (he : EP' cs X e fa) (hg : GD cs X tg ga) (hs : swapsWithSole [tg] e pos.line X.env = pure false := by rfl) (hw : swappedStores [tg] e X.env = pure none := by rfl)
    (h1 : (assignEach [tg] X.env).map (·.2) = [assign tg X.env] := by rfl) : SD cs X E (.Assign [tg] e pos) (fun ρ => (fa ρ).bind fun d => (ga d ρ).map .nx) := ⟨ps_imp (ps_asg he.h hg.h hs hw h1) fun D σ H ⟨Z, F, ρ, r, R, ef, w⟩ => by
  obtain ⟨d, e1, e2⟩ := Option.bind_eq_some_iff.mp ef
  obtain ⟨ρ', e3, rfl⟩ := Option.map_eq_some_iff.mp e2
  exact ⟨Z, F, ρ, d, R, e1, fun v F1 H1 x1 R1 r1 => ⟨Z, F1, ρ, d, ρ', R1, r1, e3, fun σ' F2 H2 l2 x2 R2 => w σ' F2 H2 l2 (x1.trans x2) R2⟩⟩⟩
/-- a, b = x, y -/
def parS (i j : Nat) (fr : Nv → Option (List D)) : Nv → Option SR := fun ρ => (fr ρ).bind fun ds => match ds with
  | [x, y] => some (.nx ((ρ.set i (some (.sh x))).set j (some (.sh y))))
  | _ => none
theorem sd_par {i j : Nat} {x y : Str} {px py pt : Pos} {kt k2 : Nat} {pt2 : Pos} (hc : X.calm = true) (hN : X.N.Nodup) (hi : X.N[i]? = some x) (hj : X.N[j]? = some y) (hij : i ≠ j)
    (hx : X.env.scope.names.lookup x = some .local) (hy : X.env.scope.names.lookup y = some .local) (ha : EPs cs X [a, b] fr)
    (hw : swappedStores [.Tuple [.Name x px, .Name y py] kt pt] (.Tuple [a, b] k2 pt2) X.env = pure (some [x, y]) := by rfl)
    (hs : swapsWithSole [.Tuple [.Name x px, .Name y py] kt pt] (.Tuple [a, b] k2 pt2) pos.line X.env = pure false := by rfl) :
    SD cs X E (.Assign [.Tuple [.Name x px, .Name y py] kt pt] (.Tuple [a, b] k2 pt2) pos) (parS i j fr) := ⟨ps_imp (ps_par hc hN hi hj hij hx hy ha.h hw hs) fun D σ H ⟨Z, F, ρ, r, R, ef, w⟩ => by
  obtain ⟨ds, e1, e2⟩ := Option.bind_eq_some_iff.mp ef
  split at e2
  · rename_i d1 d2
    cases e2
    refine ⟨Z, F, ρ, _, R, e1, fun vs F1 H1 x1 R1 r1 => ?_⟩
    match vs, r1 with
    | [v, u], .cons r1 (.cons r2 .nil) => exact ⟨v, u, rfl, w _ F1 H1 (by rw [List.length_set, List.length_set]) x1 ((R1.setSh i r1).setSh j r2)⟩
  · cases e2⟩
end

/-! ## min of a list -/
def intsD : List D → Option (List Int)
  | [] => some []
  | .int i :: r => (intsD r).map (i :: ·)
  | _ => none
def leastD : List Int → Option Int
  | [] => none
  | i :: r => some (r.foldl (fun a b => if b < a then b else a) i)
def minD : List D → Option D
  | [.list xs] => (intsD xs).bind fun ns => (leastD ns).map .int
  | _ => none
theorem intsD_rps {K : PySem.W.Frag} {F : Hp} : ∀ {vs : List V} {ds : List D} {ns : List Int}, Rps K F vs ds → intsD ds = some ns → vs = ns.map V.int
  | [], [], ns, .nil, h => by cases h; rfl
  | v :: vs, d :: ds, ns, .cons a b, h => by
    cases d with
    | int i =>
      obtain ⟨r, h1, rfl⟩ := Option.map_eq_some_iff.mp h
      cases a
      rw [intsD_rps b h1]
      rfl
    | _ => cases h
theorem fold_least : ∀ (r : List Int) (i : Int), let m := r.foldl (fun a b => if b < a then b else a) i; (m = i ∨ m ∈ r) ∧ m ≤ i ∧ ∀ y ∈ r, m ≤ y
  | [], i => ⟨.inl rfl, Int.le_refl i, fun y h => by cases h⟩
  | b :: r, i => by
    have ih := fold_least r (if b < i then b else i)
    dsimp only at ih ⊢
    rw [List.foldl_cons]
    generalize hm : r.foldl (fun a b => if b < a then b else a) (if b < i then b else i) = m at ih
    obtain ⟨h1, h2, h3⟩ := ih
    have hb : (if b < i then b else i) ≤ b ∧ (if b < i then b else i) ≤ i := by split <;> omega
    refine ⟨?_, by omega, fun y hy => ?_⟩
    · rcases h1 with h1 | h1
      · by_cases hlt : b < i
        · rw [if_pos hlt] at h1
          exact .inr (by rw [h1]; exact List.mem_cons_self)
        · rw [if_neg hlt] at h1
          exact .inl h1
      · exact .inr (List.mem_cons_of_mem _ h1)
    · rcases List.mem_cons.mp hy with rfl | hy
      · omega
      · exact h3 y hy
theorem leastD_is {ns : List Int} {m : Int} (h : leastD ns = some m) : m ∈ ns ∧ ∀ y ∈ ns, m ≤ y := by
  cases ns with
  | nil => cases h
  | cons i r =>
    have q := fold_least r i
    cases h
    obtain ⟨h1, h2, h3⟩ := q
    refine ⟨?_, fun y hy => ?_⟩
    · rcases h1 with h1 | h1
      · rw [h1]
        exact List.mem_cons_self
      · exact List.mem_cons_of_mem _ h1
    · rcases List.mem_cons.mp hy with rfl | hy
      · exact h2
      · exact h3 y hy
theorem least_uniq {ns : List Int} {m m' : Int} (h1 : m ∈ ns) (h2 : ∀ y ∈ ns, m ≤ y) (h3 : m' ∈ ns) (h4 : ∀ y ∈ ns, m' ≤ y) : m = m' := by
  have := h2 m' h3
  have := h4 m h1
  omega
theorem cd_min {cs : List Tb} {X : Cx} (hc : X.calm = true) : CallR X (.builtin "min") (rDs X.K cs minD) := by
  rintro pins s σ H xs us Q I r ⟨Z, F, σ', ρ, ds, d, R, w, e, q⟩
  unfold minD at e
  split at e
  · obtain ⟨ns, e1, e2⟩ := Option.bind_eq_some_iff.mp e
    obtain ⟨m, e3, rfl⟩ := Option.map_eq_some_iff.mp e2
    obtain ⟨v, rfl, w1⟩ := vws1 w
    obtain ⟨a, vs, rfl, s1, r1⟩ := R.lst w1
    have hv := intsD_rps r1 e1
    subst hv
    obtain ⟨g1, g2⟩ := leastD_is e3
    refine cr_min hc pins s σ H _ us Q I r ⟨a, ns, rfl, s1, List.length_pos_of_mem g1, fun m' h1 h2 => ?_⟩
    have := least_uniq h1 h2 g1 g2
    subst this
    exact q _ F H (Ext.refl F) R (.int _)
  · cases e
def enumV (ds : List D) : Option (List D) := match ds with
  | [.list xs] => some (enumD xs)
  | _ => none

/-! ## while, as long as it lasts -/
theorem whileS_up {t : Nv → Option Bool} {g : Nv → Option SR} : ∀ {n : Nat} {ρ : Nv} {r : SR}, whileS t g n ρ = some r → ∀ m, n ≤ m → whileS t g m ρ = some r
  | 0, _, _, h, _, _ => by cases h
  | n + 1, ρ, r, h, 0, hm => by omega
  | n + 1, ρ, r, h, m + 1, hm => by
    rw [whileS] at h ⊢
    obtain ⟨k, e1, e2⟩ := Option.bind_eq_some_iff.mp h
    rw [e1]
    show (if k = true then _ else _) = _
    by_cases hk : k = true
    · rw [if_pos hk] at e2 ⊢
      obtain ⟨r1, e3, e4⟩ := Option.bind_eq_some_iff.mp e2
      rw [e3]
      cases r1 with
      | nx ρ' => exact whileS_up (n := n) e4 m (by omega)
      | ct ρ' => exact whileS_up (n := n) e4 m (by omega)
      | bk ρ' => exact e4
      | rt d o ρ' => exact e4
      | exc c => exact e4
    · rw [if_neg hk] at e2 ⊢
      exact e2
open Classical in
noncomputable def fuelC (t : Nv → Option Bool) (g : Nv → Option SR) (ρ : Nv) : Nat := if h : ∃ n r, whileS t g n ρ = some r then Classical.choose h else 0
noncomputable def whileC (t : Nv → Option Bool) (g : Nv → Option SR) : Nv → Option SR := fun ρ => whileS t g (fuelC t g ρ) ρ
theorem whileC_is {t : Nv → Option Bool} {g : Nv → Option SR} {n : Nat} {ρ : Nv} {r : SR} (h : whileS t g n ρ = some r) : whileC t g ρ = some r := by
  have hx : ∃ n r, whileS t g n ρ = some r := ⟨n, r, h⟩
  obtain ⟨r', h'⟩ := Classical.choose_spec hx
  unfold whileC fuelC
  rw [dif_pos hx]
  rw [h']
  have a1 := whileS_up h (max n (Classical.choose hx)) (Nat.le_max_left _ _)
  have a2 := whileS_up h' (max n (Classical.choose hx)) (Nat.le_max_right _ _)
  rw [a1] at a2
  exact a2.symm

/-! ## dict comprehensions with plain keys -/
def dcD (i : Nat) (t : Nv → Option Bool) (fk fv : Nv → Option D) (ρ : Nv) : List D → List (Key × V) → Option (List (Key × V))
  | [], acc => some acc
  | x :: xs, acc => (t (ρ.set i (some (.sh x)))).bind fun b => if b = true then (fk (ρ.set i (some (.sh x)))).bind fun y => (keyD y).bind fun k => (fv (ρ.set i (some (.sh x)))).bind fun z => (flatD z).bind fun v => dcD i t fk fv ρ xs (putK acc k v) else dcD i t fk fv ρ xs acc
def dcV (i : Nat) (f : Nv → Option (List D)) (t : Nv → Option Bool) (fk fv : Nv → Option D) : Nv → Option D := fun ρ => (f ρ).bind fun ds => if noMine ρ i = true ∧ ds.length ≤ 100000 then (dcD i t fk fv ρ ds []).map fun kvs => .dict (kvs.map enK) else none
theorem flat_put {kvs : List (Key × V)} {k : Key} {v : V} (h : (kvs.all fun p => flat p.2) = true) (hv : flat v = true) : ((putK kvs k v).all fun p => flat p.2) = true := by
  rw [List.all_eq_true] at h ⊢
  intro q hq
  unfold putK at hq
  split at hq
  · obtain ⟨q0, hq0, rfl⟩ := List.mem_map.mp hq
    split
    · exact hv
    · exact h _ hq0
  · rcases List.mem_append.mp hq with hq | hq
    · exact h _ hq
    · rcases List.mem_cons.mp hq with rfl | hq
      · exact hv
      · cases hq
section
variable {cs : List Tb} {X : Cx} {kx vx iter : Expr} {ifs : List Expr} {scope : Scope} {x : Str} {i : Nat} {px pos : Pos} {f : Nv → Option (List D)} {t : Nv → Option Bool} {fk fv : Nv → Option D}
theorem e_dc (hc : X.calm = true) (hN : X.N.Nodup) (hix : X.N[i]? = some x) (hi : EI cs X SetP (.Name x px) iter f) (ok : BlkOk X.N X.env.scope scope [(x, i)])
    (hl : ∀ (s : Shared) (H : Hp) (C : Addr) (cl : List (Str × Addr)) (fp : List Addr), (X.blk s H scope (compEnvC scope cl C X.env) fp).env.scope.names.lookup x = some .local)
    (ht : ∀ (s : Shared) (H : Hp) (C : Addr) (cl : List (Str × Addr)) (fp : List Addr), ETs cs (X.blk s H scope (compEnvC scope cl C X.env) fp) ifs t)
    (hk : ∀ (s : Shared) (H : Hp) (C : Addr) (cl : List (Str × Addr)) (fp : List Addr), EP' cs (X.blk s H scope (compEnvC scope cl C X.env) fp) kx fk)
    (he : ∀ (s : Shared) (H : Hp) (C : Addr) (cl : List (Str × Addr)) (fp : List Addr), EP' cs (X.blk s H scope (compEnvC scope cl C X.env) fp) vx fv) (hs : ∀ x, foldedSetIterable iter X.env x = pure x := by intro _; rfl) :
    EN cs X (.DictComp kx vx [⟨.Name x px, iter, ifs, 0⟩] scope pos) (dcV i f t fk fv) := by
  refine ⟨pe_imp (pe_dc (own := [(x, i)]) (g := gName i) (tt := tPT X.K cs t) (tk := tP X.K cs fk) (tv := tP X.K cs fv) hc hN hi.h ok (fun s H C cl fp => pg_name (X := X.blk s H scope (compEnvC scope cl C X.env) fp) (i := i) hN hix (.inl (hl s H C cl fp)) (.inr (hl s H C cl fp))) (fun s H C cl fp => (ht s H C cl fp).h) (fun s H C cl fp => (hk s H C cl fp).h) (fun s H C cl fp => (he s H C cl fp).h) hs) ?_⟩
  rintro σ H Q ⟨Z, F, ρ, d, R, ef, q⟩
  obtain ⟨ds, e1, e2⟩ := Option.bind_eq_some_iff.mp ef
  split at e2
  · rename_i hb
    obtain ⟨hn, hdl⟩ := hb
    obtain ⟨ys, e3, rfl⟩ := Option.map_eq_some_iff.mp e2
    refine ⟨Z, F, ρ, ds, R, e1, fun J P F1 H1 x1 R1 p1 hP S D hD => ?_⟩
    obtain ⟨R2, fD, zD, mD⟩ := R1.made (o := .dK []) hD
    have R3 := R2.aside upd_same fD mD pl_dK
    have R4 : Rep X.K cs (upd Z D (.dK [])) F1 (upd H1 D (.dK [])) (σ.set i none) (ρ.set i none) := R3.drop i none
    have pS : P F1 (σ.set i none) (ρ.set i none) := hP _ _ _ _ _ _ hn p1
    refine ⟨fun k m H2 => k + m = ds.length ∧ ∃ F2 acc, Ext F1 F2 ∧ Rep X.K cs (upd Z D (.dK acc)) F2 H2 (σ.set i none) (ρ.set i none) ∧ P F2 (σ.set i none) (ρ.set i none) ∧ (acc.all fun p => flat p.2) = true ∧ acc.length ≤ k ∧ dcD i t fk fv ρ (ds.drop k) acc = some ys,
      ⟨ds.length, by omega, F1, [], Ext.refl F1, R4, pS, rfl, Nat.le_refl _, by rw [List.drop_zero]; exact e3⟩, ?_⟩
    rintro k m H2 ⟨hm, F2, acc, x2, R5, p5, r5, la, e5⟩
    by_cases hlt : k < ds.length
    · have hd : ds.drop k = ds[k] :: ds.drop (k + 1) := List.drop_eq_getElem_cons hlt
      rw [hd, dcD] at e5
      obtain ⟨b, e6, e7⟩ := Option.bind_eq_some_iff.mp e5
      obtain ⟨hgo, hyl⟩ := S.go _ F2 H2 _ _ k ds[k] R5 p5 (List.getElem?_eq_getElem hlt)
      refine .inr ⟨hgo, fun H3 => ∃ m', m' < m ∧ (k + 1) + m' = ds.length ∧ ∃ F3 acc, Ext F1 F3 ∧ Rep X.K cs (upd Z D (.dK acc)) F3 H3 (σ.set i none) (ρ.set i none) ∧ P F3 (σ.set i none) (ρ.set i none) ∧ (acc.all fun p => flat p.2) = true ∧ acc.length ≤ k + 1 ∧ dcD i t fk fv ρ (ds.drop (k + 1)) acc = some ys, fun H3 h => h, fun v H3 hyv => ?_⟩
      obtain ⟨F3, x3, R6, r6⟩ := hyl v H3 hyv
      have R7 := R6.setSh i r6
      have sset : ∀ w : Option V, (σ.set i none).set i w = σ.set i w := fun w => by rw [List.set_set]
      have rset : ∀ c : Option Cell, (ρ.set i none).set i c = ρ.set i c := fun c => by rw [List.set_set]
      rw [sset, rset] at R7
      refine ⟨?_, ?_⟩
      · show ((σ.set i none).set i (some v)).set i none = σ.set i none
        rw [List.set_set, List.set_set]
      · have hw : List.set (wipe σ (List.map (fun x => x.snd) [(x, i)])) i (some v) = σ.set i (some v) := sset (some v)
        rw [hw]
        refine ⟨_, F3, _, b, R7, e6, fun F4 H4 x4 R8 => ?_⟩
        have back : ∀ {F5 H5 : Hp} {acc' : List (Key × V)}, Rep X.K cs (upd Z D (.dK acc')) F5 H5 (σ.set i (some v)) (ρ.set i (some (.sh ds[k]))) → Rep X.K cs (upd Z D (.dK acc')) F5 H5 (σ.set i none) (ρ.set i none) := fun {F5 H5 acc'} r => by
          have := r.drop i none
          rw [List.set_set, List.set_set] at this
          exact this
        by_cases hb : b = true
        · rw [if_pos hb] at e7
          show if b = true then _ else _
          rw [if_pos hb]
          obtain ⟨y, e8, e9⟩ := Option.bind_eq_some_iff.mp e7
          obtain ⟨ky, e10, e11⟩ := Option.bind_eq_some_iff.mp e9
          obtain ⟨z, e12, e13⟩ := Option.bind_eq_some_iff.mp e11
          obtain ⟨vz, e14, e15⟩ := Option.bind_eq_some_iff.mp e13
          refine ⟨_, F4, _, y, R8, e8, fun u F5 H5 x5 R9 r9 => ⟨_, F5, _, z, R9, e12, fun u2 F6 H6 x6 R10 r10 => ?_⟩⟩
          have gk := vw_key R9 (.inl r9) e10
          subst gk
          have gv := vw_flat R10 (.inl r10) e14
          subst gv
          obtain ⟨_, fz⟩ := flatD_some e14
          refine ⟨acc, ky, rfl, (R10.zh D _ upd_same).1, ?_, ?_⟩
          · have : (100000 : Nat) ≤ sizeLine := by decide
            omega
          · have x26 : Ext F2 F6 := ((x3.trans x4).trans x5).trans x6
            have hl := length_putK acc ky u2
            exact ⟨m - 1, by omega, by omega, F6, putK acc ky u2, x2.trans x26, back (R10.asideSet pl_dK pl_dK), S.mono _ _ _ _ x26 p5, flat_put r5 fz, by omega, e15⟩
        · rw [if_neg hb] at e7
          show if b = true then _ else _
          rw [if_neg hb]
          have x24 : Ext F2 F4 := x3.trans x4
          exact ⟨m - 1, by omega, by omega, F4, acc, x2.trans x24, back R8, S.mono _ _ _ _ x24 p5, r5, by omega, e7⟩
    · have hd : ds.drop k = [] := List.drop_of_length_le (by omega)
      rw [hd] at e5
      cases e5
      refine .inl ⟨S.stop _ F2 H2 _ _ k R5 p5 (by omega), ?_⟩
      obtain ⟨hDH, hDF⟩ := R5.zh D _ upd_same
      have RB : Rep X.K cs Z F2 H2 σ ρ := R1.restore hn (fun _ z => by cases z) x2 (fun a o h => by
        have ha : a ≠ D := ne_of_none h zD
        rw [upd_ne ha]
        exact h) R5
      exact q D F2 H2 (x1.trans x2) RB hDF zD mD (.inl ⟨_, hDH, r5, rfl⟩)
  · cases e2
end
end DS

namespace DS
open PySem L2
open Classical

/-! ## calls that change one argument -/
/-- the arguments: that at slot j is lent, the others are shared -/
inductive ArgX (K : PySem.W.Frag) (F : Hp) (σ : L2.St) (ρ : Nv) (j : Nat) : List Md → List V → List D → Prop
  | io {c : Cell} {a : Addr} {vs : List V} {ds : List D} {ms : List Md} : ρ[j]? = some (some c) → c.mine = true → σ[j]? = some (some (.ref a)) → (∀ m ∈ ms, m = .ro) → ms.length = ds.length → Rps K F vs ds → ArgX K F σ ρ j (.io :: ms) (.ref a :: vs) (c.got :: ds)
  | ro {v : V} {d : D} {ms : List Md} {vs : List V} {ds : List D} : Rp K F v d → ArgX K F σ ρ j ms vs ds → ArgX K F σ ρ j (.ro :: ms) (v :: vs) (d :: ds)
section
variable {K : PySem.W.Frag} {cs : List Tb} {Z F F' H H' : Hp} {σ σ' : L2.St} {ρ ρ' : Nv} {j : Nat} {ms : List Md} {vs : List V} {ds : List D}
/-- how the arguments lie -/
theorem ArgX.look (A : ArgX K F σ ρ j ms vs ds) : ∃ (pos : Nat) (c : Cell) (a : Addr), ρ[j]? = some (some c) ∧ c.mine = true ∧ σ[j]? = some (some (.ref a)) ∧ vs.length = ms.length ∧ ds.length = ms.length ∧ ioOk ms vs = true ∧ vs[pos]? = some (.ref a) ∧
    (∀ i c', (argNv ms vs ds)[i]? = some (some c') → (∃ d v, c' = .sh d ∧ vs[i]? = some v ∧ Rp K F v d) ∨ (i = pos ∧ c' = .io a c.got)) ∧ (argNv ms vs ds).length = vs.length ∧
    ∀ d', (outNv ms vs [d'])[pos]? = some (some (.io a d')) := by
  induction A with
  | @io c a vs ds ms h1 h2 h3 hro hl r =>
    have hv : vs.length = ms.length := by rw [r.len, hl]
    refine ⟨0, c, a, h1, h2, h3, by simp [hv], by simp [hl], show ioOk ms vs = true from ioOk_ro hro, rfl, fun i c' h => ?_, ?_, fun d' => rfl⟩
    · have e : argNv (.io :: ms) (.ref a :: vs) (c.got :: ds) = some (.io a c.got) :: argNv ms vs ds := rfl
      rw [e, argNv_ro hro hv hl.symm] at h
      cases i with
      | zero =>
        cases h
        exact .inr ⟨rfl, rfl⟩
      | succ i =>
        obtain ⟨d, g1, rfl⟩ := shs_get (i := i) (by simpa using h)
        obtain ⟨v, g2, g3⟩ := r.get g1
        exact .inl ⟨d, v, rfl, by simpa using g2, g3⟩
    · have e : argNv (.io :: ms) (.ref a :: vs) (c.got :: ds) = some (.io a c.got) :: argNv ms vs ds := rfl
      rw [e, argNv_ro hro hv hl.symm, List.length_cons, List.length_map, List.length_cons, r.len]
  | @ro v d ms vs ds r A ih =>
    obtain ⟨pos, c, a, h1, h2, h3, h4, h5, h6, h7, h8, h9, h10⟩ := ih
    have e : argNv (.ro :: ms) (v :: vs) (d :: ds) = some (.sh d) :: argNv ms vs ds := rfl
    refine ⟨pos + 1, c, a, h1, h2, h3, by simp [h4], by simp [h5], ?_, by simpa using h7, fun i c' h => ?_, by rw [e, List.length_cons, h9, List.length_cons], fun d' => ?_⟩
    · cases v <;> exact h6
    · rw [e] at h
      cases i with
      | zero =>
        cases h
        exact .inl ⟨d, v, rfl, rfl, r⟩
      | succ i =>
        rcases h8 i c' (by simpa using h) with ⟨d', v', g1, g2, g3⟩ | ⟨g1, g2⟩
        · exact .inl ⟨d', v', g1, by simpa using g2, g3⟩
        · exact .inr ⟨by omega, g2⟩
    · have e2 : outNv (.ro :: ms) (v :: vs) [d'] = none :: outNv ms vs [d'] := by cases v <;> rfl
      rw [e2]
      simpa using h10 d'
theorem ArgX.ext (e : Ext F F') (A : ArgX K F σ ρ j ms vs ds) : ArgX K F' σ ρ j ms vs ds := by
  induction A with
  | io h1 h2 h3 hro hl r => exact .io h1 h2 h3 hro hl (r.ext e)
  | ro r _ ih => exact .ro (r.ext e) ih
/-- what is others' for the callee: all but what is lent -/
noncomputable def othX (a : Addr) (F H : Hp) : Hp := fun b => if b = a then none else oth F H b
theorem othX_of {a b : Addr} {o : HO} (hb : b ≠ a) (h : F b = none) (e : H b = some o) (nt : ∀ ps, o ≠ .tbl ps) : othX a F H b = some o := by
  unfold othX
  rw [if_neg hb]
  exact oth_of h e nt
theorem othX_nt {a : Addr} (b : Addr) (ps : Array Value) : othX a F H b ≠ some (.tbl ps) := by
  intro h
  unfold othX at h
  split at h
  · cases h
  · exact oth_nt b ps h
theorem of_othX {a b : Addr} {o : HO} (h : othX a F H b = some o) : H b = some o ∧ F b = none ∧ b ≠ a := by
  unfold othX at h
  split at h
  · cases h
  · rename_i hb
    obtain ⟨h1, h2⟩ := of_oth h
    exact ⟨h1, h2, hb⟩
end
section
variable {K : PySem.W.Frag} {cs : List Tb} {Z F F' H H' : Hp} {σ : L2.St} {ρ : Nv} {j : Nat} {ms : List Md} {vs : List V} {ds : List D} {c : Cell} {a : Addr} {d' v : D}
theorem Rep.lendX (R : Rep K cs Z F H σ ρ) (A : ArgX K F σ ρ j ms vs ds) (h1 : ρ[j]? = some (some c)) (h2 : c.mine = true) (h3 : σ[j]? = some (some (.ref a))) :
    Rep K cs (othX a F H) F H (vs.map some) (argNv ms vs ds) := by
  obtain ⟨pos, c0, a0, g1, g2, g3, g4, g5, g6, g7, g8, g9, g10⟩ := A.look
  rw [h1] at g1
  cases g1
  rw [h3] at g3
  cases g3
  obtain ⟨a', q1, q2, q3, q4⟩ := R.mine j c h1 h2
  rw [h3] at q1
  cases q1
  refine ⟨by rw [List.length_map, g9], R.fh, fun b o h => ?_, fun i e k1 k2 => ?_, fun i d k1 => ?_, fun i k e1 e2 b k1 k2 k3 k4 _ _ => ?_, fun i b d k1 => ?_, ⟨fun b ps => ⟨othX_nt b ps, (R.tab.1 b ps).2⟩, R.tab.2⟩, R.tp⟩
  · obtain ⟨x1, x2, _⟩ := of_othX h
    exact ⟨x1, x2⟩
  · rcases g8 i e k1 with ⟨d, v, rfl, _, _⟩ | ⟨rfl, rfl⟩
    · cases k2
    · refine ⟨a, by rw [List.getElem?_map, g7]; rfl, q2, ?_, q4⟩
      unfold othX
      rw [if_pos rfl]
  · rcases g8 i _ k1 with ⟨d', v, e, x1, x2⟩ | ⟨_, e⟩
    · cases e
      exact ⟨v, by rw [List.getElem?_map, x1]; rfl, x2⟩
    · cases e
  · rcases g8 i e1 k1 with ⟨_, _, rfl, _, _⟩ | ⟨r1, _⟩
    · cases k2
    · rcases g8 k e2 k3 with ⟨_, _, rfl, _, _⟩ | ⟨r2, _⟩
      · cases k4
      · rw [r1, r2]
  · rcases g8 i _ k1 with ⟨_, _, e, _, _⟩ | ⟨r1, e⟩
    · cases e
    · cases e
      rw [r1, List.getElem?_map, g7]
      rfl
theorem Rep.backX (R : Rep K cs Z F H σ ρ) (A : ArgX K F σ ρ j ms vs ds) (h1 : ρ[j]? = some (some c)) (h2 : c.mine = true) (h3 : σ[j]? = some (some (.ref a))) (e : Ext F F') (R' : Rep K cs (othX a F H) F' H' (vs.map some) (outNv ms vs [d'])) :
    Rep K cs Z F' H' σ (ρ.set j (some (c.put d'))) := by
  obtain ⟨pos, c0, a0, g1, g2, g3, g4, g5, g6, g7, g8, g9, g10⟩ := A.look
  rw [h1] at g1
  cases g1
  rw [h3] at g3
  cases g3
  obtain ⟨a', q1, q2, q3, q4⟩ := R.mine j c h1 h2
  rw [h3] at q1
  cases q1
  obtain ⟨b', p1, p2, p3, p4⟩ := R'.mine pos _ (g10 d') rfl
  rw [List.getElem?_map, g7] at p1
  cases p1
  have hl : j < ρ.length := (List.getElem?_eq_some_iff.mp h1).1
  have hset : ∀ {i : Nat} {e : Cell}, (ρ.set j (some (c.put d')))[i]? = some (some e) → (i = j ∧ e = c.put d') ∨ (i ≠ j ∧ ρ[i]? = some (some e)) := fun {i e} h => by
    by_cases hj : i = j
    · subst hj
      rw [List.getElem?_set_self hl] at h
      cases h
      exact .inl ⟨rfl, rfl⟩
    · rw [List.getElem?_set_ne (Ne.symm hj)] at h
      exact .inr ⟨hj, h⟩
  refine ⟨by rw [List.length_set]; exact R.len, R'.fh, fun b o h => ?_, fun i e1 k1 k2 => ?_, fun i d k1 => ?_, fun i k c1 c2 b k1 k2 k3 k4 k5 k6 => ?_, fun i b e1 k1 => ?_, ⟨fun b ps => ⟨(R.tab.1 b ps).1, (R'.tab.1 b ps).2⟩, R'.tab.2⟩, R'.tp⟩
  · obtain ⟨x1, x2⟩ := R.zh b o h
    exact R'.zh b o (othX_of (ne_of_none h q3) x2 x1 (R.znt h))
  · rcases hset k1 with ⟨rfl, rfl⟩ | ⟨hj, k⟩
    · exact ⟨a, h3, p2, q3, by rw [Cell.put_got]; exact p4⟩
    · obtain ⟨b, x1, x2, x3, x4⟩ := R.mine i e1 k k2
      have hne : b ≠ a := fun z => hj (R.inj i j e1 c a k k2 h1 h2 (by rw [← z]; exact x1) h3)
      obtain ⟨ob, x5, _⟩ := x4.rp
      obtain ⟨x6, x7⟩ := R'.zh b ob (othX_of hne x2 x5 (x4.pl x5).1)
      exact ⟨b, x1, x7, x3, x4.ext e (by rw [x6, x5])⟩
  · rcases hset k1 with ⟨rfl, e2⟩ | ⟨hj, k⟩
    · cases c with
      | sh _ => cases h2
      | ow _ => cases e2
      | io _ _ => cases e2
    · obtain ⟨v, x1, x2⟩ := R.sh i d k
      exact ⟨v, x1, x2.ext e⟩
  · have f1 : ∃ c1', ρ[i]? = some (some c1') ∧ c1'.mine = true := by
      rcases hset k1 with ⟨rfl, rfl⟩ | ⟨_, g⟩
      · exact ⟨c, h1, h2⟩
      · exact ⟨c1, g, k2⟩
    have f2 : ∃ c2', ρ[k]? = some (some c2') ∧ c2'.mine = true := by
      rcases hset k3 with ⟨rfl, rfl⟩ | ⟨_, g⟩
      · exact ⟨c, h1, h2⟩
      · exact ⟨c2, g, k4⟩
    obtain ⟨d1, x1, y1⟩ := f1
    obtain ⟨d2, x2, y2⟩ := f2
    exact R.inj i k d1 d2 b x1 y1 x2 y2 k5 k6
  · rcases hset k1 with ⟨rfl, e2⟩ | ⟨hj, k⟩
    · cases c with
      | sh _ => cases h2
      | ow _ => cases e2
      | io _ _ =>
        cases e2
        exact R.io i _ _ h1
    · exact R.io i b e1 k
end

/-! ### expressions that change what slot j names -/
def tX (K : PySem.W.Frag) (cs : List Tb) (f : Nv → Option (D × Nv)) : TE := fun σ H Q => ∃ Z F ρ d ρ', Rep K cs Z F H σ ρ ∧ f ρ = some (d, ρ') ∧ ∀ v F' H', Ext F F' → Rep K cs Z F' H' σ ρ' → Rp K F' v d → Q v H'
def tXT (K : PySem.W.Frag) (cs : List Tb) (f : Nv → Option (Bool × Nv)) : TT := fun σ H Q => ∃ Z F ρ b ρ', Rep K cs Z F H σ ρ ∧ f ρ = some (b, ρ') ∧ ∀ F' H', Ext F F' → Rep K cs Z F' H' σ ρ' → Q b H'
def tAX (K : PySem.W.Frag) (cs : List Tb) (ms : List Md) (j : Nat) (f : Nv → Option (List D)) : TA := fun σ H Q => ∃ Z F ρ ds, Rep K cs Z F H σ ρ ∧ f ρ = some ds ∧ ∀ vs F' H', Ext F F' → Rep K cs Z F' H' σ ρ → ArgX K F' σ ρ j ms vs ds → Q vs H'
section
variable (cs : List Tb) (X : Cx)
structure EX (e : Expr) (f : Nv → Option (D × Nv)) : Prop where
  h : PE X e (tX X.K cs f)
structure EXT (e : Expr) (f : Nv → Option (Bool × Nv)) : Prop where
  h : PT X e (tXT X.K cs f)
structure EXW (e : Expr) (f : Nv → Option (Bool × Nv)) : Prop where
  h : PW X e (tXT X.K cs f)
structure EXs (ms : List Md) (j : Nat) (es : List Expr) (f : Nv → Option (List D)) : Prop where
  h : PA X es (tAX X.K cs ms j f)
end
def nmM (j : Nat) : Nv → Option D := fun ρ => match ρ[j]? with
  | some (some c) => if c.mine = true then some c.got else none
  | _ => none
theorem nmM_some {j : Nat} {ρ : Nv} {d : D} (h : nmM j ρ = some d) : ∃ c, ρ[j]? = some (some c) ∧ c.mine = true ∧ c.got = d := by
  unfold nmM at h
  split at h
  · rename_i c hc
    split at h
    · rename_i hm
      cases h
      exact ⟨c, hc, hm, rfl⟩
    · cases h
  · cases h
section
variable {cs : List Tb} {X : Cx} {E : XK} {e a b : Expr} {es rest : List Expr} {x : Str} {p pos : Pos} {ms : List Md} {j : Nat} {fa : Nv → Option D} {fr : Nv → Option (List D)} {gx : Nv → Option (Bool × Nv)} {fx : Nv → Option (D × Nv)} {ga : Nv → Option Bool} {g g' : Nv → Option SR}
theorem eps_len {K : PySem.W.Frag} {F : Hp} {vs : List V} {ds : List D} (h : Rps K F vs ds) : vs.length = ds.length := h.len
theorem x_io (h : PE X (.Name x p) (tVar j)) (hr : EPs cs X es fr) (hro : ∀ m ∈ ms, m = .ro) (n : Nat) (hn : ms.length = n) (hs : starEach (.Name x p :: es) X.env = (false, eval (.Name x p) X.env) :: starEach es X.env := by rfl) :
    EXs cs X (.io :: ms) j (.Name x p :: es) (fun ρ => (nmM j ρ).bind fun d => (fr ρ).bind fun ds => if ds.length = n then some (d :: ds) else none) := ⟨pa_imp (pa_cons h hr.h hs) fun σ H Q ⟨Z, F, ρ, ds, R, ef, q⟩ => by
  obtain ⟨d, e1, e2⟩ := Option.bind_eq_some_iff.mp ef
  obtain ⟨ds', e3, e4⟩ := Option.bind_eq_some_iff.mp e2
  split at e4
  · rename_i hl
    cases e4
    obtain ⟨c, hc, hm, rfl⟩ := nmM_some e1
    obtain ⟨a, h1, _⟩ := R.mine j c hc hm
    exact ⟨.ref a, h1, Z, F, ρ, ds', R, e3, fun vs F1 H1 x1 R1 r1 => q _ F1 H1 x1 R1 (.io hc hm h1 hro (by rw [hn, hl]) r1)⟩
  · cases e4⟩
theorem x_ro (ha : EP' cs X e fa) (hr : EXs cs X ms j es fr) (hs : starEach (e :: es) X.env = (false, eval e X.env) :: starEach es X.env := by rfl) : EXs cs X (.ro :: ms) j (e :: es) (cons2 fa fr) := ⟨pa_imp (pa_cons ha.h hr.h hs) fun σ H Q ⟨Z, F, ρ, ds, R, ef, q⟩ => by
  obtain ⟨d, e1, e2⟩ := Option.bind_eq_some_iff.mp ef
  obtain ⟨ds', e3, rfl⟩ := Option.map_eq_some_iff.mp e2
  exact ⟨Z, F, ρ, d, R, e1, fun v F1 H1 x1 R1 r1 => ⟨Z, F1, ρ, ds', R1, e3, fun vs F2 H2 x2 R2 A => q _ F2 H2 (x1.trans x2) R2 (.ro (r1.ext x2) A)⟩⟩⟩
def callX (n j : Nat) (sem : List D → Option Ou) (fr : Nv → Option (List D)) : Nv → Option (D × Nv) := fun ρ => (fr ρ).bind fun ds => if ds.length = n then match sem ds, ρ[j]? with
  | some (.ret d false [d']), some (some c) => if c.mine = true then some (d, ρ.set j (some (c.put d'))) else none
  | _, _ => none
  else none
theorem x_call {P : Program} {w : World} {K : PySem.W.Frag} {mg : Str → Option Value} {base : Heap} {k l : Nat} {ps : List Str} {sem : List D → Option Ou} (C : Cal P w K mg base cs x k ps ms sem) (hX : AtX X P w K mg base) (hr : Room l X.A) (hj : k ≤ l) (hg : Gl X x) (ha : EXs cs X ms j (e :: es) fr)
    (hdb : (x == ("__debug__" : Str)) = false := by decide) (he : starEach (e :: es) X.env = (false, eval e X.env) :: starEach es X.env := by rfl) (hpl : (backTo pos (starEach es X.env)).any (·.1) = false := by rfl) :
    EX cs X (.Call (.Name x p) (e :: es) [] pos) (callX ms.length j sem fr) := by
  obtain ⟨rfl, rfl, rfl, rfl, rfl⟩ := hX
  obtain ⟨f, fd, h1, h2, h3, h4⟩ := C.ex
  refine ⟨pe_imp (pe_call h1 (hr.mono hj) hg h2 h3 h4 .nil (pass0 (X := X)) ha.h hdb he hpl) fun σ H Q ⟨Z, F0, ρ, d, ρ', R, ef, q⟩ => ?_⟩
  obtain ⟨ds, e1, e2⟩ := Option.bind_eq_some_iff.mp ef
  split at e2
  · rename_i hl
    refine ⟨Z, F0, ρ, ds, R, e1, fun vs F1 H1 x1 R1 A => ?_⟩
    split at e2
    · rename_i d0 d' c es hc
      split at e2
      · rename_i hm
        cases e2
        rw [List.append_nil]
        obtain ⟨pos, c0, a0, g1, g2, g3, g4, g5, g6, g7, g8, g9, g10⟩ := A.look
        rw [hc] at g1
        cases g1
        refine ⟨othX a0 F1 H1, F1, ds, _, g4, g5, g6, R1.lendX A hc hm g3, es, fun v F2 H2 x2 R2 res => ?_⟩
        unfold ResV at res
        rw [if_neg Bool.false_ne_true] at res
        exact q v F2 H2 (x1.trans x2) (R1.backX A hc hm g3 x2 R2) res
      · cases e2
    · cases e2
  · cases e2
theorem xt_val (h : EX cs X e fx) (he : ∀ whole, isTrue e X.env whole = (do let v ← whole; standAt e.pos; holding [v] (truthy v)) := by intro _; rfl) : EXT cs X e (fun ρ => (fx ρ).bind fun r => (truD r.1).map fun k => (k, r.2)) := ⟨pt_imp (pt_truth h.h he) fun σ H Q ⟨Z, F, ρ, k, ρ', R, ef, q⟩ => by
  obtain ⟨⟨d, ρ1⟩, e1, e2⟩ := Option.bind_eq_some_iff.mp ef
  obtain ⟨k', e3, e4⟩ := Option.map_eq_some_iff.mp e2
  cases e4
  exact ⟨Z, F, ρ, d, _, R, e1, fun v F' H' e' R' w => ⟨_, tru_of R' (.inl w) e3, q F' H' e' R'⟩⟩⟩
theorem xw_and1 (h : EXT cs X a gx) : EXW cs X (.BoolOp .And [a] pos) gx := ⟨pw_and1 h.h⟩
def andX (ga : Nv → Option Bool) (gx : Nv → Option (Bool × Nv)) : Nv → Option (Bool × Nv) := fun ρ => (ga ρ).bind fun k => if k = true then gx ρ else some (false, ρ)
theorem xw_and (ha : ET cs X a ga) (hb : EXW cs X (.BoolOp .And (b :: rest) pos) gx) : EXW cs X (.BoolOp .And (a :: b :: rest) pos) (andX ga gx) := ⟨pw_imp (pw_and ha.h hb.h) fun σ H Q ⟨Z, F, ρ, d, ρ', R, ef, q⟩ => by
  unfold andX at ef
  obtain ⟨k, ek, ef⟩ := Option.bind_eq_some_iff.mp ef
  refine ⟨Z, F, ρ, k, R, ek, fun F1 H1 e1 R1 => ?_⟩
  by_cases hk : k = true
  · rw [if_pos hk] at ef ⊢
    exact ⟨Z, F1, ρ, d, ρ', R1, ef, fun F2 H2 e2 R2 => q F2 H2 (e1.trans e2) R2⟩
  · rw [if_neg hk] at ef ⊢
    cases ef
    exact q F1 H1 e1 R1⟩
theorem xt_pw (h : EXW cs X a gx) : EXT cs X a gx := ⟨h.h.pt⟩
def ifX (gx : Nv → Option (Bool × Nv)) (g g' : Nv → Option SR) : Nv → Option SR := fun ρ => (gx ρ).bind fun r => if r.1 = true then g r.2 else g' r.2
theorem sd_ifX {sa sb : List Stmt} {c : Expr} (hc : EXT cs X c gx) (ha : SDs cs X E sa g) (hb : SDs cs X E sb g') : SD cs X E (.If c sa sb pos) (ifX gx g g') := ⟨ps_imp (ps_if hc.h ha.h hb.h) fun D σ H ⟨Z, F, ρ, r, R, ef, w⟩ => by
  obtain ⟨⟨k, ρ1⟩, e1, e2⟩ := Option.bind_eq_some_iff.mp ef
  refine ⟨Z, F, ρ, k, ρ1, R, e1, fun F1 H1 x1 R1 => ?_⟩
  by_cases hk : k = true
  · have e2' : g ρ1 = some r := by simpa [hk] using e2
    show if k = true then _ else _
    rw [if_pos hk]
    exact ⟨Z, F1, ρ1, r, R1, e2', w.ext x1⟩
  · have e2' : g' ρ1 = some r := by simpa [hk] using e2
    show if k = true then _ else _
    rw [if_neg hk]
    exact ⟨Z, F1, ρ1, r, R1, e2', w.ext x1⟩⟩
theorem sd_exprX (h : EX cs X e fx) (hs : swapsWith e none pos.line X.env = pure false := by rfl) : SD cs X E (.Expr e pos) (fun ρ => (fx ρ).map fun r => .nx r.2) := ⟨ps_imp (ps_expr h.h hs) fun D σ H ⟨Z, F, ρ, r, R, ef, w⟩ => by
  obtain ⟨⟨d, ρ1⟩, e1, rfl⟩ := Option.map_eq_some_iff.mp ef
  exact ⟨Z, F, ρ, d, ρ1, R, e1, fun v F1 H1 x1 R1 _ => w σ F1 H1 rfl x1 R1⟩⟩
def setX (i : Nat) (fx : Nv → Option (D × Nv)) : Nv → Option SR := fun ρ => (fx ρ).map fun r => .nx (r.2.set i (some (.sh r.1)))
theorem sd_setX {i : Nat} {y : Str} {pos' : Pos} (hN : X.N.Nodup) (hi : X.N[i]? = some y) (hx : Loc X.env.scope y) (h : EX cs X e fx) (hs : swapsWith e (some (.Name y pos')) pos.line X.env = pure false := by rfl) (hf : X.fn y = true ∨ X.env.scope.names.lookup y = some .local := by first | exact .inl rfl | exact .inr rfl | assumption) :
    SD cs X E (.Assign [.Name y pos'] e pos) (setX i fx) := ⟨ps_imp (ps_set hN hi hx h.h hs hf) fun D σ H ⟨Z, F, ρ, r, R, ef, w⟩ => by
  obtain ⟨⟨d, ρ1⟩, e1, rfl⟩ := Option.map_eq_some_iff.mp ef
  exact ⟨Z, F, ρ, d, ρ1, R, e1, fun v F1 H1 x1 R1 r1 => w _ F1 H1 (by rw [List.length_set]) x1 (R1.setSh i r1)⟩⟩
end

theorem callF_is {k : Nat} {sem : List D → Option Ou} {fr : Nv → Option (List D)} {ρ : Nv} {ds os : List D} {d : D} (h : fr ρ = some ds) (hk : ds.length = k) (e : sem ds = some (.ret d false os)) (hs : scal d = true) : callF k sem fr ρ = some d := by
  unfold callF
  rw [h]
  show (if _ then _ else _) = _
  rw [if_pos hk, e]
  show (if _ then _ else _) = _
  rw [if_pos hs]
theorem callX_is {k j : Nat} {sem : List D → Option Ou} {fr : Nv → Option (List D)} {ρ : Nv} {ds : List D} {d d' : D} {c : Cell} (h : fr ρ = some ds) (hk : ds.length = k) (e : sem ds = some (.ret d false [d'])) (hc : ρ[j]? = some (some c)) (hm : c.mine = true) : callX k j sem fr ρ = some (d, ρ.set j (some (c.put d'))) := by
  unfold callX
  rw [h]
  show (if _ then _ else _) = _
  rw [if_pos hk, e, hc]
  show (if _ then _ else _) = _
  rw [if_pos hm]

/-! ### what a def comes to, whatever its addresses -/
noncomputable def semM (ms : List Md) (n : Nat) (g : Nv → Option SR) : List D → Option Ou := fun ds => if h : ∃ o, ds.length = ms.length ∧ ∀ vs, vs.length = ms.length → ioOk ms vs = true → runD ms n g vs ds = some o then some (Classical.choose h) else none
theorem comes_m {ms : List Md} {n : Nat} {g : Nv → Option SR} : Comes ms n g (semM ms n g) := fun vs ds o hv hd hio hs => by
  unfold semM at hs
  split at hs
  · rename_i h
    cases hs
    exact (Classical.choose_spec h).2 vs hv hio
  · cases hs
def canon : List Md → List V
  | [] => []
  | .io :: ms => .ref 0 :: canon ms
  | .ro :: ms => .non :: canon ms
  | .mv :: ms => .non :: canon ms
theorem canon_ok : ∀ ms : List Md, (canon ms).length = ms.length ∧ ioOk ms (canon ms) = true
  | [] => ⟨rfl, rfl⟩
  | .io :: ms => ⟨by rw [canon, List.length_cons, (canon_ok ms).1, List.length_cons], (canon_ok ms).2⟩
  | .ro :: ms => ⟨by rw [canon, List.length_cons, (canon_ok ms).1, List.length_cons], (canon_ok ms).2⟩
  | .mv :: ms => ⟨by rw [canon, List.length_cons, (canon_ok ms).1, List.length_cons], (canon_ok ms).2⟩
theorem semM_is {ms : List Md} {n : Nat} {g : Nv → Option SR} {ds : List D} {o : Ou} (hd : ds.length = ms.length) (h : ∀ vs, vs.length = ms.length → ioOk ms vs = true → runD ms n g vs ds = some o) : semM ms n g ds = some o := by
  have hx : ∃ o, ds.length = ms.length ∧ ∀ vs, vs.length = ms.length → ioOk ms vs = true → runD ms n g vs ds = some o := ⟨o, hd, h⟩
  unfold semM
  rw [dif_pos hx]
  obtain ⟨c1, c2⟩ := canon_ok ms
  have a1 := (Classical.choose_spec hx).2 _ c1 c2
  rw [h _ c1 c2] at a1
  exact a1.symm
end DS

namespace DS
open PySem L2

/-! ## for k, v in d.items(): the dict is locked meanwhile -/
structure Sim (F G : Hp) : Prop where
  lst : ∀ b xs, Rd F b (.lst xs) → Rd G b (.lst xs)
  tup : ∀ b xs, F b = some (.tup xs) → G b = some (.tup xs)
  dK : ∀ b kvs, Rd F b (.dK kvs) → Rd G b (.dK kvs)
  dT : ∀ b kvs, F b = some (.dT kvs) → G b = some (.dT kvs)
section
variable {K : PySem.W.Frag} {cs : List Tb} {Z F G H H' : Hp} {σ : L2.St} {ρ : Nv} {a : Addr} {o : Obj} {kvs : List (Key × V)}
mutual
theorem Rp.sim (e : Sim F G) : ∀ {v : V} {d : D}, Rp K F v d → Rp K G v d
  | _, _, .non => .non
  | _, _, .bl b => .bl b
  | _, _, .int i => .int i
  | _, _, .str x => .str x
  | _, _, .lst s r => .lst (s.imp (e.lst _ _) id) (Rps.sim e r)
  | _, _, .tup s r => .tup (e.tup _ _ s) (Rps.sim e r)
  | _, _, .dK r f => .dK (e.dK _ _ r) f
  | _, _, .dT r f n => .dT (e.dT _ _ r) (Ents.sim e f) n
theorem Rps.sim (e : Sim F G) : ∀ {vs : List V} {ds : List D}, Rps K F vs ds → Rps K G vs ds
  | _, _, .nil => .nil
  | _, _, .cons a b => .cons (Rp.sim e a) (Rps.sim e b)
theorem Ents.sim (e : Sim F G) : ∀ {kvs : List (List Key × V)} {es : List (D × D)}, Ents K F kvs es → Ents K G kvs es
  | _, _, .nil => .nil
  | _, _, .cons a b => .cons (Rp.sim e a) (Ents.sim e b)
end
theorem rd_lock {u : HO} (hF : F a = some (.dK kvs)) {b : Addr} (h : Rd F b u) (hu : ∀ o' u', u ≠ .frz o' u') : Rd (upd F a (.frz o (.dK kvs))) b u := by
  by_cases hb : b = a
  · subst hb
    rcases h with h | ⟨o', h⟩
    · rw [hF] at h
      cases h
      exact .inr ⟨o, upd_same⟩
    · rw [hF] at h
      cases h
  · rcases h with h | ⟨o', h⟩
    · exact .inl (by rw [upd_ne hb]; exact h)
    · exact .inr ⟨o', by rw [upd_ne hb]; exact h⟩
theorem rd_free {u : HO} (hF : F a = some (.frz o (.dK kvs))) {b : Addr} (h : Rd F b u) (hu : ∀ o' u', u ≠ .frz o' u') : Rd (upd F a (.dK kvs)) b u := by
  by_cases hb : b = a
  · subst hb
    rcases h with h | ⟨o', h⟩
    · rw [hF] at h
      cases h
      exact (hu _ _ rfl).elim
    · rw [hF] at h
      cases h
      exact .inl upd_same
  · rcases h with h | ⟨o', h⟩
    · exact .inl (by rw [upd_ne hb]; exact h)
    · exact .inr ⟨o', by rw [upd_ne hb]; exact h⟩
theorem sim_lock (hF : F a = some (.dK kvs)) : Sim F (upd F a (.frz o (.dK kvs))) :=
  ⟨fun _ _ h => rd_lock hF h fun _ _ z => (by cases z), fun b xs h => by rw [upd_ne (fun z => by rw [z, hF] at h; cases h)]; exact h, fun _ _ h => rd_lock hF h fun _ _ z => (by cases z), fun b ks h => by
    have hb : b ≠ a := fun z => by
      subst z
      rw [hF] at h
      cases h
    rw [upd_ne hb]
    exact h⟩
theorem sim_free (hF : F a = some (.frz o (.dK kvs))) : Sim F (upd F a (.dK kvs)) :=
  ⟨fun _ _ h => rd_free hF h fun _ _ z => (by cases z), fun b xs h => by rw [upd_ne (fun z => by rw [z, hF] at h; cases h)]; exact h, fun _ _ h => rd_free hF h fun _ _ z => (by cases z), fun b ks h => by
    have hb : b ≠ a := fun z => by
      subst z
      rw [hF] at h
      cases h
    rw [upd_ne hb]
    exact h⟩
theorem Own.sim {b : Addr} (e : Sim F G) (h : H' b = H b) : ∀ {d : D}, Own K F H b d → Own K G H' b d
  | .list ds, ⟨xs, h1, h2⟩ => ⟨xs, by rw [h]; exact h1, h2.sim e⟩
  | .dict es, .inl ⟨kvs, h1, h2⟩ => .inl ⟨kvs, by rw [h]; exact h1, h2⟩
  | .dict es, .inr ⟨kvs, h1, h2, h3⟩ => .inr ⟨kvs, by rw [h]; exact h1, h2.sim e, h3⟩
/-- a shared object told otherwise -/
theorem Rep.told {u w : HO} (R : Rep K cs Z F H σ ρ) (hF : F a = some u) (hx : ∀ φ, u ≠ .ext φ) (e : Sim F (upd F a w)) (nt : ∀ ps, w ≠ .tbl ps := by intro _ z; cases z) : Rep K cs Z (upd F a w) (upd H a w) σ ρ := by
  refine ⟨R.len, fun b x h => ?_, fun b x h => ?_, fun i c h1 h2 => ?_, fun i d h1 => ?_, R.inj, R.io, ⟨fun b ps => ⟨(R.tab.1 b ps).1, nt_upd (fun a ps => (R.tab.1 a ps).2) nt b ps⟩, fun t ht => ?_⟩, R.tp.new⟩
  · by_cases hb : b = a
    · subst hb
      rw [upd_same] at h ⊢
      exact h
    · rw [upd_ne hb] at h ⊢
      exact R.fh b x h
  · obtain ⟨q1, q2⟩ := R.zh b x h
    have hb : b ≠ a := fun z => by
      subst z
      rw [hF] at q2
      cases q2
    rw [upd_ne hb, upd_ne hb]
    exact ⟨q1, q2⟩
  · obtain ⟨b, q1, q2, q3, q4⟩ := R.mine i c h1 h2
    have hb : b ≠ a := fun z => by
      subst z
      rw [hF] at q2
      cases q2
    exact ⟨b, q1, by rw [upd_ne hb]; exact q2, q3, q4.sim e (upd_ne hb)⟩
  · obtain ⟨v, q1, q2⟩ := R.sh i d h1
    exact ⟨v, q1, q2.sim e⟩
  · have hH := R.fh _ _ hF
    refine (R.tab.2 t ht).to (fun q => ?_) (fun ps e1 e2 => ?_) fun c φ q => ?_
    · rw [upd_ne (fun z => by rw [z, hF] at q; exact hx _ (Option.some.inj q))]
      exact q
    · have hb : t.1 ≠ a := fun z => by rw [z, hF] at e2; cases e2
      rw [upd_ne hb, upd_ne hb]
      exact ⟨e1, e2⟩
    · rw [upd_ne (fun z => by rw [z, hH] at q; exact hx _ (Option.some.inj q))]
      exact q
end
def itemsD (kvs : List (Key × V)) : List D := kvs.map fun p => .tuple [kD p.1, sD p.2]
theorem src_items {K : PySem.W.Frag} {cs : List Tb} {a : Addr} {o : Obj} {kvs : List (Key × V)} (hf : (kvs.all fun p => flat p.2) = true) : Src K cs (fun F _ _ => F a = some (.frz o (.dK kvs))) (Iti a o kvs) (itemsD kvs) := by
  refine ⟨fun F F' σ ρ x p => x _ _ p, fun Z F H σ ρ i x R p hi => ?_, fun Z F H σ ρ i R p hi => ?_⟩
  · unfold itemsD at hi
    rw [List.getElem?_map] at hi
    obtain ⟨q, h1, rfl⟩ := Option.map_eq_some_iff.mp hi
    obtain ⟨h2, _⟩ := List.getElem?_eq_some_iff.mp h1
    refine ⟨⟨R.fh _ _ p, h2⟩, fun y H' ⟨T, k, v, e1, e2, e3, e4⟩ => ?_⟩
    rw [h1] at e1
    cases e1
    subst e2 e4
    obtain ⟨R3, x3, _⟩ := R.new (o := .tup [kV k, v]) e3
    have fv : flat v = true := List.all_eq_true.mp hf (k, v) (List.mem_of_getElem? h1)
    exact ⟨_, x3, R3, .tup upd_same (.cons (rp_key k) (.cons (rp_flat fv) .nil))⟩
  · unfold itemsD at hi
    rw [List.length_map] at hi
    exact ⟨R.fh _ _ p, hi⟩
section
variable {cs : List Tb} {X : Cx} {E : XK} {tg e : Expr} {body : List Stmt} {pos : Pos} {a : D → Nv → Option Nv} {g : Nv → Option SR}
/-- the turns of a loop over what comes one by one -/
theorem for_core {K : PySem.W.Frag} {Z F H : Hp} {σ : L2.St} {ρ : Nv} {r : SR} {ds : List D} {J : It} {P : Hp → L2.St → Nv → Prop} {D : Ends} (R : Rep K cs Z F H σ ρ) (p1 : P F σ ρ) (hP : AnyP P) (S : Src K cs P J ds) (e2 : forS a g ds ρ = some r) (w : Wish K cs E Z F σ.length D r) :
    ∃ W : Nat → Nat → St → Hp → Prop, (∃ m, W 0 m σ H) ∧ ∀ i m σ H, W i m σ H →
      (J.stop i H ∧ D.nx σ H) ∨ (J.go i H ∧ ∃ N : St → Hp → Prop, (∀ σ' H', N σ' H' → ∃ m', m' < m ∧ W (i + 1) m' σ' H') ∧ ∀ x H', J.yld i H x H' → tG K cs a x σ H' fun σ2 H2 => tS K cs E g { D with nx := N, ct := N, bk := D.nx } σ2 H2) := by
  refine ⟨fun i m σ2 H2 => i + m = ds.length ∧ ∃ F2 ρ2, Ext F F2 ∧ σ2.length = σ.length ∧ Rep K cs Z F2 H2 σ2 ρ2 ∧ P F2 σ2 ρ2 ∧ forS a g (ds.drop i) ρ2 = some r, ⟨ds.length, by omega, F, ρ, Ext.refl F, rfl, R, p1, by rw [List.drop_zero]; exact e2⟩, ?_⟩
  rintro i m σ2 H2 ⟨hm, F2, ρ2, x2, l2, R2, p2, e3⟩
  by_cases hlt : i < ds.length
  · have hd : ds.drop i = ds[i] :: ds.drop (i + 1) := List.drop_eq_getElem_cons hlt
    rw [hd] at e3
    obtain ⟨ρ3, e4, e5⟩ := Option.bind_eq_some_iff.mp e3
    obtain ⟨r1, e6, e7⟩ := Option.bind_eq_some_iff.mp e5
    obtain ⟨hgo, hy⟩ := S.go Z F2 H2 σ2 ρ2 i ds[i] R2 p2 (List.getElem?_eq_getElem hlt)
    refine .inr ⟨hgo, fun σ3 H3 => ∃ m', m' < m ∧ (i + 1) + m' = ds.length ∧ ∃ F3 ρ3, Ext F F3 ∧ σ3.length = σ.length ∧ Rep K cs Z F3 H3 σ3 ρ3 ∧ P F3 σ3 ρ3 ∧ forS a g (ds.drop (i + 1)) ρ3 = some r, fun σ3 H3 h => h, fun y H3 hyl => ?_⟩
    obtain ⟨F3, x3, R3, r3⟩ := hy y H3 hyl
    refine ⟨Z, F3, ρ2, ds[i], ρ3, R3, r3, e4, fun σ4 F4 H4 l4 x4 R4 => ⟨Z, F4, ρ3, r1, R4, e6, ?_⟩⟩
    have x24 : Ext F F4 := (x2.trans x3).trans x4
    have l42 : σ4.length = σ.length := l4.trans l2
    have p4 : ∀ {F5 : Hp} {σ5 : L2.St} {ρ5 : Nv}, Ext F4 F5 → P F5 σ5 ρ5 := fun {F5 σ5 ρ5} x5 => hP _ _ _ _ _ (S.mono _ _ _ _ ((x3.trans x4).trans x5) p2)
    cases r1 with
    | nx ρ5 => exact fun σ5 F5 H5 l5 x5 R5 => ⟨m - 1, by omega, by omega, F5, ρ5, x24.trans x5, l5.trans l42, R5, p4 x5, e7⟩
    | ct ρ5 => exact fun σ5 F5 H5 l5 x5 R5 => ⟨m - 1, by omega, by omega, F5, ρ5, x24.trans x5, l5.trans l42, R5, p4 x5, e7⟩
    | bk ρ5 =>
      cases e7
      exact fun σ5 F5 H5 l5 x5 R5 => w σ5 F5 H5 (l5.trans l42) (x24.trans x5) R5
    | rt d o ρ5 =>
      cases e7
      exact fun v σ5 F5 H5 l5 x5 R5 => w v σ5 F5 H5 (l5.trans l42) (x24.trans x5) R5
    | exc c =>
      cases e7
      exact fun F5 H5 x5 R5 => w F5 H5 (x24.trans x5) R5
  · have hd : ds.drop i = [] := List.drop_of_length_le (by omega)
    rw [hd] at e3
    cases e3
    exact .inl ⟨S.stop Z F2 H2 σ2 ρ2 i R2 p2 (by omega), w σ2 F2 H2 l2 x2 R2⟩
theorem ps_or {st : Stmt} {t t' : TS} (h : PS X st t) (h' : PS X st t') : PS X st (fun D σ H => t D σ H ∨ t' D σ H) := ⟨fun pins s σ H D I q => q.elim (h.run pins s σ H D I) (h'.run pins s σ H D I)⟩
def noExc : SR → Option SR
  | .exc _ => none
  | r => some r
/-- for k, v in d.items(), d shared -/
def itemsS (j : Nat) (a : D → Nv → Option Nv) (g : Nv → Option SR) : Nv → Option SR := fun ρ => match ρ[j]? with
  | some (some (.sh (.dict es))) => (decK es).bind fun kvs => (forS a g (itemsD kvs) ρ).bind noExc
  | _ => none
theorem ResV.told {K : PySem.W.Frag} {Z F H : Hp} {σ : L2.St} {ρ : Nv} {v : V} {d : D} {own : Bool} {p : Addr} {u w : HO} (r : ResV K Z F H σ ρ v d own) (hF : F p = some u) (e : Sim F (upd F p w)) : ResV K Z (upd F p w) (upd H p w) σ ρ v d own := by
  unfold ResV at r ⊢
  split at r
  · rename_i ho
    rw [if_pos ho]
    obtain ⟨q, rfl, h1, h2, h3, h4⟩ := r
    have hb : q ≠ p := fun z => by
      subst z
      rw [hF] at h1
      cases h1
    exact ⟨q, rfl, by rw [upd_ne hb]; exact h1, h2, h3, h4.sim e (upd_ne hb)⟩
  · rename_i ho
    rw [if_neg ho]
    exact r.sim e
theorem sd_items {elts : List Expr} {kk j : Nat} {x : Str} {p tpos apos cpos : Pos} (hp : PassesOwn (model X.prog X.w) X.A X.env X.xe) (hc : X.calm = true) (he : PE X (.Name x p) (tVar j)) (hg : GD cs X (.Tuple elts kk tpos) a) (hb : SDs cs X E body g)
    (hbase : attributeBase (.Name x p) "items" X.env (eval (.Name x p) X.env) = eval (.Name x p) X.env := by rfl) (hline : (apos.endLine == cpos.line) = true := by rfl)
    (hs : ∀ y, foldedSetIterable (.Call (.Attribute (.Name x p) "items" apos) [] [] cpos) X.env y = pure y := by intro _; rfl) :
    SD cs X E (.For (.Tuple elts kk tpos) (.Call (.Attribute (.Name x p) "items" apos) [] [] cpos) body [] pos) (itemsS j a g) := by
  have base := ps_for (pos := pos) hp hc (pi_items (elts := elts) (kk := kk) (tpos := tpos) he hbase hline) hg.h hb.h hs
  refine ⟨ps_imp (ps_or (ps_lock base) base) fun D σ H ⟨Z, F, ρ, r, R, ef, w⟩ => ?_⟩
  unfold itemsS at ef
  split at ef
  · rename_i es hes
    obtain ⟨kvs, h1, h2⟩ := Option.bind_eq_some_iff.mp ef
    obtain ⟨r0, h3, h4⟩ := Option.bind_eq_some_iff.mp h2
    have hr : r0 = r ∧ ∀ c, r ≠ .exc c := by
      cases r0 <;> cases h4 <;> exact ⟨rfl, fun c z => by cases z⟩
    obtain ⟨rfl, hne⟩ := hr
    obtain ⟨v, s1, s2⟩ := R.sh j _ hes
    generalize hd : PyData.dict es = d0 at s2
    cases s2 with
    | @dK ad ks q f =>
      cases hd
      rw [decK_en f] at h1
      cases h1
      rcases q with q | ⟨o, q⟩
      · refine .inl ⟨ad, .dK kvs, R.fh _ _ q, trivial, fun od => ?_⟩
        have RL := R.told (w := .frz od (.dK kvs)) q (fun _ z => by cases z) (sim_lock q)
        refine ⟨.ref ad, s1, ad, od, kvs, rfl, upd_same, ?_⟩
        have fin : ∀ {σ' : L2.St} {F' H' : Hp} {ρ' : Nv}, Ext (upd F ad (.frz od (.dK kvs))) F' → Rep X.K cs Z F' H' σ' ρ' → F' ad = some (.frz od (.dK kvs)) ∧ H' ad = some (.frz od (.dK kvs)) ∧ Ext F (upd F' ad (.dK kvs)) ∧ Rep X.K cs Z (upd F' ad (.dK kvs)) (upd H' ad (.dK kvs)) σ' ρ' := fun {σ' F' H' ρ'} x' R' => by
          have g1 : F' ad = some (.frz od (.dK kvs)) := x' _ _ upd_same
          refine ⟨g1, R'.fh _ _ g1, fun b u hb => ?_, R'.told g1 (fun _ z => by cases z) (sim_free g1)⟩
          by_cases hba : b = ad
          · subst hba
            rw [q] at hb
            cases hb
            exact upd_same
          · rw [upd_ne hba]
            exact x' b u (by rw [upd_ne hba]; exact hb)
        refine for_core (P := fun F _ _ => F ad = some (.frz od (.dK kvs))) RL upd_same (fun _ _ _ _ _ h => h) (src_items f) h3 ?_
        cases r0 with
        | nx ρ' => exact fun σ' F' H' l' x' R' => let ⟨_, g2, g3, g4⟩ := fin x' R'; ⟨g2, w σ' _ _ l' g3 g4⟩
        | bk ρ' => exact fun σ' F' H' l' x' R' => let ⟨_, g2, g3, g4⟩ := fin x' R'; ⟨g2, w σ' _ _ l' g3 g4⟩
        | ct ρ' => exact fun σ' F' H' l' x' R' => let ⟨_, g2, g3, g4⟩ := fin x' R'; ⟨g2, w σ' _ _ l' g3 g4⟩
        | rt d o ρ' => exact fun v σ' F' H' l' x' R' res => let ⟨g1, g2, g3, g4⟩ := fin x' R'; ⟨g2, w v σ' _ _ l' g3 g4 (res.told g1 (sim_free g1))⟩
        | exc c => exact (hne c rfl).elim
      · refine .inr ⟨.ref ad, s1, ad, o, kvs, rfl, R.fh _ _ q, ?_⟩
        exact for_core (P := fun F _ _ => F ad = some (.frz o (.dK kvs))) R q (fun _ _ _ _ _ h => h) (src_items f) h3 w
    | dT q f n =>
      cases hd
      exact (n (decK_ents f h1)).elim
    | _ => cases hd
  · cases ef
end
end DS

namespace DS
open PySem L2 PyProof.Rows

/-! ## min(xs, default=d) of a list of ints -/
def minDD (x d : D) : Option D := match x with
  | .list xs => (intsD xs).map fun ns => match leastD ns with
    | none => d
    | some m => .int m
  | _ => none
theorem fold_min : ∀ (r : List Int) (i : Int), r.foldl min i = r.foldl (fun a b => if b < a then b else a) i
  | [], i => rfl
  | b :: r, i => by
    rw [List.foldl_cons, List.foldl_cons, fold_min r]
    congr 1
    show min i b = _
    rw [Int.min_def]
    split <;> split <;> omega
theorem depth_ints : ∀ ns : List Int, PyData.depthAll (ns.map PyData.int) = 0
  | [] => by rw [List.map_nil, PyData.depthAll]
  | n :: r => by
    rw [List.map_cons, PyData.depthAll, depth_ints r, PyData.depth]
    rfl
theorem reads_of_ints (h : Heap) : ∀ {vs : List Value} {ns : List Int}, IntsAre vs ns → ReadsAll h vs (ns.map PyData.int) []
  | _, _, .nil => .nil
  | _, _, .cons n t r => .cons (.int n t) (reads_of_ints h r)
section
variable {cs : List Tb} {X : Cx} {a d : Expr} {x : Str} {p pos kpos : Pos} {fa fd : Nv → Option D}
def rMinD (K : PySem.W.Frag) (cs : List Tb) : List V → List V → Hp → VK → Prop := fun vs zs H Q => ∃ Z F σ ρ v z d0 d1 d, vs = [v] ∧ zs = [z] ∧ Rep K cs Z F H σ ρ ∧ Vw K F σ ρ v d0 ∧ Rp K F z d1 ∧ minDD d0 d1 = some d ∧ ∀ w, Rp K F w d → Q w H
theorem ck_min (hc : X.calm = true) (hu : X.A.units + 65 < cLine) : CallRK X (.builtin "min") ["default"] (rMinD X.K cs) := by
  rintro pins s σ H xs zs us ws Q I r rz ⟨Z, F, σ', ρ, v, z, d0, d1, d, rfl, rfl, R, w, rd, e, q⟩
  unfold minDD at e
  split at e
  · rename_i ds
    obtain ⟨ns, e1, rfl⟩ := Option.map_eq_some_iff.mp e
    obtain ⟨ad, vs, rfl, s1, r1⟩ := R.lst w
    have hv := intsD_rps r1 e1
    subst hv
    obtain ⟨its, rv, hl, _⟩ := I.list s1
    obtain ⟨u, rfl, ru⟩ := r.one
    cases ru
    obtain ⟨dv, rfl, rdv⟩ := rz.one
    refine PySem.W.min_list_default (vs := its.toArray) (xs := ns.map .int) (I.ok.hd hc) hl.isList (reads_of_ints _ rv.ints) ⟨fun a ha b hb => ?_, fun a ha => ?_⟩ ?_ (fun h0 h' tk keep => ?_) fun y ys i v' h' tk bs hcons hi hrd keep => ?_
    · obtain ⟨i, _, rfl⟩ := List.mem_map.mp ha
      obtain ⟨j, _, rfl⟩ := List.mem_map.mp hb
      rfl
    · obtain ⟨i, _, rfl⟩ := List.mem_map.mp ha
      intro z
      cases z
    · rw [depth_ints]
      omega
    · cases ns with
      | nil => exact ⟨z, H, I.kept keep, rdv, q z rd⟩
      | cons _ _ => cases h0
    · cases ns with
      | nil => cases hcons
      | cons n r2 =>
        cases hcons
        rw [PySem.W.minD_ints, fold_min] at hrd
        cases hrd
        exact ⟨.int _, H, I.kept keep, ⟨_, rfl⟩, q _ (.int _)⟩
  · cases e
theorem e_minD (hc : X.calm = true) (hu : X.A.units + 65 < cLine) (hg : Gl X "min") (hm : X.mg "min" = none) (ha : EW cs X a fa) (hd : EP' cs X d fd)
    (hs : starEach [a] X.env = (false, eval a X.env) :: starEach [] X.env := by rfl) (hv : bootBuiltins "min" = some (.builtin "min") := by decide +kernel)
    (he : backTo pos (starEach [a] X.env) = (false, eval a X.env) :: backTo pos (starEach [] X.env) := by rfl) (hpl : (backTo pos (starEach [a] X.env)).any (·.1) = false := by rfl)
    (hall : (backToKw pos (keywordEach [⟨some "default", d, kpos⟩] X.env)).all (·.1.isSome) = true := by rfl) (hnone : (backToKw pos (keywordEach [⟨some "default", d, kpos⟩] X.env)).any (·.1.isNone) = false := by rfl)
    (hks : (backToKw pos (keywordEach [⟨some "default", d, kpos⟩] X.env)).filterMap (·.1) = [("default" : Str)] := by rfl) :
    EP' cs X (.Call (.Name "min" p) [a] [⟨some "default", d, kpos⟩] pos) (op2 minDD fa fd) := by
  refine ⟨pe_imp (pe_callBK (ck_min (cs := cs) hc hu) hg hm hv (pa_cons ha.h pa_nil hs) (pk_cons hd.h pk_nil) (by decide) (by decide) he hpl hall hnone hks) ?_⟩
  rintro σ H Q ⟨Z, F, ρ, r, R, ef, q⟩
  obtain ⟨y, ea, ef⟩ := Option.bind_eq_some_iff.mp ef
  obtain ⟨z, ed, ef⟩ := Option.bind_eq_some_iff.mp ef
  exact ⟨Z, F, ρ, y, R, ea, fun v F1 H1 x1 R1 w1 => ⟨Z, F1, ρ, z, R1, ed, fun u F2 H2 x2 R2 r2 => ⟨Z, F2, σ, ρ, v, u, y, z, r, rfl, rfl, R2, w1.ext x2, r2, ef, fun w r3 => q w F2 H2 (x1.trans x2) R2 r3⟩⟩⟩
end
end DS

namespace DS
open PySem L2

/-! ## dicts whose keys are tuples -/
def keysD : List D → Option (List Key)
  | [] => some []
  | d :: r => (keyD d).bind fun k => (keysD r).map (k :: ·)
theorem keysD_map : ∀ ks : List Key, keysD (ks.map kD) = some ks
  | [] => rfl
  | k :: r => by
    show (keyD (kD k)).bind _ = _
    rw [keyD_k]
    show (keysD (r.map kD)).map _ = _
    rw [keysD_map r]
    rfl
theorem keysD_rps {K : PySem.W.Frag} {F : Hp} : ∀ {vs : List V} {ds : List D} {ks : List Key}, Rps K F vs ds → keysD ds = some ks → vs = ks.map kV
  | [], [], ks, .nil, h => by cases h; rfl
  | v :: vs, d :: ds, ks, .cons a b, h => by
    obtain ⟨k, h1, h2⟩ := Option.bind_eq_some_iff.mp h
    obtain ⟨r, h3, rfl⟩ := Option.map_eq_some_iff.mp h2
    rw [keysD_rps b h3]
    have hd := keyD_some h1
    subst hd
    cases k with
    | inl i => cases a; rfl
    | inr x => cases a; rfl
def enTD (p : List Key × D) : D × D := (.tuple (p.1.map kD), p.2)
def decT : List (D × D) → Option (List (List Key × D))
  | [] => some []
  | (.tuple ds, b) :: r => (keysD ds).bind fun k => (decT r).map ((k, b) :: ·)
  | _ => none
theorem decT_en : ∀ kds : List (List Key × D), decT (kds.map enTD) = some kds
  | [] => rfl
  | (k, v) :: r => by
    show (keysD (k.map kD)).bind _ = _
    rw [keysD_map]
    show (decT (r.map enTD)).map _ = _
    rw [decT_en r]
    rfl
theorem decT_enK {kvs : List (Key × V)} {r : List (List Key × D)} (h : decT (kvs.map enK) = some r) : kvs = [] := by
  cases kvs with
  | nil => rfl
  | cons p q =>
    obtain ⟨k, v⟩ := p
    cases k with
    | inl i => cases h
    | inr x => cases h
def lookD (kds : List (List Key × D)) (k : List Key) : Option D := (kds.find? fun kv => decide (kv.1 = k)).map (·.2)
def putKD (kds : List (List Key × D)) (k : List Key) (d : D) : List (List Key × D) :=
  if (kds.any fun kv => decide (kv.1 = k)) = true then kds.map (fun kv => if kv.1 = k then (kv.1, d) else kv) else kds ++ [(k, d)]
abbrev PairE (K : PySem.W.Frag) (F : Hp) : List (List Key × V) → List (List Key × D) → Prop := Paired fun p q => p.1 = q.1 ∧ Rp K F p.2 q.2
theorem ents_dec {K : PySem.W.Frag} {F : Hp} {kvs : List (List Key × V)} {es : List (D × D)} (h : Ents K F kvs es) : ∃ kds, decT es = some kds ∧ es = kds.map enTD ∧ PairE K F kvs kds := by
  induction kvs generalizing es with
  | nil =>
    cases h
    exact ⟨[], rfl, rfl, .nil⟩
  | cons p r ih =>
    cases h with
    | cons a b =>
      obtain ⟨kds, h1, h2, h3⟩ := ih b
      rename_i k v d es
      refine ⟨(k, d) :: kds, ?_, by rw [h2]; rfl, .cons ⟨rfl, a⟩ h3⟩
      show (keysD (k.map kD)).bind _ = _
      rw [keysD_map]
      show (decT es).map _ = _
      rw [h1]
      rfl
theorem pair_ents {K : PySem.W.Frag} {F : Hp} : ∀ {kvs : List (List Key × V)} {kds : List (List Key × D)}, PairE K F kvs kds → Ents K F kvs (kds.map enTD)
  | _, _, .nil => .nil
  | _, _, .cons (a := (k, v)) (b := (k', d)) h t => by
    obtain ⟨rfl, r⟩ := h
    exact .cons r (pair_ents t)
theorem pair_look {K : PySem.W.Frag} {F : Hp} {k : List Key} : ∀ {kvs : List (List Key × V)} {kds : List (List Key × D)}, PairE K F kvs kds → (valV kvs k = none ∧ lookD kds k = none) ∨ ∃ v d, valV kvs k = some v ∧ lookD kds k = some d ∧ Rp K F v d
  | _, _, .nil => .inl ⟨rfl, rfl⟩
  | _, _, .cons (a := (k1, v)) (b := (k', d)) h t => by
    obtain ⟨rfl, r⟩ := h
    by_cases e : k1 = k
    · exact .inr ⟨v, d, by simp [valV, e], by simp [lookD, e], r⟩
    · rcases pair_look (k := k) t with ⟨h1, h2⟩ | ⟨v', d', h1, h2, h3⟩
      · exact .inl ⟨by rw [valV_neg e]; exact h1, by unfold lookD at h2 ⊢; rw [List.find?_cons_of_neg (by simpa using e)]; exact h2⟩
      · exact .inr ⟨v', d', by rw [valV_neg e]; exact h1, by unfold lookD at h2 ⊢; rw [List.find?_cons_of_neg (by simpa using e)]; exact h2, h3⟩
theorem pair_any {K : PySem.W.Frag} {F : Hp} {k : List Key} : ∀ {kvs : List (List Key × V)} {kds : List (List Key × D)}, PairE K F kvs kds → (kvs.any fun kv => decide (kv.1 = k)) = (kds.any fun kv => decide (kv.1 = k))
  | _, _, .nil => rfl
  | _, _, .cons (a := (k1, v)) (b := (k', d)) h t => by
    obtain ⟨rfl, r⟩ := h
    rw [List.any_cons, List.any_cons, pair_any t]
theorem pair_map {K : PySem.W.Frag} {F : Hp} {k : List Key} {v : V} {d : D} (r : Rp K F v d) : ∀ {kvs : List (List Key × V)} {kds : List (List Key × D)}, PairE K F kvs kds → PairE K F (kvs.map (fun kv => if kv.1 = k then (kv.1, v) else kv)) (kds.map (fun kv => if kv.1 = k then (kv.1, d) else kv))
  | _, _, .nil => .nil
  | _, _, .cons (a := (k1, v1)) (b := (k', d1)) h t => by
    obtain ⟨rfl, r1⟩ := h
    rw [List.map_cons, List.map_cons]
    by_cases e : k1 = k
    · simp only [e, if_true]
      exact .cons ⟨rfl, r⟩ (by simpa only [e] using pair_map r t)
    · simp only [e, if_false]
      exact .cons ⟨rfl, r1⟩ (pair_map r t)
theorem pair_app {K : PySem.W.Frag} {F : Hp} : ∀ {a b : List (List Key × V)} {c d : List (List Key × D)}, PairE K F a c → PairE K F b d → PairE K F (a ++ b) (c ++ d)
  | _, _, _, _, .nil, s => s
  | _, _, _, _, .cons h t, s => .cons h (pair_app t s)
theorem pair_put {K : PySem.W.Frag} {F : Hp} {k : List Key} {v : V} {d : D} (r : Rp K F v d) {kvs : List (List Key × V)} {kds : List (List Key × D)} (h : PairE K F kvs kds) : PairE K F (putK kvs k v) (putKD kds k d) := by
  unfold putK putKD
  rw [pair_any h]
  split
  · exact pair_map r h
  · exact pair_app h (.cons ⟨rfl, r⟩ .nil)
theorem pair_len {K : PySem.W.Frag} {F : Hp} {kvs : List (List Key × V)} {kds : List (List Key × D)} (h : PairE K F kvs kds) : kvs.length = kds.length := Paired.length h
theorem put_ne {κ : Type} [DecidableEq κ] (kvs : List (κ × V)) (k : κ) (v : V) : putK kvs k v ≠ [] := by
  unfold putK
  split
  · rename_i h
    intro z
    have := List.map_eq_nil_iff.mp z
    subst this
    cases h
  · simp
/-- a key tuple, written out: new, and known from now on -/
def tKT (K : PySem.W.Frag) (cs : List Tb) (f : Nv → Option (List Key)) : TE := fun σ H Q => ∃ Z F ρ ks, Rep K cs Z F H σ ρ ∧ f ρ = some ks ∧ ∀ p F' H', Ext F F' → Rep K cs Z F' H' σ ρ → F' p = some (.tup (ks.map kV)) → Q (.ref p) H'
section
variable (cs : List Tb) (X : Cx)
structure EKT (e : Expr) (f : Nv → Option (List Key)) : Prop where
  h : PE X e (tKT X.K cs f)
end
def keysV (fr : Nv → Option (List D)) : Nv → Option (List Key) := fun ρ => (fr ρ).bind fun ds => if ds.length ≤ 100000 then keysD ds else none
section
variable {cs : List Tb} {X : Cx} {E : XK} {a b e : Expr} {es : List Expr} {x : Str} {p pos pos' spos : Pos} {i : Nat} {fa fv : Nv → Option D} {fb : Nv → Option (List Key)} {fr : Nv → Option (List D)}
theorem e_keyT {k : Nat} (h : EPs cs X es fr) : EKT cs X (.Tuple es k pos) (keysV fr) := ⟨pe_imp (pe_tup h.h) fun σ H Q ⟨Z, F, ρ, ks, R, ef, q⟩ => by
  obtain ⟨ds, er, ef⟩ := Option.bind_eq_some_iff.mp ef
  split at ef
  · rename_i hl
    refine ⟨Z, F, ρ, ds, R, er, fun vs F1 H1 e1 R1 r1 => ⟨?_, fun p hp => ?_⟩⟩
    · rw [r1.len]
      exact Nat.le_trans hl (by decide)
    · have hv := keysD_rps r1 ef
      subst hv
      obtain ⟨R2, e2, _⟩ := R1.new (o := .tup (ks.map kV)) hp
      exact q p _ _ (e1.trans e2) R2 upd_same
  · cases ef⟩
/-- a tuple of plain things as a key -/
def tupK : D → Option (List Key)
  | .tuple ds => keysD ds
  | _ => none
theorem e_keyW {f : Nv → Option D} (h : EP' cs X e f) : EKT cs X e (fun ρ => (f ρ).bind tupK) := ⟨pe_imp h.h fun σ H Q ⟨Z, F, ρ, ks, R, ef, q⟩ => by
  obtain ⟨d, e1, e2⟩ := Option.bind_eq_some_iff.mp ef
  refine ⟨Z, F, ρ, d, R, e1, fun v F1 H1 x1 R1 r1 => ?_⟩
  unfold tupK at e2
  split at e2
  · cases r1 with
    | tup s t =>
      have hv := keysD_rps t e2
      subst hv
      exact q _ F1 H1 x1 R1 s
  · cases e2⟩
theorem Rep.dt {K : PySem.W.Frag} {Z F H : Hp} {σ : L2.St} {ρ : Nv} {v : V} {es : List (D × D)} {kds : List (List Key × D)} (R : Rep K cs Z F H σ ρ) (h : Vw K F σ ρ v (.dict es)) (e : decT es = some kds) :
    (kds = [] ∧ ∃ a, v = .ref a ∧ Rd H a (.dK [])) ∨ ∃ a kvs, v = .ref a ∧ H a = some (.dT kvs) ∧ PairE K H kvs kds := by
  have h' := R.all h
  cases h' with
  | dK r f =>
    have := decT_enK e
    subst this
    cases e
    exact .inl ⟨rfl, _, rfl, r⟩
  | dT r f n =>
    obtain ⟨kds', h1, h2, h3⟩ := ents_dec f
    rw [h1] at e
    cases e
    exact .inr ⟨_, _, rfl, r, h3⟩
/-- .. and its values, as the frame sees them -/
theorem Rep.dtv {K : PySem.W.Frag} {Z F H : Hp} {σ : L2.St} {ρ : Nv} {v : V} {es : List (D × D)} {kds : List (List Key × D)} {k : List Key} {d : D} (R : Rep K cs Z F H σ ρ) (h : Vw K F σ ρ v (.dict es)) (e : decT es = some kds) (hl : lookD kds k = some d) :
    ∃ a kvs x, v = .ref a ∧ H a = some (.dT kvs) ∧ valV kvs k = some x ∧ Rp K F x d := by
  have fin : ∀ {kvs : List (List Key × V)}, PairE K F kvs kds → ∃ x, valV kvs k = some x ∧ Rp K F x d := fun {kvs} p => by
    rcases pair_look (k := k) p with ⟨_, h2⟩ | ⟨x, d', h1, h2, h3⟩
    · rw [h2] at hl
      cases hl
    · rw [h2] at hl
      cases hl
      exact ⟨x, h1, h3⟩
  rcases h with h | ⟨i, c, h1, h2, h3, h4⟩
  · cases h with
    | dK r f =>
      have := decT_enK e
      subst this
      cases e
      cases hl
    | dT r f n =>
      obtain ⟨kds', g1, g2, g3⟩ := ents_dec f
      rw [g1] at e
      cases e
      obtain ⟨x, y1, y2⟩ := fin g3
      exact ⟨_, _, x, rfl, R.fh _ _ r, y1, y2⟩
  · obtain ⟨a, q1, _, _, ow⟩ := R.mine i c h1 h2
    rw [h4] at q1
    cases q1
    rw [h3] at ow
    rcases ow with ⟨kvs, g1, g2, g3⟩ | ⟨kvs, g1, g2, g4⟩
    · rw [g3] at e
      have := decT_enK e
      subst this
      cases e
      cases hl
    · obtain ⟨kds', y1, y2, y3⟩ := ents_dec g2
      rw [y1] at e
      cases e
      obtain ⟨x, z1, z2⟩ := fin y3
      exact ⟨_, _, x, rfl, g1, z1, z2⟩
/-- d[k] with k a tuple of plain things -/
def getTD (d : D) (ks : List Key) : Option D := match d with
  | .dict es => (decT es).bind fun kds => lookD kds ks
  | _ => none
theorem e_getT (hu : X.A.units + 65 < cLine) (ha : EW cs X a fa) (hb : EKT cs X b fb) (hs : NoSl b) : EP' cs X (.Subscript a b pos) (fun ρ => (fa ρ).bind fun d => (fb ρ).bind fun ks => getTD d ks) := ⟨pe_imp (pe_dget (by omega) ha.h hb.h hs) fun σ H Q ⟨Z, F, ρ, d, R, ef, q⟩ => by
  obtain ⟨x, ea, ef⟩ := Option.bind_eq_some_iff.mp ef
  obtain ⟨ks, eb, ef⟩ := Option.bind_eq_some_iff.mp ef
  refine ⟨Z, F, ρ, x, R, ea, fun v F1 H1 e1 R1 w1 => ⟨Z, F1, ρ, ks, R1, eb, fun u F2 H2 e2 R2 k2 => ?_⟩⟩
  unfold getTD at ef
  split at ef
  · obtain ⟨kds, h2, ef⟩ := Option.bind_eq_some_iff.mp ef
    obtain ⟨q0, kvs, z, rfl, g1, g2, g3⟩ := R2.dtv (w1.ext e2) h2 ef
    exact ⟨q0, z, rfl, .inr ⟨kvs, ks, u, .inl g1, rfl, R2.fh _ _ k2, g2.symm⟩, q z F2 H2 (e1.trans e2) R2 g3⟩
  · cases ef⟩
/-- the empty dict may be taken for one with tuple keys -/
theorem kind_T {P : Program} {w : World} {H H' : Hp} {h : Heap} {ad : Addr} (o : ObjOk P w H h ad (.dK [])) : ObjOk P w H' h ad (.dT []) := by
  obtain ⟨z, hd, vs, kv, ob, es, ep, g1, g2, g3, g4, g5, g6⟩ := o
  cases kv
  refine ⟨z, hd, [], .nil, ob, es, ep, g1, g2, g3, ?_, List.nodup_nil⟩
  cases q : es.toList with
  | nil => rfl
  | cons e r =>
    rw [q] at g5
    cases g5
theorem pe_sw {t : TE} (h : PE X e t) : PE X e (fun σ H Q => t σ H fun v H1 => ∃ H2, (H2 = H1 ∨ ∃ ad, H1 ad = some (.dK []) ∧ H2 = upd H1 ad (.dT [])) ∧ Q v H2) := by
  refine ⟨fun pins s σ H Q I q => thn (h.run pins s σ H _ I q) fun u s1 ⟨v, H1, I1, rv, H2, sw, q2⟩ => ?_⟩
  rcases sw with rfl | ⟨ad, h1, rfl⟩
  · exact ⟨v, _, I1, rv, q2⟩
  · have o1 := I1.hok ad _ h1
    obtain ⟨ob, g1⟩ : ∃ ob, s1.heap.get? ad = some ob := by
      obtain ⟨_, _, _, _, ob, _, _, g, _⟩ := o1
      exact ⟨ob, g⟩
    exact ⟨v, _, I1.write (x := ad) (e := ad) (h' := s1.heap) (t' := s1.toks) (by rw [h1]; trivial) (.inl rfl) (fun b u _ hu => hu) ⟨ob, g1⟩ (kind_T o1), rv, q2⟩
/-- .. and back -/
theorem kind_K {P : Program} {w : World} {H H' : Hp} {h : Heap} {ad : Addr} (o : ObjOk P w H h ad (.dT [])) : ObjOk P w H' h ad (.dK []) := by
  obtain ⟨z, hd, xs, pr, ob, es, ep, g1, g2, g3, g4, g5⟩ := o
  cases pr
  have he : es.toList = [] := by
    cases q : es.toList with
    | nil => rfl
    | cons e r =>
      rw [q] at g4
      cases g4
  have he2 : es = #[] := by
    cases es
    simpa using he
  subst he2
  exact ⟨z, hd, [], .nil, ob, _, ep, g1, g2, g3, (by first | exact fun _ h => (by simp at h) | (intro; simp) | (unfold KeysOf; simp) | exact ⟨by simp, by simp⟩), .nil, List.nodup_nil⟩
/-- d[k] = v on data -/
def putTD (ks : List Key) (v : D) : D → Option D
  | .dict es => (decT es).bind fun kds => if kds.length < 100000 then some (.dict ((putKD kds ks v).map enTD)) else none
  | _ => none
def putTS (i : Nat) (fk : Nv → Option (List Key)) (fv : Nv → Option D) : Nv → Option SR := fun ρ => (fv ρ).bind fun v => (fk ρ).bind fun k => mutS i (putTD k v) ρ
theorem sd_putT (hu : X.A.units + 65 < cLine) (h : PE X (.Name x p) (tVar i)) (hk : EKT cs X b fb) (hv : EP' cs X e fv) (hs : swapsWith e (some (.Subscript (.Name x p) b spos)) pos.line X.env = pure false := by rfl) :
    SD cs X E (.Assign [.Subscript (.Name x p) b spos] e pos) (putTS i fb fv) :=
  ⟨ps_imp (ps_dput (by omega) h (pe_sw hk.h) hv.h hs) fun D σ H ⟨Z, F, ρ, r, R, ef, w⟩ => by
  obtain ⟨y, e1, e2⟩ := Option.bind_eq_some_iff.mp ef
  obtain ⟨ks, e3, e4⟩ := Option.bind_eq_some_iff.mp e2
  obtain ⟨c, d, hc, hm, e5, rfl⟩ := mutS_some e4
  refine ⟨Z, F, ρ, y, R, e1, fun v F1 H1 x1 R1 r1 => ?_⟩
  obtain ⟨a, h1, fa0, za, _⟩ := R1.mine i c hc hm
  refine ⟨.ref a, h1, Z, F1, ρ, ks, R1, e3, fun u F2 H2 x2 R2 k2 => ?_⟩
  obtain ⟨a', h1', fa2, za2, ow⟩ := R2.mine i c hc hm
  rw [h1] at h1'
  cases h1'
  unfold putTD at e5
  split at e5
  · rename_i es hg
    obtain ⟨kds, q3, e5⟩ := Option.bind_eq_some_iff.mp e5
    split at e5
    · rename_i hlen
      cases e5
      rw [hg] at ow
      have rv := r1.ext x2
      have hb : u ≠ a := fun z => by
        rw [z, fa2] at k2
        cases k2
      have hk2 := R2.fh _ _ k2
      rcases ow with ⟨kvs', g1, g2, g3⟩ | ⟨kvs', g1, g2, g4⟩
      · rw [g3] at q3
        have := decT_enK q3
        subst this
        cases q3
        refine ⟨upd H2 a (.dT []), .inr ⟨a, g1, rfl⟩, a, upd (upd H2 a (.dT [])) a (.dT (putK [] ks v)), rfl, .inr ⟨[], ks, u, upd_same, rfl, by rw [upd_ne hb]; exact hk2, by decide, rfl⟩, ?_⟩
        rw [upd_upd]
        exact w σ F2 _ rfl (x1.trans x2) (R2.mut hc hm h1 (.inr ⟨_, upd_same, pair_ents (pair_put rv .nil), put_ne _ _ _⟩))
      · obtain ⟨kds', y1, y2, y3⟩ := ents_dec g2
        rw [y1] at q3
        cases q3
        have hz : kvs'.length < sizeLine := by
          have : (100000 : Nat) ≤ sizeLine := by decide
          have := pair_len y3
          omega
        exact ⟨H2, .inl rfl, a, _, rfl, .inr ⟨_, ks, u, g1, rfl, hk2, hz, rfl⟩, w σ F2 _ rfl (x1.trans x2) (R2.mut hc hm h1 (.inr ⟨_, upd_same, pair_ents (pair_put rv y3), put_ne _ _ _⟩))⟩
    · cases e5
  · cases e5⟩
end
end DS

namespace DS
open PySem L2
open Classical
/-! ## a call that reads a frame's own things and tells a new dict -/
def callG (n : Nat) (sem : List D → Option Ou) (fr : Nv → Option (List D)) : Nv → Option D := fun ρ => (fr ρ).bind fun ds => if ds.length = n then match sem ds with
  | some (.ret (.dict es) true _) => if (decK es).isSome = true then some (.dict es) else none
  | _ => none
  else none
theorem callG_is {k : Nat} {sem : List D → Option Ou} {fr : Nv → Option (List D)} {ρ : Nv} {ds os : List D} {es : List (D × D)} (h : fr ρ = some ds) (hk : ds.length = k) (e : sem ds = some (.ret (.dict es) true os)) (hk2 : (decK es).isSome = true) : callG k sem fr ρ = some (.dict es) := by
  unfold callG
  rw [h]
  show (if _ then _ else _) = _
  rw [if_pos hk, e]
  exact if_pos hk2
section
variable {cs : List Tb} {X : Cx} {e : Expr} {es : List Expr} {pos p : Pos} {fr : Nv → Option (List D)} {x : Str} {k j : Nat} {ps : List Str} {ms : List Md} {sem : List D → Option Ou}
theorem c_callG {P : Program} {w : World} {K : PySem.W.Frag} {mg : Str → Option Value} {base : Heap} (C : Cal P w K mg base cs x k ps ms sem) (hX : AtX X P w K mg base) (hro : ∀ m ∈ ms, m = .ro) (hr : Room j X.A) (hj : k ≤ j) (hg : Gl X x) (ha : EWs cs X (e :: es) fr) (hdb : (x == ("__debug__" : Str)) = false := by decide)
    (he : starEach (e :: es) X.env = (false, eval e X.env) :: starEach es X.env := by rfl) (hpl : (backTo pos (starEach es X.env)).any (·.1) = false := by rfl) : EN cs X (.Call (.Name x p) (e :: es) [] pos) (callG ms.length sem fr) := by
  obtain ⟨rfl, rfl, rfl, rfl, rfl⟩ := hX
  obtain ⟨f, fd, h1, h2, h3, h4⟩ := C.ex
  refine ⟨pe_imp (pe_call h1 (hr.mono hj) hg h2 h3 h4 .nil (pass0 (X := X)) ha.h hdb he hpl) fun σ H Q ⟨Z, F0, ρ, d, R, ef, q⟩ => ?_⟩
  obtain ⟨ds, e1, e2⟩ := Option.bind_eq_some_iff.mp ef
  split at e2
  · rename_i hl
    refine ⟨Z, F0, ρ, ds, R, e1, fun vs F1 H1 x1 R1 w1 => ?_⟩
    split at e2
    · rename_i ds' outs es'
      split at e2
      case isFalse => cases e2
      rename_i hdk
      cases e2
      rw [List.append_nil]
      have hv : vs.length = ms.length := by rw [vws_len w1]; exact hl
      refine ⟨oth (plusM σ ρ F1 H1) H1, plusM σ ρ F1 H1, ds, _, hv, hl, ioOk_ro hro, ?_, es', fun v F2 H2 x2 R2 res => ?_⟩
      · rw [argNv_ro hro hv hl]
        exact R1.lendW w1
      · obtain ⟨RB, xb⟩ := R1.backW x2 R2
        unfold ResV at res
        rw [if_pos rfl] at res
        obtain ⟨ad, rfl, g1, g2, g3, g4⟩ := res
        have hm : ¬ Mine σ ρ ad := fun z => by
          obtain ⟨f1, _, o, f2⟩ := R1.mineF z
          have := x2 ad o (plus_mine f1 z f2)
          rw [g1] at this
          cases this
        have hz : Z ad = none := by
          cases q0 : Z ad with
          | none => rfl
          | some o =>
            obtain ⟨f1, f2⟩ := R1.zh ad o q0
            have hp : plusM σ ρ F1 H1 ad = none := by
              unfold plusM
              rw [f2]
              show (if _ then _ else _) = _
              rw [if_neg hm]
            rw [oth_of hp f1 (R1.znt q0)] at g2
            cases g2
        have hF : lessM σ ρ F2 ad = none := by
          unfold lessM
          rw [if_neg hm]
          exact g1
        refine q ad _ H2 (x1.trans xb) RB hF hz hm ?_
        rcases g4 with g4 | g4
        · exact .inl g4
        · obtain ⟨kvs, y1, y2, y3⟩ := g4
          obtain ⟨r, hr2⟩ := Option.isSome_iff_exists.mp hdk
          exact (y3 (decK_ents y2 hr2)).elim
    · cases e2
  · cases e2
end
end DS

namespace DS
open PySem L2 PyProof.Rows

/-! ## for i, c in enumerate(text) -/
def ItS (z : Str) : It :=
  ⟨fun i _ => i < z.cps.size, fun i H v H' => ∃ T c, v = .ref T ∧ H T = none ∧ H' = upd H T (.tup [.int (i : Nat), .str ⟨#[c]⟩]) ∧ z.cps[i]? = some c, fun i _ => z.cps.size ≤ i⟩
theorem draws_signs {prog : Program} {w : World} {A : Around} (hh : A.handled = none) (it : Addr) (z : Str) (t : Tok) {ty : String} (hty : ty = "str_ascii_iterator" ∨ ty = "str_iterator") :
    Draws prog w A it [it] z.cps.size (fun i v => ∃ c u, z.cps[i]? = some c ∧ v = .str ⟨#[c]⟩ u) (fun i h => h.IsStrIter it ty z t i) := by
  rcases hty with rfl | rfl
  · exact Draws.strAscii hh it z t
  · exact Draws.strWide hh it z t
theorem turn_signs {P : Program} {w : World} {K : PySem.W.Frag} {elts : List Expr} {kk : Nat} {tpos : Pos} (en it : Addr) (z : Str) (t : Tok) {ty : String} (hty : ty = "str_ascii_iterator" ∨ ty = "str_iterator") :
    Turn P w K (.Tuple elts kk tpos) (ItS z) [en, it] en (fun i h => i ≤ z.cps.size ∧ (∃ was, IsEnum h en it ((i : Nat) : Int) was) ∧ h.IsStrIter it ty z t i ∧ en ≠ it) where
  mem := List.mem_cons_self
  obj := fun i h st b hb => by
    obtain ⟨_, ⟨was, g1⟩, ⟨ob, g2, _, g4⟩, _⟩ := st
    rcases List.mem_cons.mp hb with rfl | hb
    · exact ⟨_, g1, fun v q => nomatch q⟩
    · rw [List.mem_singleton] at hb
      subst hb
      exact ⟨ob, g2, fun v q => by rw [g4] at q; cases q⟩
  keep := fun i h h' st k => by
    obtain ⟨g0, ⟨was, g1⟩, ⟨ob, g2, g3⟩, g4⟩ := st
    exact ⟨g0, ⟨was, k en List.mem_cons_self _ g1⟩, ⟨ob, k it (List.mem_cons_of_mem _ List.mem_cons_self) _ g2, g3⟩, g4⟩
  item := by
    intro X eP eW eK calm i pins s σ H E I frees st go
    subst eP eW eK
    obtain ⟨g0, ⟨was, g1⟩, g2, g4⟩ := st
    have e1 : en < s.heap.objs.size := Heap.lt_size g1
    have e2 : it < s.heap.objs.size := by
      obtain ⟨_, q, _⟩ := g2
      exact Heap.lt_size q
    have DR := draws_signs (prog := X.prog) (w := X.w) (A := X.A.in1) (by exact I.ok.hd calm) it z t hty
    refine wpAny_pyNext_enum_itemD (E := E) DR g1 g2 go g4 (by simpa using g4) fun u h1 tk sign out more tup size rest => ?_
    obtain ⟨c, tu, hc, rfl⟩ := sign
    refine ⟨_, rfl, wpAny_letOwnedTupleGo_enum (s := { s with heap := h1, toks := tk + 1 }) out fun h2 again same => ?_⟩
    have tup2 : h2.get? s.heap.objs.size = some { cls := .type "tuple", data := .seq #[.int i tk, .str ⟨#[c]⟩ tu] } := (same.2 _ (Nat.ne_of_gt e1)).trans tup
    have made : ObjOk X.prog X.w (upd H s.heap.objs.size (.tup [.int (i : Nat), .str ⟨#[c]⟩])) h2 s.heap.objs.size (.tup [.int (i : Nat), .str ⟨#[c]⟩]) :=
      ⟨Nat.le_trans (show 2 ≤ 3 by decide) (by decide), [.int i tk, .str ⟨#[c]⟩ tu], .cons ⟨_, rfl⟩ (.cons ⟨_, rfl⟩ .nil), ⟨_, tup2, rfl, _, rfl⟩⟩
    have I1 : L2.Inv X pins σ (upd H s.heap.objs.size (.tup [.int (i : Nat), .str ⟨#[c]⟩])) { s with heap := h2, toks := tk + 1 } :=
      I.turnedNew (ch := [en, it]) (fun b ob nb q => (same.2 b (fun y => nb (by rw [y]; exact List.mem_cons_self))).trans (rest b ob (fun y => nb (by rw [y]; exact List.mem_cons_self)) (fun y => nb (by rw [y]; exact List.mem_cons_of_mem _ List.mem_cons_self)) q)) frees (Nat.le_refl _) made
    refine ⟨.ref s.heap.objs.size, _, I1, rfl, ⟨_, c, rfl, I.hok.fresh (Nat.le_refl _), rfl, hc⟩, ⟨go, ⟨.str ⟨#[c]⟩ tu, ?_⟩, ?_, g4⟩, fun b hb => ?_⟩
    · have : ((i + 1 : Nat) : Int) = (i : Int) + 1 := by omega
      rw [this]
      exact again
    · obtain ⟨ob, q1, q2⟩ := more
      exact ⟨ob, (same.2 it (Ne.symm g4)).trans q1, q2⟩
    · have hlt : b < s.heap.objs.size := by
        rcases List.mem_cons.mp hb with rfl | hb
        · exact e1
        · rw [List.mem_singleton] at hb
          rw [hb]
          exact e2
      rw [upd_ne (Nat.ne_of_lt hlt)]
      exact (frees b hb).1
  done := by
    intro X eP eW eK calm i pins s σ H E I frees st stop
    subst eP eW eK
    obtain ⟨g0, ⟨was, g1⟩, g2, g4⟩ := st
    have hi : i = z.cps.size := Nat.le_antisymm g0 stop
    subst hi
    obtain ⟨f0, f1, f2, f3, f4, f5⟩ := frees it (List.mem_cons_of_mem _ List.mem_cons_self)
    have DR := draws_signs (prog := X.prog) (w := X.w) (A := X.A.in1) (by exact I.ok.hd calm) it z t hty
    exact wpAny_pyNext_enum_endD (E := E) DR g1 g2 fun h1 rest => ⟨rfl, I.turned (t' := s.toks) (fun b ob nb q => rest b ob nb q) f0 f1 f3 f4 f5⟩
  self := fun A i s Q E st q => by
    obtain ⟨_, ⟨was, g1⟩, _⟩ := st
    exact wpAny_pyIter_enum g1 q
def iSigns (ta : TA) : TI := fun σ H R => ta σ H fun vs H1 => ∃ z, vs = [V.str z] ∧ R (ItS z) H1
theorem strIter_ty (z : Str) : strIterType z = "str_ascii_iterator" ∨ strIterType z = "str_iterator" := by
  unfold strIterType
  split
  · exact .inl rfl
  · exact .inr rfl
theorem pi_signs {X : Cx} {e : Expr} {ta : TA} {p pos tpos : Pos} {elts : List Expr} {kk : Nat} (hg : Gl X "enumerate") (hm : X.mg "enumerate" = none) (ha : PA X [e] ta) (one : starEach [e] X.env = [(false, eval e X.env)] := by rfl) :
    PI X (.Tuple elts kk tpos) (.Call (.Name "enumerate" p) [e] [] pos) (iSigns ta) := by
  refine ⟨fun pins s σ H R I q => Call_ (ld_blt I hg hm boot_enumerate (PyProof.Rows.callWith_type1 (thn (ha.run pos pins s σ H _ I q) fun us s1 ⟨vs, H1, I1, r1, z, ez, q1⟩ => ?_) one rfl))⟩
  subst ez
  obtain ⟨u, rfl, ru⟩ := r1.one
  obtain ⟨t, rfl⟩ := ru
  refine call_enumerate_str fun h1 g1 g2 _ keep => wpAny_pyIter_enum g1 ?_
  have I2 : L2.Inv X pins σ H1 { s1 with heap := h1 } := I1.kept (t' := s1.toks) keep
  refine ⟨s1.heap.objs.size + 1, [s1.heap.objs.size + 1, s1.heap.objs.size], _, _, H1, rfl, I2, turn_signs (s1.heap.objs.size + 1) s1.heap.objs.size z t (strIter_ty z), ⟨Nat.zero_le _, ⟨.none, g1⟩, g2, Nat.succ_ne_self _⟩, fun b hb => ?_, q1⟩
  have above : s1.heap.objs.size ≤ b := by
    rcases List.mem_cons.mp hb with rfl | hb
    · exact Nat.le_add_right _ _
    · rw [List.mem_singleton] at hb
      rw [hb]
      exact Nat.le_refl _
  exact I1.fpOk above (I1.hok.fresh above)
def enumS (ds : List D) : Option (List D) := match ds with
  | [.str z] => some (enumD (signsD z))
  | _ => none
theorem i_enumS {cs : List Tb} {X : Cx} {a : Expr} {p pos : Pos} {fr : Nv → Option (List D)} {elts : List Expr} {kk : Nat} {tpos : Pos} (hg : Gl X "enumerate") (hm : X.mg "enumerate" = none) (ha : EPs cs X [a] fr) (hs : starEach [a] X.env = [(false, eval a X.env)] := by rfl) :
    EI cs X AnyP (.Tuple elts kk tpos) (.Call (.Name "enumerate" p) [a] [] pos) (fun ρ => (fr ρ).bind enumS) :=
  ⟨pi_imp (pi_signs hg hm ha.h hs) fun σ H R ⟨Z, F, ρ, ds, r, ef, q⟩ => by
    obtain ⟨d, e1, e2⟩ := Option.bind_eq_some_iff.mp ef
    refine ⟨Z, F, ρ, d, r, e1, fun vs F1 H1 x1 R1 r1 => ?_⟩
    unfold enumS at e2
    split at e2
    · rename_i z
      cases e2
      match vs, r1 with
      | [_], .cons (.str _) .nil =>
        refine ⟨z, rfl, q _ (fun _ _ _ => True) F1 H1 x1 R1 trivial (fun _ _ _ _ _ p => p) ⟨fun _ _ _ _ _ p => p, fun Z F H σ ρ i x R2 _ hi => ?_, fun Z F H σ ρ i R2 _ hi => ?_⟩⟩
        · unfold enumD at hi
          rw [List.getElem?_map] at hi
          obtain ⟨j, h1, rfl⟩ := Option.map_eq_some_iff.mp hi
          obtain ⟨h2, h3⟩ := List.getElem?_eq_some_iff.mp h1
          rw [List.getElem_range] at h3
          subst h3
          rw [List.length_range] at h2
          have hl : (signsD z).length = z.cps.size := by
            unfold signsD
            rw [List.length_map, Array.length_toList]
          refine ⟨by show i < z.cps.size; omega, fun y H' ⟨T, c, e1, e2, e3, e4⟩ => ?_⟩
          subst e1 e3
          obtain ⟨R3, x3, _⟩ := R2.new (o := .tup [.int (i : Nat), .str ⟨#[c]⟩]) e2
          have hx : (signsD z).getD i .none = .str ⟨#[c]⟩ := by
            unfold signsD
            rw [List.getD_eq_getElem?_getD, List.getElem?_map, Array.getElem?_toList, e4]
            rfl
          rw [hx]
          exact ⟨_, x3, R3, .tup upd_same (.cons (.int _) (.cons (.str _) .nil))⟩
        · unfold enumD at hi
          rw [List.length_map, List.length_range] at hi
          unfold signsD at hi
          rw [List.length_map, Array.length_toList] at hi
          exact hi
    · cases e2⟩
end DS

namespace DS
open PySem L2

/-! ## more changes of a frame's own or lent list -/
def clearD : D → Option D
  | .list _ => some (.list [])
  | _ => none
def insD (k x : D) : D → Option D
  | .list xs => match k with
    | .int i => if 0 ≤ i ∧ i ≤ 1000000 ∧ xs.length < 100000 then some (.list (xs.take i.toNat ++ x :: xs.drop i.toNat)) else none
    | _ => none
  | _ => none
def insS (i : Nat) (fk fx : Nv → Option D) : Nv → Option SR := fun ρ => (fk ρ).bind fun k => (fx ρ).bind fun x => mutS i (insD k x) ρ
/-- xs[k] = x -/
def putLD (k x : D) : D → Option D
  | .list xs => match k with
    | .int i => (ixN xs.length i).map fun j => .list (xs.set j x)
    | _ => none
  | _ => none
def putLS (i : Nat) (fk fx : Nv → Option D) : Nv → Option SR := fun ρ => (fx ρ).bind fun x => (fk ρ).bind fun k => mutS i (putLD k x) ρ
/-- xs.pop() -/
def popX (i : Nat) : Nv → Option (D × Nv) := fun ρ => match ρ[i]? with
  | some (some c) => if c.mine = true then match c.got with
    | .list xs => (xs[xs.length - 1]?).map fun d => (d, ρ.set i (some (c.put (.list xs.dropLast))))
    | _ => none
    else none
  | _ => none
section
variable {cs : List Tb} {X : Cx} {E : XK} {e k : Expr} {x : Str} {p pos apos cpos : Pos} {i : Nat} {fa fk : Nv → Option D} {fx : Nv → Option (D × Nv)} {tg : Expr} {ga : D → Nv → Option Nv}
theorem sd_clear (h : PE X (.Name x p) (tVar i)) (hbase : attributeBase (.Name x p) "clear" X.env (eval (.Name x p) X.env) = eval (.Name x p) X.env := by rfl) (hline : (apos.endLine == cpos.line) = true := by rfl)
    (hsw : swapsWith (.Call (.Attribute (.Name x p) "clear" apos) [] [] cpos) none pos.line X.env = pure false := by rfl) :
    SD cs X E (.Expr (.Call (.Attribute (.Name x p) "clear" apos) [] [] cpos) pos) (mutS i clearD) :=
  ⟨ps_imp (ps_expr (pe_bm0 PySem.F.plainAttrs_list PySem.F.slot_list_clear PySem.F.type_list_clear mt_clear h hbase hline) hsw) fun D σ H ⟨Z, F, ρ, r, R, ef, w⟩ => by
  obtain ⟨c, d, hc, hm, e3, rfl⟩ := mutS_some ef
  obtain ⟨a, h1, fa0, za, ow⟩ := R.mine i c hc hm
  unfold clearD at e3
  split at e3
  · rename_i xs hg
    cases e3
    rw [hg] at ow
    obtain ⟨vs, g1, g2⟩ := ow
    exact ⟨.ref a, h1, .inl ⟨rfl, vs, .inl (.inl g1)⟩, a, vs, rfl, rfl, g1, w σ F _ rfl (Ext.refl F) (R.mut hc hm h1 ⟨_, upd_same, .nil⟩)⟩
  · cases e3⟩
theorem sd_ins (h : PE X (.Name x p) (tVar i)) (hk : EP' cs X k fk) (ha : EP' cs X e fa) (hbase : attributeBase (.Name x p) "insert" X.env (eval (.Name x p) X.env) = eval (.Name x p) X.env := by rfl)
    (hfew : ((backTo cpos (starEach [k, e] X.env)).all (fun x => !x.1) && (backToKw cpos (keywordEach [] X.env)).all (fun x => x.1.isSome)
      && decide (([k, e] : List Expr).length + ([] : List Keyword).length + (if ([] : List Keyword).isEmpty then 0 else 1) < 30)) = true := by rfl)
    (hline : (apos.endLine == cpos.line) = true := by rfl) (hs : starEach [k, e] X.env = (false, eval k X.env) :: starEach [e] X.env := by rfl) (hs2 : starEach [e] X.env = (false, eval e X.env) :: starEach [] X.env := by rfl) (hplain : (backTo cpos (starEach [e] X.env)).any (·.1) = false := by rfl)
    (hsw : swapsWith (.Call (.Attribute (.Name x p) "insert" apos) [k, e] [] cpos) none pos.line X.env = pure false := by rfl) :
    SD cs X E (.Expr (.Call (.Attribute (.Name x p) "insert" apos) [k, e] [] cpos) pos) (insS i fk fa) :=
  ⟨ps_imp (ps_expr (pe_bm PySem.F.plainAttrs_list PySem.F.slot_list_insert PySem.F.type_list_insert mt_insert h (pa_cons hk.h (pa_cons ha.h pa_nil hs2) hs) hbase hfew hline hs hplain) hsw) fun D σ H ⟨Z, F, ρ, r, R, ef, w⟩ => by
  obtain ⟨kd, e0, ef⟩ := Option.bind_eq_some_iff.mp ef
  obtain ⟨y, e1, e2⟩ := Option.bind_eq_some_iff.mp ef
  obtain ⟨c, d, hc, hm, e3, rfl⟩ := mutS_some e2
  obtain ⟨a, h1, fa0, za, ow⟩ := R.mine i c hc hm
  unfold insD at e3
  split at e3
  · rename_i xs hg
    split at e3
    · rename_i n
      split at e3
      · rename_i hb
        cases e3
        rw [hg] at ow
        obtain ⟨vs, g1, g2⟩ := ow
        refine ⟨.ref a, h1, .inl ⟨rfl, vs, .inl (.inl g1)⟩, Z, F, ρ, _, R, e0, fun u F0 H0 x0 R0 r0 => ⟨Z, F0, ρ, y, R0, e1, fun v F1 H1 x1 R1 r1 => ?_⟩⟩
        obtain ⟨a', h1', _, _, ow'⟩ := R1.mine i c hc hm
        rw [h1] at h1'
        cases h1'
        rw [hg] at ow'
        obtain ⟨vs', g1', g2'⟩ := ow'
        cases r0
        have hz : vs'.length < sizeLine := by
          rw [g2'.len]
          have : (100000 : Nat) ≤ sizeLine := by decide
          omega
        refine ⟨a, vs', n, v, rfl, rfl, g1', hz, hb.1, by omega, w σ F1 _ rfl (x0.trans x1) (R1.mut hc hm h1 ⟨_, upd_same, ?_⟩)⟩
        rw [List.append_assoc]
        exact (g2'.take _).app (.cons r1 (g2'.drop _))
      · cases e3
    · cases e3
  · cases e3⟩
theorem sd_putL {spos : Pos} (h : PE X (.Name x p) (tVar i)) (hk : EW cs X k fk) (hv : EP' cs X e fa)
    (hsub : ∀ v, assign (.Subscript (.Name x p) k spos) X.env v = (do
      let ov ← holding [v] (eval (.Name x p) X.env)
      let iv ← holding [v, ov] (eval k X.env)
      standAt spos
      holding [v, ov, iv] (setItem ov iv v)
      release [v, ov, iv] []) := by intro _; rfl)
    (hs : swapsWithSole [.Subscript (.Name x p) k spos] e pos.line X.env = pure false := by rfl) (hw : swappedStores [.Subscript (.Name x p) k spos] e X.env = pure none := by rfl)
    (h1 : (assignEach [.Subscript (.Name x p) k spos] X.env).map (·.2) = [assign (.Subscript (.Name x p) k spos) X.env] := by rfl) :
    SD cs X E (.Assign [.Subscript (.Name x p) k spos] e pos) (putLS i fk fa) :=
  ⟨ps_imp (ps_asg hv.h (pg_sub h hk.h set_list hsub) hs hw h1) fun D σ H ⟨Z, F, ρ, r, R, ef, w⟩ => by
  obtain ⟨y, e1, e2⟩ := Option.bind_eq_some_iff.mp ef
  obtain ⟨z, e3, e4⟩ := Option.bind_eq_some_iff.mp e2
  obtain ⟨c, d, hc, hm, e5, rfl⟩ := mutS_some e4
  refine ⟨Z, F, ρ, y, R, e1, fun v F1 H1 x1 R1 r1 => ?_⟩
  obtain ⟨a, h1, fa0, za, _⟩ := R1.mine i c hc hm
  refine ⟨.ref a, h1, Z, F1, ρ, z, R1, e3, fun u F2 H2 x2 R2 w2 => ?_⟩
  obtain ⟨a', h1', _, _, ow⟩ := R2.mine i c hc hm
  rw [h1] at h1'
  cases h1'
  unfold putLD at e5
  split at e5
  · rename_i xs hg
    split at e5
    · rename_i n
      obtain ⟨j, hj, rfl⟩ := Option.map_eq_some_iff.mp e5
      have hu := vw_flat (w := .int n) R2 w2 rfl
      subst hu
      rw [hg] at ow
      obtain ⟨vs, g1, g2⟩ := ow
      exact ⟨a, vs, n, j, rfl, rfl, g1, by rw [g2.len]; exact hj, w σ F2 _ rfl (x1.trans x2) (R2.mut hc hm h1 ⟨_, upd_same, Rps.set (r1.ext x2) j g2⟩)⟩
    · cases e5
  · cases e5⟩
theorem x_pop (h : PE X (.Name x p) (tVar i)) (hbase : attributeBase (.Name x p) "pop" X.env (eval (.Name x p) X.env) = eval (.Name x p) X.env := by rfl) (hline : (apos.endLine == cpos.line) = true := by rfl) :
    EX cs X (.Call (.Attribute (.Name x p) "pop" apos) [] [] cpos) (popX i) :=
  ⟨pe_imp (pe_bm0 PySem.F.plainAttrs_list PySem.F.slot_list_pop PySem.F.type_list_pop mt_pop h hbase hline) fun σ H Q ⟨Z, F, ρ, d, ρ', R, ef, q⟩ => by
  unfold popX at ef
  split at ef
  · rename_i c hc
    split at ef
    · rename_i hm
      split at ef
      · rename_i xs hg
        obtain ⟨y, hy, e2⟩ := Option.map_eq_some_iff.mp ef
        cases e2
        obtain ⟨a, h1, fa0, za, ow⟩ := R.mine i c hc hm
        rw [hg] at ow
        obtain ⟨vs, g1, g2⟩ := ow
        obtain ⟨v, k1, k2⟩ := g2.get hy
        exact ⟨.ref a, h1, .inl ⟨rfl, vs, .inl (.inl g1)⟩, a, vs, v, rfl, rfl, g1, by rw [g2.len]; exact k1, q v F _ (Ext.refl F) (R.mut hc hm h1 ⟨_, upd_same, g2.dropLast⟩) k2⟩
      · cases ef
    · cases ef
  · cases ef⟩
theorem sd_asgX (he : EX cs X e fx) (hg : GD cs X tg ga) (hs : swapsWithSole [tg] e pos.line X.env = pure false := by rfl) (hw : swappedStores [tg] e X.env = pure none := by rfl)
    (h1 : (assignEach [tg] X.env).map (·.2) = [assign tg X.env] := by rfl) : SD cs X E (.Assign [tg] e pos) (fun ρ => (fx ρ).bind fun r => (ga r.1 r.2).map .nx) := ⟨ps_imp (ps_asg he.h hg.h hs hw h1) fun D σ H ⟨Z, F, ρ, r, R, ef, w⟩ => by
  obtain ⟨⟨d, ρ1⟩, e1, e2⟩ := Option.bind_eq_some_iff.mp ef
  obtain ⟨ρ', e3, rfl⟩ := Option.map_eq_some_iff.mp e2
  exact ⟨Z, F, ρ, d, ρ1, R, e1, fun v F1 H1 x1 R1 r1 => ⟨Z, F1, ρ1, d, ρ', R1, r1, e3, fun σ' F2 H2 l2 x2 R2 => w σ' F2 H2 l2 (x1.trans x2) R2⟩⟩⟩
end
end DS

namespace DS
open PySem L2

/-! ## -x, sum, min of two, .. among written things -/
def negD : D → Option D
  | .int i => some (.int (-i))
  | _ => none
def negV (fa : Nv → Option D) : Nv → Option D := fun ρ => (fa ρ).bind negD
def sumD : List D → Option D
  | [.list xs] => (intsD xs).map fun ns => .int ns.sum
  | _ => none
def min2D : List D → Option D
  | [.int i, .int j] => some (.int (if j < i then j else i))
  | _ => none
def max2D : List D → Option D
  | [.int i, .int j] => some (.int (if j > i then j else i))
  | _ => none
def intD : List D → Option D
  | [.int i] => some (.int i)
  | [.bool b] => some (.int (if b = true then 1 else 0))
  | _ => none
/-- x in (a, b, ..) -/
def inTD (x y : D) : Option Bool := match y with
  | .tuple ds => if SeqAt.shaped x = true ∧ SeqAt.shaped (.tuple ds) = true then some (ds.any fun z => PyData.eqv z x) else none
  | _ => none
def inTD' (x y : D) : Option D := (inTD x y).map .bool
def ninTD' (x y : D) : Option D := (inTD x y).map fun b => .bool (!b)
section
variable {cs : List Tb} {X : Cx} {E : XK} {a e : Expr} {pos : Pos} {fa : Nv → Option D}
theorem e_neg (h : EP' cs X a fa) : EP' cs X (.UnaryOp .USub a pos) (negV fa) := ⟨pe_imp (pe_un un_neg h.h) fun σ H Q ⟨Z, F, ρ, d, R, ef, q⟩ => by
  obtain ⟨x, e1, e2⟩ := Option.bind_eq_some_iff.mp ef
  refine ⟨Z, F, ρ, x, R, e1, fun v F1 H1 x1 R1 r1 => ?_⟩
  unfold negD at e2
  split at e2
  · cases e2
    cases r1
    exact ⟨_, rfl, q _ F1 H1 x1 R1 (.int _)⟩
  · cases e2⟩
theorem cd_sum (hc : X.calm = true) : CallR X (.builtin "sum") (rDs X.K cs sumD) := by
  rintro pins s σ H xs us Q I r ⟨Z, F, σ', ρ, ds, d, R, w, e, q⟩
  unfold sumD at e
  split at e
  · obtain ⟨ns, e1, rfl⟩ := Option.map_eq_some_iff.mp e
    obtain ⟨v, rfl, w1⟩ := vws1 w
    obtain ⟨a, vs, rfl, s1, r1⟩ := R.lst w1
    have hv := intsD_rps r1 e1
    subst hv
    exact cr_sum hc pins s σ H _ us Q I r ⟨a, ns, rfl, s1, q _ F H (Ext.refl F) R (.int _)⟩
  · cases e
theorem cd_min2 (hc : X.calm = true) : CallR X (.builtin "min") (rDs X.K cs min2D) := by
  rintro pins s σ H xs us Q I r ⟨Z, F, σ', ρ, ds, d, R, w, e, q⟩
  unfold min2D at e
  split at e
  · cases e
    obtain ⟨v, u, rfl, w1, w2⟩ := vws2 w
    cases R.vint w1
    cases R.vint w2
    exact call_min2 hc pins s σ H _ us Q I r ⟨_, _, rfl, q _ F H (Ext.refl F) R (.int _)⟩
  · cases e
theorem cd_max2 (hc : X.calm = true) : CallR X (.builtin "max") (rDs X.K cs max2D) := by
  rintro pins s σ H xs us Q I r ⟨Z, F, σ', ρ, ds, d, R, w, e, q⟩
  unfold max2D at e
  split at e
  · cases e
    obtain ⟨v, u, rfl, w1, w2⟩ := vws2 w
    cases R.vint w1
    cases R.vint w2
    exact call_max2 hc pins s σ H _ us Q I r ⟨_, _, rfl, q _ F H (Ext.refl F) R (.int _)⟩
  · cases e
theorem cd_int : CallR X (.type "int") (rDs X.K cs intD) := by
  rintro pins s σ H xs us Q I r ⟨Z, F, σ', ρ, ds, d, R, w, e, q⟩
  unfold intD at e
  split at e
  · cases e
    obtain ⟨v, rfl, w1⟩ := vws1 w
    cases R.vint w1
    exact call_int1 pins s σ H _ us Q I r (.inl ⟨_, rfl, q _ F H (Ext.refl F) R (.int _)⟩)
  · cases e
    obtain ⟨v, rfl, w1⟩ := vws1 w
    cases R.vbool w1
    refine call_int1 pins s σ H _ us Q I r (.inr ⟨_, rfl, ?_⟩)
    exact q _ F H (Ext.refl F) R (.int _)
  · cases e
theorem od_inT (hu : X.A.units + 65 < cLine) : OpR X (compareOp .In) (rD X.K cs inTD') := by
  rintro pins s σ H v u a b Q I rx ry ⟨Z, F, σ', ρ, x, y, d, R, w1, w2, e, q⟩
  obtain ⟨bb, e2, rfl⟩ := Option.map_eq_some_iff.mp e
  clear e
  unfold inTD at e2
  split at e2
  · split at e2
    · rename_i hc
      cases e2
      obtain ⟨as, r1⟩ := Dp.reads I _ v a ((R.all w1).dp (shp hc.1)) rx
      obtain ⟨bs, r2⟩ := Dp.reads I _ u b ((R.all w2).dp (shp hc.2)) ry
      refine SeqAt.in_tuple_reads r2 r1 (SeqAt.canLay_of_shaped hc.2) (SeqAt.canLay_of_shaped hc.1) (PyProof.Rows.room_in_shaped hc.1 hu) ⟨.bl _, H, I, rfl, q _ F H (Ext.refl F) R (.bl _)⟩
    · cases e2
  · cases e2
theorem od_ninT (hu : X.A.units + 65 < cLine) : OpR X (compareOp .NotIn) (rD X.K cs ninTD') := by
  rintro pins s σ H v u a b Q I rx ry ⟨Z, F, σ', ρ, x, y, d, R, w1, w2, e, q⟩
  obtain ⟨bb, e2, rfl⟩ := Option.map_eq_some_iff.mp e
  clear e
  unfold inTD at e2
  split at e2
  · split at e2
    · rename_i hc
      obtain rfl := Option.some.inj e2
      obtain ⟨as, r1⟩ := Dp.reads I _ v a ((R.all w1).dp (shp hc.1)) rx
      obtain ⟨bs, r2⟩ := Dp.reads I _ u b ((R.all w2).dp (shp hc.2)) ry
      refine SeqAt.notIn_tuple_reads r2 r1 (SeqAt.canLay_of_shaped hc.2) (SeqAt.canLay_of_shaped hc.1) (PyProof.Rows.room_in_shaped hc.1 hu) ⟨.bl _, H, I, rfl, q _ F H (Ext.refl F) R (.bl _)⟩
    · cases e2
  · cases e2
/-- a text of the module -/
theorem e_gstr {x : Str} {i : Str} (hg : Gl X x) (h : ∃ t, X.mg x = some (.str i t)) (hd : (x == ("__debug__" : Str)) = false := by decide) : EP' cs X (.Name x pos) (fun _ => some (.str i)) := by
  obtain ⟨t, h⟩ := h
  exact e_glob (pe_glob (v := .str i) hg h ⟨t, rfl⟩ hd) fun F => .str i
end

/-! ## extend, x += i, xs[a:b] = [..] -/
def extD (x : D) : D → Option D
  | .list xs => match x with
    | .list ys => if xs.length + ys.length ≤ 100000 then some (.list (xs ++ ys)) else none
    | _ => none
  | _ => none
def extS (i : Nat) (fa : Nv → Option D) : Nv → Option SR := fun ρ => (fa ρ).bind fun x => mutS i (extD x) ρ
def addI : D → D → Option D
  | .int i, .int j => some (.int (i + j))
  | _, _ => none
/-- xs[a:c] = ys -/
def slcD (a c y : D) : D → Option D
  | .list xs => match a, c, y with
    | .int i, .int j, .list ys => if 0 ≤ i ∧ i ≤ j ∧ j ≤ xs.length ∧ xs.length + ys.length ≤ 100000 then some (.list (xs.take i.toNat ++ ys ++ xs.drop j.toNat)) else none
    | _, _, _ => none
  | _ => none
def slcS (i : Nat) (fl fh fx : Nv → Option D) : Nv → Option SR := fun ρ => (fx ρ).bind fun x => (fl ρ).bind fun a => (fh ρ).bind fun c => mutS i (slcD a c x) ρ
def gSlc (to tl th : TE) : TG := fun v σ H Q => to σ H fun o H1 => tl σ H1 fun a H2 => th σ H2 fun c H3 => ∃ (l b : Addr) (xs ys : List V) (i j : Int), o = .ref l ∧ v = .ref b ∧ a = .int i ∧ c = .int j ∧ H3 l = some (.lst xs) ∧ H3 b = some (.lst ys) ∧ l ≠ b ∧
  0 ≤ i ∧ i ≤ j ∧ j ≤ xs.length ∧ xs.length + ys.length ≤ sizeLine ∧ Q σ (upd H3 l (.lst (xs.take i.toNat ++ ys ++ xs.drop j.toNat)))
section
variable {cs : List Tb} {X : Cx} {E : XK} {e k o lo hi : Expr} {x : Str} {p p2 pos apos cpos : Pos} {i : Nat} {fa fl fh : Nv → Option D} {to tl th : TE}
theorem sd_ext (h : PE X (.Name x p) (tVar i)) (ha : EN cs X e fa) (hbase : attributeBase (.Name x p) "extend" X.env (eval (.Name x p) X.env) = eval (.Name x p) X.env := by rfl)
    (hfew : ((backTo cpos (starEach [e] X.env)).all (fun x => !x.1) && (backToKw cpos (keywordEach [] X.env)).all (fun x => x.1.isSome)
      && decide (([e] : List Expr).length + ([] : List Keyword).length + (if ([] : List Keyword).isEmpty then 0 else 1) < 30)) = true := by rfl)
    (hline : (apos.endLine == cpos.line) = true := by rfl) (hs : starEach [e] X.env = (false, eval e X.env) :: starEach [] X.env := by rfl) (hplain : (backTo cpos (starEach [] X.env)).any (·.1) = false := by rfl)
    (hsw : swapsWith (.Call (.Attribute (.Name x p) "extend" apos) [e] [] cpos) none pos.line X.env = pure false := by rfl) :
    SD cs X E (.Expr (.Call (.Attribute (.Name x p) "extend" apos) [e] [] cpos) pos) (extS i fa) :=
  ⟨ps_imp (ps_expr (pe_bm PySem.F.plainAttrs_list PySem.F.slot_list_extend PySem.F.type_list_extend mt_extend h (pa_cons ha.h pa_nil hs) hbase hfew hline hs hplain) hsw) fun D σ H ⟨Z, F, ρ, r, R, ef, w⟩ => by
  obtain ⟨y, e1, e2⟩ := Option.bind_eq_some_iff.mp ef
  obtain ⟨c, d, hc, hm, e3, rfl⟩ := mutS_some e2
  obtain ⟨a, h1, fa0, za, ow⟩ := R.mine i c hc hm
  unfold extD at e3
  split at e3
  · rename_i xs hg
    split at e3
    · rename_i ys
      split at e3
      · rename_i hb
        cases e3
        rw [hg] at ow
        obtain ⟨vs, g1, g2⟩ := ow
        refine ⟨.ref a, h1, .inl ⟨rfl, vs, .inl (.inl g1)⟩, Z, F, ρ, _, R, e1, fun q F1 H1 x1 R1 fq zq mq ow1 => ?_⟩
        obtain ⟨a', h1', _, _, ow'⟩ := R1.mine i c hc hm
        rw [h1] at h1'
        cases h1'
        rw [hg] at ow'
        obtain ⟨vs', g1', g2'⟩ := ow'
        obtain ⟨ws, k1, k2⟩ := ow1
        have hz : vs'.length + ws.length ≤ sizeLine := by
          rw [g2'.len, k2.len]
          have : (100000 : Nat) ≤ sizeLine := by decide
          omega
        exact ⟨a, q, vs', ws, rfl, rfl, g1', k1, hz, w σ F1 _ rfl x1 (R1.mut hc hm h1 ⟨_, upd_same, g2'.app k2⟩)⟩
      · cases e3
    · cases e3
  · cases e3⟩
theorem sd_aug (hN : X.N.Nodup) (hi : X.N[i]? = some x) (hx : Loc X.env.scope x) (ha : EP' cs X e fa) (hf : X.fn x = true ∨ X.env.scope.names.lookup x = some .local := by first | exact .inl rfl | exact .inr rfl | assumption) :
    SD cs X E (.AugAssign (.Name x p) .Add e pos) (setS i (op2 addI (nmP i) fa)) :=
  ⟨ps_imp (ps_aug hN hi hx ha.h ip_add hf) fun D σ H ⟨Z, F, ρ, r, R, ef, w⟩ => by
  obtain ⟨d, e1, rfl⟩ := Option.map_eq_some_iff.mp ef
  obtain ⟨u, e2, e3⟩ := Option.bind_eq_some_iff.mp e1
  obtain ⟨y, e4, e5⟩ := Option.bind_eq_some_iff.mp e3
  unfold nmP at e2
  split at e2
  · rename_i d' e6
    cases e2
    obtain ⟨v, h1, h2⟩ := R.sh i _ e6
    refine ⟨v, h1, Z, F, ρ, y, R, e4, fun z F1 H1 x1 R1 r1 => ?_⟩
    unfold addI at e5
    split at e5
    · cases e5
      cases h2
      cases r1
      exact ⟨_, _, rfl, rfl, w _ F1 H1 (by rw [List.length_set]) x1 (R1.setSh i (.int _))⟩
    · cases e5
  · cases e2⟩
theorem pg_slc (ho : PE X o to) (hl : PE X lo tl) (hh : PE X hi th)
    (ha : ∀ v, assign (.Subscript o (.Slice (some lo) (some hi) none p2) pos) X.env v = (do
      let ov ← holding [v] (eval o X.env)
      let iv ← holding [v, ov] (eval (.Slice (some lo) (some hi) none p2) X.env)
      standAt pos
      holding [v, ov, iv] (setItem ov iv v)
      release [iv, v, ov] []) := by intro _; rfl) : PG X (.Subscript o (.Slice (some lo) (some hi) none p2) pos) (gSlc to tl th) := by
  refine ⟨fun pins s σ H v u Q I r h => ?_⟩
  rw [ha]
  refine wpAny_bind (wpAny_holding (thn (ho.run pins s σ H _ I h) fun ov s1 ⟨x, H1, I1, r1, q1⟩ => ?_))
  refine wpAny_bind (wpAny_holding (wpAny_Slice ?_))
  rw [evalPart_some, evalPart_some]
  refine thn (hl.run pins s1 σ H1 _ I1 q1) fun vl s2 ⟨yl, H2, I2, r2, q2⟩ => thn (hh.run pins s2 σ H2 _ I2 q2) fun vu s3 ⟨yu, H3, I3, r3, q3⟩ => ?_
  rw [evalPart_none]
  refine wpAny_pure ?_
  obtain ⟨l, b, xs, ys, i, j, rfl, rfl, rfl, rfl, g1, g2, hne, h0, hij, hjl, hz, q⟩ := q3
  have I4 : Inv X pins σ H3 { s3 with heap := s3.heap.push { cls := .type "slice", data := .fields #[vl, vu, .none] } } := I3.kept (t' := s3.toks) fun b ob q => Heap.get?_push_of_some _ q
  cases r1
  cases r
  refine wpAny_bind (wpAny_standAt (wpAny_bind (wpAny_holding (set_slice I4 g1 g2 hne (Heap.IsSliceOf.new ..) r2 r3 h0 hij hjl hz fun s5 I5 => ?_))))
  exact wpAny_release ⟨σ, _, I5, q⟩
theorem sd_slc {spos : Pos} (h : PE X (.Name x p) (tVar i)) (hl : EP' cs X lo fl) (hh : EP' cs X hi fh) (hv : EN cs X e fa)
    (hsub : ∀ v, assign (.Subscript (.Name x p) (.Slice (some lo) (some hi) none p2) spos) X.env v = (do
      let ov ← holding [v] (eval (.Name x p) X.env)
      let iv ← holding [v, ov] (eval (.Slice (some lo) (some hi) none p2) X.env)
      standAt spos
      holding [v, ov, iv] (setItem ov iv v)
      release [iv, v, ov] []) := by intro _; rfl)
    (hs : swapsWithSole [.Subscript (.Name x p) (.Slice (some lo) (some hi) none p2) spos] e pos.line X.env = pure false := by rfl) (hw : swappedStores [.Subscript (.Name x p) (.Slice (some lo) (some hi) none p2) spos] e X.env = pure none := by rfl)
    (h1 : (assignEach [.Subscript (.Name x p) (.Slice (some lo) (some hi) none p2) spos] X.env).map (·.2) = [assign (.Subscript (.Name x p) (.Slice (some lo) (some hi) none p2) spos) X.env] := by rfl) :
    SD cs X E (.Assign [.Subscript (.Name x p) (.Slice (some lo) (some hi) none p2) spos] e pos) (slcS i fl fh fa) :=
  ⟨ps_imp (ps_asg hv.h (pg_slc h hl.h hh.h hsub) hs hw h1) fun D σ H ⟨Z, F, ρ, r, R, ef, w⟩ => by
  obtain ⟨y, e1, e2⟩ := Option.bind_eq_some_iff.mp ef
  obtain ⟨dl, e3, e4⟩ := Option.bind_eq_some_iff.mp e2
  obtain ⟨dh, e5, e6⟩ := Option.bind_eq_some_iff.mp e4
  obtain ⟨c, d, hc, hm, e7, rfl⟩ := mutS_some e6
  unfold slcD at e7
  split at e7
  · rename_i xs hg
    split at e7
    · rename_i a1 a2 ys
      split at e7
      · rename_i hb
        cases e7
        refine ⟨Z, F, ρ, _, R, e1, fun q F1 H1 x1 R1 fq zq mq ow1 => ?_⟩
        obtain ⟨ws, k1, k2⟩ := ow1
        obtain ⟨a, h1, fa0, za, _⟩ := R1.mine i c hc hm
        have hne : a ≠ q := fun z => mq ⟨i, c, hc, hm, by rw [← z]; exact h1⟩
        have R2 := R1.give k1 fq zq mq pl_lst
        refine ⟨.ref a, h1, Z, _, ρ, _, R2, e3, fun u F3 H3 x3 R3 r3 => ⟨Z, F3, ρ, _, R3, e5, fun u2 F4 H4 x4 R4 r4 => ?_⟩⟩
        cases r3
        cases r4
        obtain ⟨a', h1', _, _, ow⟩ := R4.mine i c hc hm
        rw [h1] at h1'
        cases h1'
        rw [hg] at ow
        obtain ⟨vs, g1, g2⟩ := ow
        have x14 := x3.trans x4
        have kq : H4 q = some (.lst ws) := R4.fh q _ (x14 q _ upd_same)
        have k4 : Rps X.K F4 ws ys := k2.ext ((Ext.upd fq).trans x14)
        have hz : vs.length + ws.length ≤ sizeLine := by
          rw [g2.len, k4.len]
          have : (100000 : Nat) ≤ sizeLine := by decide
          omega
        refine ⟨a, q, vs, ws, _, _, rfl, rfl, rfl, rfl, g1, kq, hne, hb.1, hb.2.1, by rw [g2.len]; exact hb.2.2.1, hz, w σ F4 _ rfl ((x1.trans (Ext.upd fq)).trans x14) (R4.mut hc hm h1 ⟨_, upd_same, ?_⟩)⟩
        exact ((g2.take _).app k4).app (g2.drop _)
      · cases e7
    · cases e7
  · cases e7⟩
end

/-! ## reversed(xs) -/
def revV (ds : List D) : Option (List D) := match ds with
  | [.list xs] => some xs.reverse
  | _ => none
theorem i_rev {cs : List Tb} {X : Cx} {tg a : Expr} {p pos : Pos} {fr : Nv → Option (List D)} (hg : Gl X "reversed") (hm : X.mg "reversed" = none) (ha : EPs cs X [a] fr) (hs : starEach [a] X.env = [(false, eval a X.env)] := by rfl) :
    EI cs X AnyP tg (.Call (.Name "reversed" p) [a] [] pos) (fun ρ => (fr ρ).bind revV) :=
  ⟨pi_imp (pi_reversed hg hm ha.h hs) fun σ H R ⟨Z, F, ρ, ds, r, ef, q⟩ => by
    obtain ⟨d, e1, e2⟩ := Option.bind_eq_some_iff.mp ef
    refine ⟨Z, F, ρ, d, r, e1, fun vs F1 H1 x1 R1 r1 => ?_⟩
    unfold revV at e2
    split at e2
    · rename_i xs
      cases e2
      cases r1 with
      | cons t u =>
        cases u
        cases t with
        | lst s t =>
          rename_i a0 vs0
          refine ⟨_, _, rfl, R1.ex.sqL s, ?_⟩
          have hlen := t.len
          refine q _ (fun F _ _ => Ext F1 F) F1 H1 x1 R1 (Ext.refl F1) (fun _ _ _ _ _ p => p) ⟨fun _ _ _ _ x p => p.trans x, fun Z F H σ ρ i x R2 p hi => ?_, fun Z F H σ ρ i R2 p hi => ?_⟩
          · have s2 := R2.ex.sqL (Ext.sqL p s)
            obtain ⟨h2, h3⟩ := List.getElem?_eq_some_iff.mp hi
            rw [List.length_reverse] at h2
            have hx : xs[vs0.length - 1 - i]? = some x := by
              rw [hlen, ← hi, List.getElem?_reverse h2]
            obtain ⟨v, g1, g2⟩ := (t.ext p).get hx
            refine ⟨⟨by omega, _, v, s2, g1⟩, fun y H' ⟨e3, e4⟩ => ?_⟩
            subst e3
            have e5 := e4 _ s2
            rw [g1] at e5
            cases e5
            exact ⟨F, Ext.refl F, R2, g2⟩
          · show vs0.length ≤ i
            rw [List.length_reverse] at hi
            omega
    · cases e2⟩
end DS

namespace DS
open PySem L2

/-! ## runs: what a body comes to -/
def Run (x : Option SR) (φ : SR → Prop) : Prop := ∃ r, x = some r ∧ φ r
/-- behind one turn of a loop -/
def Turn (J : Nv → Prop) (φ : SR → Prop) : SR → Prop
  | .nx ρ => J ρ
  | .ct ρ => J ρ
  | .bk ρ => φ (.nx ρ)
  | .rt d o ρ => φ (.rt d o ρ)
  | .exc c => φ (.exc c)
/-- behind the first of two -/
def Thn (g : Nv → Option SR) (φ : SR → Prop) : SR → Prop
  | .nx ρ => Run (g ρ) φ
  | .ct ρ => φ (.ct ρ)
  | .bk ρ => φ (.bk ρ)
  | .rt d o ρ => φ (.rt d o ρ)
  | .exc c => φ (.exc c)
def Ret (k : Nat) (o : Bool) (ψ : D → Prop) : SR → Prop
  | .rt d o' ρ => o' = o ∧ k ≤ ρ.length ∧ ψ d
  | _ => False
section
variable {φ φ' : SR → Prop} {g g' : Nv → Option SR} {ρ ρ' : Nv} {t : Nv → Option Bool} {f : Nv → Option D} {d : D} {b o : Bool} {ψ : D → Prop} {i k m : Nat} {ds : List D}
theorem Run.imp {x : Option SR} (h : Run x φ) (hi : ∀ r, φ r → φ' r) : Run x φ' := by
  obtain ⟨r, e, q⟩ := h
  exact ⟨r, e, hi r q⟩
theorem run_seq (h : Run (g ρ) (Thn g' φ)) : Run (seqS g g' ρ) φ := by
  obtain ⟨r, e, q⟩ := h
  unfold seqS
  rw [e]
  cases r with
  | nx ρ' => exact q
  | bk ρ' => exact ⟨_, rfl, q⟩
  | ct ρ' => exact ⟨_, rfl, q⟩
  | rt d o ρ' => exact ⟨_, rfl, q⟩
  | exc c => exact ⟨_, rfl, q⟩
theorem run_nx (h : φ (.nx ρ)) : Run ((fun ρ => some (.nx ρ)) ρ) φ := ⟨_, rfl, h⟩
theorem run_set (h : f ρ = some d) (q : φ (.nx (ρ.set i (some (.sh d))))) : Run (setS i f ρ) φ := by
  refine ⟨_, ?_, q⟩
  unfold setS
  rw [h]
  rfl
theorem run_setN (h : f ρ = some d) (q : φ (.nx (ρ.set i (some (.ow d))))) : Run (setN i f ρ) φ := by
  refine ⟨_, ?_, q⟩
  unfold setN
  rw [h]
  rfl
theorem run_if (h : t ρ = some b) (h1 : b = true → Run (g ρ) φ) (h2 : b = false → Run (g' ρ) φ) : Run (ifS t g g' ρ) φ := by
  unfold ifS
  rw [h]
  cases b with
  | true => exact h1 rfl
  | false => exact h2 rfl
theorem run_ret {x : Option D} (h : x = some d) (q : φ (.rt d o ρ)) : Run (x.map fun d => SR.rt d o ρ) φ := ⟨_, by rw [h]; rfl, q⟩
theorem run_putL {fk : Nv → Option D} {c : Cell} {x y : D} (h1 : f ρ = some x) (h2 : fk ρ = some y) (hc : ρ[i]? = some (some c)) (hm : c.mine = true) (h : putLD y x c.got = some d) (q : φ (.nx (ρ.set i (some (c.put d))))) : Run (putLS i fk f ρ) φ := by
  unfold putLS
  rw [h1, Option.bind_some, h2, Option.bind_some]
  unfold mutS
  rw [hc]
  refine ⟨_, ?_, q⟩
  show (if _ then _ else _) = _
  rw [if_pos hm, h]
  rfl
theorem run_slc {fl fh : Nv → Option D} {c : Cell} {x y z : D} (h1 : f ρ = some x) (h2 : fl ρ = some y) (h3 : fh ρ = some z) (hc : ρ[i]? = some (some c)) (hm : c.mine = true) (h : slcD y z x c.got = some d) (q : φ (.nx (ρ.set i (some (c.put d))))) : Run (slcS i fl fh f ρ) φ := by
  unfold slcS
  rw [h1, Option.bind_some, h2, Option.bind_some, h3, Option.bind_some]
  unfold mutS
  rw [hc]
  refine ⟨_, ?_, q⟩
  show (if _ then _ else _) = _
  rw [if_pos hm, h]
  rfl
theorem run_retNm (h : retNm i ρ = some (.rt d o ρ')) (q : φ (.rt d o ρ')) : Run (retNm i ρ) φ := ⟨_, h, q⟩
theorem run_mut {op : D → Option D} {c : Cell} (hc : ρ[i]? = some (some c)) (hm : c.mine = true) (h : op c.got = some d) (q : φ (.nx (ρ.set i (some (c.put d))))) : Run (mutS i op ρ) φ := by
  refine ⟨_, ?_, q⟩
  unfold mutS
  rw [hc]
  show (if _ then _ else _) = _
  rw [if_pos hm, h]
  rfl
theorem run_app {xs : List D} {c : Cell} (h : f ρ = some d) (hc : ρ[i]? = some (some c)) (hm : c.mine = true) (hg : c.got = .list xs) (hl : xs.length < 100000) (q : φ (.nx (ρ.set i (some (c.put (.list (xs ++ [d]))))))) : Run (appS i f ρ) φ := by
  unfold appS
  rw [h]
  refine run_mut hc hm ?_ q
  rw [hg]
  show (if _ then _ else _) = _
  rw [if_pos hl]
theorem run_ext {xs ys : List D} {c : Cell} (h : f ρ = some (.list ys)) (hc : ρ[i]? = some (some c)) (hm : c.mine = true) (hg : c.got = .list xs) (hl : xs.length + ys.length ≤ 100000) (q : φ (.nx (ρ.set i (some (c.put (.list (xs ++ ys))))))) : Run (extS i f ρ) φ := by
  unfold extS
  rw [h]
  refine run_mut hc hm ?_ q
  rw [hg]
  show (if _ then _ else _) = _
  rw [if_pos hl]
theorem run_pop {j : Nat} {xs : List D} {x : D} {c : Cell} (hc : ρ[j]? = some (some c)) (hm : c.mine = true) (hg : c.got = .list (xs ++ [x])) (q : φ (.nx ((ρ.set j (some (c.put (.list xs)))).set i (some (.sh x))))) : Run (setX i (popX j) ρ) φ := by
  refine ⟨_, ?_, q⟩
  unfold setX popX
  rw [hc]
  simp [hm, hg]
theorem run_asg {a : D → Nv → Option Nv} {x : Option D} (h : x = some d) (ha : a d ρ = some ρ') (q : φ (.nx ρ')) : Run (x.bind fun d => (a d ρ).map .nx) φ := ⟨_, by rw [h]; show (a d ρ).map _ = _; rw [ha]; rfl, q⟩
theorem run_asgX {x : Option (D × Nv)} {a : D → Nv → Option Nv} {ρ1 : Nv} (h : x = some (d, ρ1)) (ha : a d ρ1 = some ρ') (q : φ (.nx ρ')) : Run (x.bind fun r => (a r.1 r.2).map .nx) φ := ⟨_, by rw [h]; show (a d ρ1).map _ = _; rw [ha]; rfl, q⟩
theorem run_share (hc : shrS i ρ = some ρ') (q : Run (g ρ') φ) : Run ((fun ρ => (shrS i ρ).bind g) ρ) φ := by
  show Run ((shrS i ρ).bind g) φ
  rw [hc]
  exact q
theorem run_for {a : D → Nv → Option Nv} {x : Option (List D)} (I : Nat → Nv → Prop) (hi : x = some ds) (h0 : I 0 ρ)
    (hs : ∀ j d ρ, ds[j]? = some d → I j ρ → ∃ ρ1, a d ρ = some ρ1 ∧ Run (g ρ1) (Turn (I (j + 1)) φ)) (hd : ∀ ρ', I ds.length ρ' → φ (.nx ρ')) : Run (x.bind fun ds => forS a g ds ρ) φ := by
  rw [hi]
  show Run (forS a g ds ρ) φ
  have key : ∀ (r : List D) (j : Nat) (ρ : Nv), ds.drop j = r → j ≤ ds.length → I j ρ → Run (forS a g r ρ) φ := by
    intro r
    induction r with
    | nil =>
      intro j ρ h1 h2 h3
      have hz := congrArg List.length h1
      rw [List.length_drop, List.length_nil] at hz
      have e : j = ds.length := by omega
      subst e
      exact ⟨_, rfl, hd ρ h3⟩
    | cons d r ih =>
      intro j ρ h1 h2 h3
      have hlt : j < ds.length := by
        have := congrArg List.length h1
        simp at this
        omega
      have e : ds[j]? = some d := by
        rw [List.drop_eq_getElem_cons hlt] at h1
        cases h1
        exact List.getElem?_eq_getElem hlt
      have e2 : ds.drop (j + 1) = r := by
        rw [List.drop_eq_getElem_cons hlt] at h1
        cases h1
        rfl
      obtain ⟨ρ1, q1, r1, q2, q3⟩ := hs j d ρ e h3
      rw [forS, q1]
      show Run ((g ρ1).bind _) φ
      rw [q2]
      cases r1 with
      | nx ρ2 => exact ih (j + 1) ρ2 e2 (by omega) q3
      | ct ρ2 => exact ih (j + 1) ρ2 e2 (by omega) q3
      | bk ρ2 => exact ⟨_, rfl, q3⟩
      | rt d o ρ2 => exact ⟨_, rfl, q3⟩
      | exc c => exact ⟨_, rfl, q3⟩
  exact key ds 0 ρ rfl (Nat.zero_le _) h0
theorem run_while {n : Nat} (I : Nat → Nv → Prop) (h0 : I n ρ) (hs : ∀ n ρ, I n ρ → ∃ b, t ρ = some b ∧ (b = false → φ (.nx ρ)) ∧ (b = true → Run (g ρ) (Turn (fun ρ' => ∃ m, m < n ∧ I m ρ') φ))) : Run (whileC t g ρ) φ := by
  have key : ∀ n ρ, I n ρ → ∃ r, whileS t g (n + 1) ρ = some r ∧ φ r := by
    intro n
    induction n using Nat.strongRecOn with
    | _ n ih =>
      intro ρ h
      obtain ⟨b, e, h1, h2⟩ := hs n ρ h
      rw [whileS, e]
      cases b with
      | false => exact ⟨_, rfl, h1 rfl⟩
      | true =>
        obtain ⟨r, e2, q⟩ := h2 rfl
        show ∃ r, (g ρ).bind _ = some r ∧ φ r
        rw [e2]
        have more : ∀ ρ', (∃ m, m < n ∧ I m ρ') → ∃ r, whileS t g n ρ' = some r ∧ φ r := fun ρ' ⟨m, hm, hI⟩ => by
          obtain ⟨r, q1, q2⟩ := ih m hm ρ' hI
          exact ⟨r, whileS_up q1 n (by omega), q2⟩
        cases r with
        | nx ρ' => exact more ρ' q
        | ct ρ' => exact more ρ' q
        | bk ρ' => exact ⟨_, rfl, q⟩
        | rt d o ρ' => exact ⟨_, rfl, q⟩
        | exc c => exact ⟨_, rfl, q⟩
  obtain ⟨r, e, q⟩ := key n ρ h0
  exact ⟨r, whileC_is e, q⟩
theorem sem_of (hk : ds.length = k) (h : Run (g (shs ds m)) (Ret k o ψ)) : ∃ d, semR k m g ds = some (.ret d o []) ∧ ψ d := by
  obtain ⟨r, e, q⟩ := h
  cases r with
  | rt d o' ρ =>
    obtain ⟨rfl, h1, h2⟩ := q
    refine ⟨d, ?_, h2⟩
    unfold semR
    rw [if_pos hk, e]
    show (if _ then _ else _) = _
    rw [if_pos h1]
  | nx ρ => exact q.elim
  | bk ρ => exact q.elim
  | ct ρ => exact q.elim
  | exc c => exact q.elim
theorem sem_eq (hk : ds.length = k) (h : Run (g (shs ds m)) (Ret k o (· = d))) : semR k m g ds = some (.ret d o []) := by
  obtain ⟨d', e, rfl⟩ := sem_of hk h
  exact e
theorem ret_ok {ρ : Nv} (hk : k ≤ ρ.length) (h : ψ d) : Ret k o ψ (.rt d o ρ) := ⟨rfl, hk, h⟩
theorem thn_rt (h : φ (.rt d o ρ)) : Thn g φ (.rt d o ρ) := h
theorem turn_rt {J : Nv → Prop} (h : φ (.rt d o ρ)) : Turn J φ (.rt d o ρ) := h
/-! ### the same, with what follows -/
theorem rs_set (h : f ρ = some d) (q : Run (g' (ρ.set i (some (.sh d)))) φ) : Run (seqS (setS i f) g' ρ) φ := run_seq (run_set h q)
theorem rs_setN (h : f ρ = some d) (q : Run (g' (ρ.set i (some (.ow d)))) φ) : Run (seqS (setN i f) g' ρ) φ := run_seq (run_setN h q)
/-- if t: leaves; the rest -/
theorem rs_if (h : t ρ = some b) (h1 : b = true → Run (g ρ) (Thn g' φ)) (h2 : b = false → Run (g' ρ) φ) : Run (seqS (ifS t g (fun ρ => some (.nx ρ))) g' ρ) φ :=
  run_seq (run_if h h1 fun z => run_nx (h2 z))
theorem rs_ifs {g1 g2 : Nv → Option SR} (h : t ρ = some b) (h1 : b = true → Run (g1 ρ) (Thn g' φ)) (h2 : b = false → Run (g2 ρ) (Thn g' φ)) : Run (seqS (ifS t g1 g2) g' ρ) φ :=
  run_seq (run_if h h1 h2)
theorem rs_while {n : Nat} (I : Nat → Nv → Prop) (h0 : I n ρ) (hs : ∀ n ρ, I n ρ → ∃ b, t ρ = some b ∧ (b = false → Run (g' ρ) φ) ∧ (b = true → Run (g ρ) (Turn (fun ρ' => ∃ m, m < n ∧ I m ρ') (Thn g' φ)))) : Run (seqS (whileC t g) g' ρ) φ :=
  run_seq (run_while I h0 hs)
theorem rs_for {a : D → Nv → Option Nv} {it : Nv → Option (List D)} (I : Nat → Nv → Prop) (hi : it ρ = some ds) (h0 : I 0 ρ)
    (hs : ∀ j d ρ, ds[j]? = some d → I j ρ → ∃ ρ1, a d ρ = some ρ1 ∧ Run (g ρ1) (Turn (I (j + 1)) (Thn g' φ))) (hd : ∀ ρ', I ds.length ρ' → Run (g' ρ') φ) : Run (seqS (fun ρ => (it ρ).bind fun ds => forS a g ds ρ) g' ρ) φ :=
  run_seq (run_for I hi h0 hs hd)
theorem rs_app {xs : List D} {c : Cell} (h : f ρ = some d) (hc : ρ[i]? = some (some c)) (hm : c.mine = true) (hg : c.got = .list xs) (hl : xs.length < 100000) (q : Run (g' (ρ.set i (some (c.put (.list (xs ++ [d])))))) φ) : Run (seqS (appS i f) g' ρ) φ := run_seq (run_app h hc hm hg hl q)
theorem rs_pop {j : Nat} {xs : List D} {x : D} {c : Cell} (hc : ρ[j]? = some (some c)) (hm : c.mine = true) (hg : c.got = .list (xs ++ [x])) (q : Run (g' ((ρ.set j (some (c.put (.list xs)))).set i (some (.sh x)))) φ) : Run (seqS (setX i (popX j)) g' ρ) φ := run_seq (run_pop hc hm hg q)
theorem rs_asg {a : D → Nv → Option Nv} (h : f ρ = some d) (ha : a d ρ = some ρ') (q : Run (g' ρ') φ) : Run (seqS (fun ρ => (f ρ).bind fun d => (a d ρ).map .nx) g' ρ) φ := run_seq (run_asg h ha q)
theorem rs_asgX {fx : Nv → Option (D × Nv)} {a : D → Nv → Option Nv} {ρ1 : Nv} (h : fx ρ = some (d, ρ1)) (ha : a d ρ1 = some ρ') (q : Run (g' ρ') φ) : Run (seqS (fun ρ => (fx ρ).bind fun r => (a r.1 r.2).map .nx) g' ρ) φ := run_seq (run_asgX h ha q)
end

/-! ## comprehensions -/
section
variable {ρ : Nv} {t : Nv → Option Bool} {f : Nv → Option D} {fi : Nv → Option (List D)} {i : Nat} {ds : List D} {p : D → Bool} {F : D → D}
theorem lcD_fm : ∀ ds : List D, (∀ x ∈ ds, t (ρ.set i (some (.sh x))) = some (p x)) → (∀ x ∈ ds, p x = true → f (ρ.set i (some (.sh x))) = some (F x)) → lcD i t f ρ ds = some ((ds.filter p).map F)
  | [], _, _ => rfl
  | x :: r, h1, h2 => by
    have ih := lcD_fm r (fun z hz => h1 z (List.mem_cons_of_mem _ hz)) fun z hz => h2 z (List.mem_cons_of_mem _ hz)
    rw [lcD]
    show (t (ρ.set i (some (.sh x)))).bind _ = _
    rw [h1 x List.mem_cons_self]
    show (if p x = true then _ else _) = _
    by_cases hp : p x = true
    · rw [if_pos hp, h2 x List.mem_cons_self hp]
      show (lcD i t f ρ r).map _ = _
      rw [ih, List.filter_cons_of_pos hp]
      rfl
    · rw [if_neg hp, ih, List.filter_cons_of_neg hp]
theorem lcV_fm (p : D → Bool) (F : D → D) (hi : fi ρ = some ds) (hn : noMine ρ i = true) (hl : ds.length ≤ 100000) (h1 : ∀ x ∈ ds, t (ρ.set i (some (.sh x))) = some (p x)) (h2 : ∀ x ∈ ds, p x = true → f (ρ.set i (some (.sh x))) = some (F x)) : lcV i fi t f ρ = some (.list ((ds.filter p).map F)) := by
  unfold lcV
  rw [hi]
  show (if _ then _ else _) = _
  rw [if_pos ⟨hn, hl⟩, lcD_fm ds h1 h2]
  rfl
theorem lcV_map (F : D → D) (hi : fi ρ = some ds) (hn : noMine ρ i = true) (hl : ds.length ≤ 100000) (h : ∀ x ∈ ds, f (ρ.set i (some (.sh x))) = some (F x)) : lcV i fi (fun _ => some true) f ρ = some (.list (ds.map F)) := by
  rw [lcV_fm (fun _ => true) F hi hn hl (fun _ _ => rfl) fun x hx _ => h x hx, List.filter_eq_self.mpr fun _ _ => rfl]
end

/-! ## small evaluations -/
theorem eqv_int (i j : Int) : PyData.eqv (.int i) (.int j) = decide (i = j) := by
  rw [PyData.eqv]
  rfl
theorem eqv_str (x y : Str) : PyData.eqv (.str x) (.str y) = decide (x = y) := by
  rw [PyData.eqv]
  rfl
theorem eqD_int (i j : Int) : eqD (.int i) (.int j) = some (.bool (decide (i = j))) := by
  unfold eqD
  rw [if_pos ⟨shaped_int, shaped_int⟩, eqv_int]
theorem neD_int (i j : Int) : neD (.int i) (.int j) = some (.bool (!decide (i = j))) := by
  unfold neD
  rw [if_pos ⟨shaped_int, shaped_int⟩, eqv_int]
/-- a text that is fit to be compared -/
def TxOk (x : Str) : Prop := x.length ≤ 100000 ∧ PyData.strOk x = true
theorem TxOk.shaped {x : Str} (h : TxOk x) : SeqAt.shaped (.str x) = true := shaped_str h.1 h.2
theorem TxOk.fine {x : Str} (h : TxOk x) (n : Nat) : fine n (.str x) = true := fine_str h.1 (strOk_all.mp h.2)
theorem eqD_str {x y : Str} (h1 : TxOk x) (h2 : TxOk y) : eqD (.str x) (.str y) = some (.bool (decide (x = y))) := by
  unfold eqD
  rw [if_pos ⟨h1.shaped, h2.shaped⟩, eqv_str]
theorem neD_str {x y : Str} (h1 : TxOk x) (h2 : TxOk y) : neD (.str x) (.str y) = some (.bool (!decide (x = y))) := by
  unfold neD
  rw [if_pos ⟨h1.shaped, h2.shaped⟩, eqv_str]
theorem callS_of {ρ : Nv} {k : Nat} {sem : List D → Option Ou} {fr : Nv → Option (List D)} {ds os : List D} {d : D} {o : Bool} (h : fr ρ = some ds) (e : sem ds = some (.ret d o os)) (hk : ds.length = k := by rfl) : callS k sem fr ρ = some d := by
  unfold callS
  rw [h]
  show (if _ then _ else _) = _
  rw [if_pos hk, e]
theorem callO_of {ρ : Nv} {k : Nat} {sem : List D → Option Ou} {fr : Nv → Option (List D)} {ds os : List D} {d : D} (h : fr ρ = some ds) (e : sem ds = some (.ret d true os)) (hk : ds.length = k := by rfl) : callO k sem fr ρ = some d := by
  unfold callO
  rw [h]
  show (if _ then _ else _) = _
  rw [if_pos hk, e]
theorem orT_of {ga gb : Nv → Option Bool} {ρ : Nv} {a b : Bool} (h1 : ga ρ = some a) (h2 : a = false → gb ρ = some b) : orT ga gb ρ = some (a || b) := by
  unfold orT
  rw [h1]
  cases a with
  | true => rfl
  | false => exact h2 rfl
theorem andT_of {ga gb : Nv → Option Bool} {ρ : Nv} {a b : Bool} (h1 : ga ρ = some a) (h2 : a = true → gb ρ = some b) : andT ga gb ρ = some (a && b) := by
  unfold andT
  rw [h1]
  cases a with
  | false => rfl
  | true => exact h2 rfl
theorem andV_of {fa fb : Nv → Option D} {ρ : Nv} {a b : Bool} (h1 : fa ρ = some (.bool a)) (h2 : a = true → fb ρ = some (.bool b)) : andV fa fb ρ = some (.bool (a && b)) := by
  unfold andV
  rw [h1]
  cases a with
  | false => rfl
  | true => exact h2 rfl
theorem orV_of {fa fb : Nv → Option D} {ρ : Nv} {a b : Bool} (h1 : fa ρ = some (.bool a)) (h2 : a = false → fb ρ = some (.bool b)) : orV fa fb ρ = some (.bool (a || b)) := by
  unfold orV
  rw [h1]
  cases a with
  | true => rfl
  | false => exact h2 rfl
theorem notT_of {ga : Nv → Option Bool} {ρ : Nv} {a : Bool} (h : ga ρ = some a) : notT ga ρ = some (!a) := by
  unfold notT
  rw [h]
  rfl
theorem mkT_of {fr : Nv → Option (List D)} {ρ : Nv} {xs : List D} (h : fr ρ = some xs) (hl : xs.length ≤ 100000 := by exact Nat.le_of_ble_eq_true rfl) : mkT fr ρ = some (.tuple xs) := by
  unfold mkT
  rw [h, Option.bind_some, if_pos hl]
theorem mkL_of {fr : Nv → Option (List D)} {ρ : Nv} {xs : List D} (h : fr ρ = some xs) (hl : xs.length ≤ 100000 := by exact Nat.le_of_ble_eq_true rfl) : mkL fr ρ = some (.list xs) := by
  unfold mkL
  rw [h, Option.bind_some, if_pos hl]
theorem trT_of {x : Option D} {d : D} {b : Bool} (h : x = some d) (e : truD d = some b) : x.bind truD = some b := by
  rw [h]
  exact e
theorem ch3_of {g g' : D → D → Option D} {fa fb fc : Nv → Option D} {ρ : Nv} {x y z : D} {a b : Bool} (h1 : fa ρ = some x) (h2 : fb ρ = some y) (h3 : fc ρ = some z) (e1 : g x y = some (.bool a)) (e2 : g' y z = some (.bool b)) : ch3 g g' fa fb fc ρ = some (.bool (a && b)) := by
  unfold ch3
  rw [h1, Option.bind_some, h2, Option.bind_some, e1, Option.bind_some]
  cases a with
  | false => rfl
  | true =>
    show (fc ρ).bind _ = _
    rw [h3]
    exact e2
/-! ### over lists of things -/
section
variable {α : Type} {ρ : Nv} {t : Nv → Option Bool} {f : Nv → Option D} {fi : Nv → Option (List D)} {i : Nat}
theorem lcD_of (q : α → D) (p : α → Bool) (F : α → D) : ∀ xs : List α, (∀ x ∈ xs, t (ρ.set i (some (.sh (q x)))) = some (p x)) → (∀ x ∈ xs, p x = true → f (ρ.set i (some (.sh (q x)))) = some (F x)) → lcD i t f ρ (xs.map q) = some ((xs.filter p).map F)
  | [], _, _ => rfl
  | x :: r, h1, h2 => by
    have ih := lcD_of q p F r (fun z hz => h1 z (List.mem_cons_of_mem _ hz)) fun z hz => h2 z (List.mem_cons_of_mem _ hz)
    rw [List.map_cons, lcD]
    show (t (ρ.set i (some (.sh (q x))))).bind _ = _
    rw [h1 x List.mem_cons_self]
    show (if p x = true then _ else _) = _
    by_cases hp : p x = true
    · rw [if_pos hp, h2 x List.mem_cons_self hp]
      show (lcD i t f ρ (r.map q)).map _ = _
      rw [ih, List.filter_cons_of_pos hp]
      rfl
    · rw [if_neg hp, ih, List.filter_cons_of_neg hp]
theorem lcV_of (xs : List α) (q : α → D) (p : α → Bool) (F : α → D) (hi : fi ρ = some (xs.map q)) (hn : noMine ρ i = true) (hl : xs.length ≤ 100000) (h1 : ∀ x ∈ xs, t (ρ.set i (some (.sh (q x)))) = some (p x)) (h2 : ∀ x ∈ xs, p x = true → f (ρ.set i (some (.sh (q x)))) = some (F x)) : lcV i fi t f ρ = some (.list ((xs.filter p).map F)) := by
  unfold lcV
  rw [hi]
  show (if _ then _ else _) = _
  rw [if_pos ⟨hn, by rw [List.length_map]; exact hl⟩, lcD_of q p F xs h1 h2]
  rfl
theorem lcV_to (xs : List α) (q : α → D) (F : α → D) (hi : fi ρ = some (xs.map q)) (hn : noMine ρ i = true) (hl : xs.length ≤ 100000) (h : ∀ x ∈ xs, f (ρ.set i (some (.sh (q x)))) = some (F x)) : lcV i fi (fun _ => some true) f ρ = some (.list (xs.map F)) := by
  rw [lcV_of xs q (fun _ => true) F hi hn hl (fun _ _ => rfl) fun x hx _ => h x hx, List.filter_eq_self.mpr fun _ _ => rfl]
theorem rs_forOf {φ : SR → Prop} {g g' : Nv → Option SR} {a : D → Nv → Option Nv} (xs : List α) (q : α → D) (I : List α → Nv → Prop) (hi : fi ρ = some (xs.map q)) (h0 : I [] ρ)
    (hs : ∀ ys x r ρ, xs = ys ++ x :: r → I ys ρ → ∃ ρ1, a (q x) ρ = some ρ1 ∧ Run (g ρ1) (Turn (I (ys ++ [x])) (Thn g' φ))) (hd : ∀ ρ', I xs ρ' → Run (g' ρ') φ) : Run (seqS (fun ρ => (fi ρ).bind fun ds => forS a g ds ρ) g' ρ) φ := by
  refine rs_for (fun j ρ => I (xs.take j) ρ) hi h0 (fun j d ρ hd hI => ?_) (fun ρ' h => hd ρ' ?_)
  · rw [List.getElem?_map] at hd
    obtain ⟨x, hx, rfl⟩ := Option.map_eq_some_iff.mp hd
    obtain ⟨hj, hx'⟩ := List.getElem?_eq_some_iff.mp hx
    subst hx'
    have e : xs = xs.take j ++ xs[j] :: xs.drop (j + 1) := by rw [← List.drop_eq_getElem_cons hj, List.take_append_drop]
    obtain ⟨ρ1, h1, h2⟩ := hs _ _ _ ρ e hI
    refine ⟨ρ1, h1, ?_⟩
    rw [List.take_add_one, List.getElem?_eq_getElem hj]
    exact h2
  · rw [List.length_map, List.take_length] at h
    exact h
theorem run_forOf {φ : SR → Prop} {g : Nv → Option SR} {a : D → Nv → Option Nv} {x : Option (List D)} (xs : List α) (q : α → D) (I : List α → Nv → Prop) (hi : x = some (xs.map q)) (h0 : I [] ρ)
    (hs : ∀ ys x r ρ, xs = ys ++ x :: r → I ys ρ → ∃ ρ1, a (q x) ρ = some ρ1 ∧ Run (g ρ1) (Turn (I (ys ++ [x])) φ)) (hd : ∀ ρ', I xs ρ' → φ (.nx ρ')) : Run (x.bind fun ds => forS a g ds ρ) φ := by
  refine run_for (fun j ρ => I (xs.take j) ρ) hi h0 (fun j d ρ hd hI => ?_) (fun ρ' h => hd ρ' ?_)
  · rw [List.getElem?_map] at hd
    obtain ⟨x, hx, rfl⟩ := Option.map_eq_some_iff.mp hd
    obtain ⟨hj, hx'⟩ := List.getElem?_eq_some_iff.mp hx
    subst hx'
    have e : xs = xs.take j ++ xs[j] :: xs.drop (j + 1) := by rw [← List.drop_eq_getElem_cons hj, List.take_append_drop]
    obtain ⟨ρ1, h1, h2⟩ := hs _ _ _ ρ e hI
    refine ⟨ρ1, h1, ?_⟩
    rw [List.take_add_one, List.getElem?_eq_getElem hj]
    exact h2
  · rw [List.length_map, List.take_length] at h
    exact h
end
/-! ### texts put together -/
theorem join_strs (ss : List Str) : (Txt.join (⟨#[]⟩ : Str) ss).cps.toList = ss.flatMap (·.cps.toList) := by
  show (Builtin.Str.glued _ _).cps.toList = _
  rw [StrLaws.glued_eq_join]
  induction ss with
  | nil => rfl
  | cons c r ih =>
    match r, ih with
    | [], _ => simp [Str.join]
    | d :: r, ih =>
      show ((Str.append (Str.append c (⟨#[]⟩ : Str)) (Str.join ⟨#[]⟩ (d :: r))).cps).toList = _
      simp only [Str.append, Array.toList_append, ih]
      simp
theorem strs_of : ∀ ss : List Str, strsD (ss.map .str) = some ss
  | [] => rfl
  | c :: r => by
    show (strsD (r.map PyData.str)).map _ = _
    rw [strs_of r]
    rfl
theorem joinD_of (ss : List Str) (h : (ss.map (·.length)).sum ≤ 100000) : ∃ t : Str, joinD (.str ⟨#[]⟩) (.list (ss.map .str)) = some (.str t) ∧ t.cps.toList = ss.flatMap (·.cps.toList) := by
  refine ⟨_, ?_, join_strs ss⟩
  show (strsD (ss.map PyData.str)).bind _ = _
  rw [strs_of]
  show (if _ then _ else _) = _
  rw [if_pos]
  show _ + _ * 0 ≤ 100000
  omega
theorem str_ext {x y : Str} (h : x.cps.toList = y.cps.toList) : x = y := by
  obtain ⟨⟨a⟩⟩ := x
  obtain ⟨⟨b⟩⟩ := y
  have : a = b := h
  rw [this]
end DS

namespace PySem.SeqAt
open AutoSeq1 (wpAny_loadPart')
open MeetsSeq MeetsSeq2 MeetsSeq3 SeqRoads2
/-! ## a dict and a text -/
section
variable (a : Addr) (b : Str) (u : Tok) (dd : Option Addr) (es : Array DictEntry) (ep : Nat) (sl : Array (Option Value))
theorem ds_dict_eq_str : Meets (Builtin.«dict.__eq__» ⟨[.ref a, .str b u], []⟩) (fun _ R s => s.heap.get? a = some { cls := .type "dict", dict := dd, data := .dict es ep, slots := sl } ∧ R (.ok (.ret .notImplemented)) s) :=
  .of_wp fun prog w A R s h => by obtain ⟨hp, g, d, tk, os⟩ := s; obtain ⟨hl, h⟩ := h; have f1 := F.sub_str_dict; wp_walk using wpAny_loadPart' hl, wpAny_load hl; exact ⟨_, rfl, h⟩
theorem ds_dict_ne_str : Meets (Builtin.«dict.__ne__» ⟨[.ref a, .str b u], []⟩) (fun _ R s => s.heap.get? a = some { cls := .type "dict", dict := dd, data := .dict es ep, slots := sl } ∧ R (.ok (.ret .notImplemented)) s) :=
  .of_wp fun prog w A R s h => by obtain ⟨hp, g, d, tk, os⟩ := s; obtain ⟨hl, h⟩ := h; have f1 := F.sub_str_dict; wp_walk using wpAny_loadPart' hl, wpAny_load hl; exact ⟨_, rfl, h⟩
theorem ds_str_eq_dict : Meets (Builtin.«str.__eq__» ⟨[.str b u, .ref a], []⟩) (fun _ R s => s.heap.get? a = some { cls := .type "dict", dict := dd, data := .dict es ep, slots := sl } ∧ R (.ok (.ret .notImplemented)) s) :=
  .of_wp fun prog w A R s h => by obtain ⟨hp, g, d, tk, os⟩ := s; obtain ⟨hl, h⟩ := h; wp_walk using wpAny_loadPart' hl, wpAny_load hl; exact ⟨_, rfl, h⟩
theorem ds_str_ne_dict : Meets (Builtin.«str.__ne__» ⟨[.str b u, .ref a], []⟩) (fun _ R s => s.heap.get? a = some { cls := .type "dict", dict := dd, data := .dict es ep, slots := sl } ∧ R (.ok (.ret .notImplemented)) s) :=
  .of_wp fun prog w A R s h => by obtain ⟨hp, g, d, tk, os⟩ := s; obtain ⟨hl, h⟩ := h; wp_walk using wpAny_loadPart' hl, wpAny_load hl; exact ⟨_, rfl, h⟩
end
def DsDict (s : Shared) (a : Addr) : Prop := ∃ o es ep, s.heap.get? a = some o ∧ o.cls = .type "dict" ∧ o.data = .dict es ep
section
variable {A : Around} {s : Shared} {a : Addr}
theorem ds_rc_dict_str (hd : DsDict s a) (b : Str) (u : Tok) (hu : A.units < cLine) : RcAt A s (.ref a) (.str b u) false := fun prog w E Q h => by
  obtain ⟨⟨cls, dd, data, sl⟩, es, ep, ho, hc, hd⟩ := hd
  simp only at hc hd
  subst hc hd
  exact rc_eq_decline_or (k := false) ⟨_, ho, rfl⟩ (typeIs_str s b u) (by decide) F.sub_str_dict F.slot_dict_eq F.slot_str_eq_refl
    (fun _ hq => call_meets F.slot_dict_eq ⟨_, ho, rfl⟩ F.entry_dict_eq (F.args_dict_eq_2 _ _) (ds_dict_eq_str a b u dd es ep sl) ⟨ho, hq⟩)
    (fun _ hq => call_meets F.slot_str_eq_refl (typeIs_str s b u) F.entry_str_eq (F.args_str_eq_2 _ _) (ds_str_eq_dict a b u dd es ep sl) ⟨ho, hq⟩)
    (fun _ hq => wpAny_of_eq (rfl : isSame (.ref a) (.str b u) = pure false) hq) (.inr hu) h
theorem ds_rc_str_dict (hd : DsDict s a) (b : Str) (u : Tok) (hu : A.units < cLine) : RcAt A s (.str b u) (.ref a) false := fun prog w E Q h => by
  obtain ⟨⟨cls, dd, data, sl⟩, es, ep, ho, hc, hd⟩ := hd
  simp only at hc hd
  subst hc hd
  exact rc_eq_decline_or (k := false) (typeIs_str s b u) ⟨_, ho, rfl⟩ (by decide) F.sub_dict_str F.slot_str_eq F.slot_dict_eq_refl
    (fun _ hq => call_meets F.slot_str_eq (typeIs_str s b u) F.entry_str_eq (F.args_str_eq_2 _ _) (ds_str_eq_dict a b u dd es ep sl) ⟨ho, hq⟩)
    (fun _ hq => call_meets F.slot_dict_eq_refl ⟨_, ho, rfl⟩ F.entry_dict_eq (F.args_dict_eq_2 _ _) (ds_dict_eq_str a b u dd es ep sl) ⟨ho, hq⟩)
    (fun _ hq => wpAny_of_eq (rfl : isSame (.str b u) (.ref a) = pure false) hq) (.inr hu) h
theorem ds_ne_dict_str (hd : DsDict s a) (b : Str) (u : Tok) (hu : A.units < cLine) : RcNeAt A s (.ref a) (.str b u) true := fun prog w E Q h => by
  obtain ⟨⟨cls, dd, data, sl⟩, es, ep, ho, hc, hd⟩ := hd
  simp only at hc hd
  subst hc hd
  exact rc_ne_decline_or (k := false) ⟨_, ho, rfl⟩ (typeIs_str s b u) (by decide) F.sub_str_dict F.slot_dict_ne F.slot_str_ne_refl
    (fun _ hq => call_meets F.slot_dict_ne ⟨_, ho, rfl⟩ F.entry_dict_ne (F.args_dict_ne_2 _ _) (ds_dict_ne_str a b u dd es ep sl) ⟨ho, hq⟩)
    (fun _ hq => call_meets F.slot_str_ne_refl (typeIs_str s b u) F.entry_str_ne (F.args_str_ne_2 _ _) (ds_str_ne_dict a b u dd es ep sl) ⟨ho, hq⟩)
    (fun _ hq => wpAny_of_eq (rfl : isSame (.ref a) (.str b u) = pure false) hq) (.inr hu) h
theorem ds_eq_str_dict (hd : DsDict s a) (b : Str) (u : Tok) (hu : A.units < cLine) : EqAt A s (.str b u) (.ref a) false := fun prog w E Q h => by
  unfold eqBool
  refine wpAny_holding ?_
  refine wpAny_ite_split (fun hab => absurd (eq_of_beq hab) nofun) (fun _ => ?_)
  exact wpAny_bind (ds_rc_str_dict hd b u hu prog w E _ (wpAny_truthy_bool h))
end
end PySem.SeqAt
namespace DS
open PySem L2

/-! ## == where dicts lie within: an empty one and a text, or the same data -/
def eqQ (x y : D) : Option Bool := if SeqAt.shaped x = true ∧ SeqAt.shaped y = true then some (PyData.eqv x y) else match x, y with
  | .str _, .dict [] => some false
  | _, _ => none
def eqQs : List D → List D → Option Bool
  | [], [] => some true
  | x :: xs, y :: ys => (eqQ x y).bind fun b => (eqQs xs ys).map fun c => b && c
  | _, _ => some false
def eqR (x y : D) : Option Bool := if SeqAt.shaped x = true ∧ SeqAt.shaped y = true then some (PyData.eqv x y) else match x, y with
  | .str _, .dict [] => some false
  | .tuple xs, .tuple ys => eqQs xs ys
  | _, _ => none
def anyR (d : D) : List D → Option Bool
  | [] => some false
  | z :: r => (eqR z d).bind fun b => (anyR d r).map fun c => b || c
def inR (x y : D) : Option Bool := match y with
  | .list ds => if SeqAt.shaped (.list ds) = true then anyR x ds else none
  | .tuple ds => if SeqAt.shaped (.tuple ds) = true then anyR x ds else none
  | _ => none
def inRD (x y : D) : Option D := (inR x y).map .bool
def ninRD (x y : D) : Option D := (inR x y).map fun b => .bool (!b)
def neRD (x y : D) : Option D := if SeqAt.shaped x = true ∧ SeqAt.shaped y = true then some (.bool (!PyData.eqv x y)) else match x, y with
  | .dict [], .str _ => some (.bool true)
  | _, _ => none
/-- data that is itself at any place -/
def selfOk : Nat → D → Bool
  | _, .none => true
  | _, .bool _ => true
  | _, .int _ => true
  | _, .str x => PyData.strOk x
  | _, .dict es => es.isEmpty
  | n + 1, .list ds => ds.all (selfOk n)
  | n + 1, .tuple ds => ds.all (selfOk n)
  | 0, .list _ => false
  | 0, .tuple _ => false
open Classical in
noncomputable def eqXD (x y : D) : Option D := if SeqAt.shaped x = true ∧ SeqAt.shaped y = true then some (.bool (PyData.eqv x y)) else match x, y with
  | .dict [], .str _ => some (.bool false)
  | .list xs, y => if y = .list xs ∧ xs.all (selfOk 20) = true then some (.bool true) else none
  | _, _ => none
section
variable {X : Cx} {pins : List (Addr × Obj)} {σ : L2.St} {F H : Hp} {s : Shared}
theorem rd_dict (I : Inv X pins σ H s) {v : V} {u : Value} {es : List (D × D)} (r : Rp X.K H v (.dict es)) (he : es = []) (ru : RelV v u) : ∃ a, u = .ref a ∧ (a == sysModules) = false ∧ s.heap.DictOf (mixKind X.prog X.w) a [] := by
  generalize hd : PyData.dict es = d at r
  cases r with
  | dK rd _ =>
    rename_i kvs _
    rw [he] at hd
    have hk : kvs = [] := by
      injection hd with hd
      simpa using hd.symm
    subst hk
    cases ru
    obtain ⟨_, h2, vs, h3, h4⟩ := dk_rd I.hok rd
    cases h3
    exact ⟨_, rfl, h2, h4⟩
  | dT _ en hn =>
    rw [he] at hd
    injection hd with hd
    subst hd
    cases en
    exact absurd rfl hn
  | _ => cases hd
theorem ds_dict (I : Inv X pins σ H s) {v : V} {u : Value} (r : Rp X.K H v (.dict [])) (ru : RelV v u) : ∃ a, u = .ref a ∧ SeqAt.DsDict s a := by
  obtain ⟨a, rfl, _, o, es, ep, h1, h2, h3, _⟩ := rd_dict I r rfl ru
  exact ⟨a, rfl, o, es, ep, h1, h2.1, h3⟩
theorem rd_str {v : V} {u : Value} {x : Str} (r : Rp X.K H v (.str x)) (ru : RelV v u) : ∃ t, u = .str x t := by
  cases r
  exact ru
theorem rd_shaped (I : Inv X pins σ H s) {v : V} {u : Value} {d : D} (r : Rp X.K H v d) (hs : SeqAt.shaped d = true) (ru : RelV v u) : ∃ as, Reads s.heap u d as := Dp.reads I d v u (r.dp (shp hs)) ru
theorem eqQ_at (I : Inv X pins σ H s) {v w : V} {a b : Value} {x y : D} {k : Bool} {A : Around} (hu : A.units + 64 < cLine) (r1 : Rp X.K H v x) (r2 : Rp X.K H w y) (ra : RelV v a) (rb : RelV w b) (h : eqQ x y = some k) : SeqAt.EqAt A s a b k := by
  unfold eqQ at h
  split at h
  · rename_i hc
    cases h
    obtain ⟨as, q1⟩ := rd_shaped I r1 hc.1 ra
    obtain ⟨bs, q2⟩ := rd_shaped I r2 hc.2 rb
    exact SeqAt.eqAt_reads x y A s a b as bs q1 q2 (shp hc.1) (shp hc.2) (SeqAt.room_of_shaped hc.1 hu)
  · split at h
    · cases h
      obtain ⟨t, rfl⟩ := rd_str r1 ra
      obtain ⟨c, rfl, hd⟩ := ds_dict I r2 rb
      exact SeqAt.ds_eq_str_dict hd _ t (by omega)
    · cases h
theorem eqQs_at : ∀ {xs ys : List D} {k : Bool}, eqQs xs ys = some k → ∃ e : Nat → Bool, (∀ j x y, xs[j]? = some x → ys[j]? = some y → eqQ x y = some (e j)) ∧ ((List.range (min xs.length ys.length)).all e && xs.length == ys.length) = k
  | [], [], k, h => by
    cases h
    exact ⟨fun _ => true, fun j x y h => by simp at h, rfl⟩
  | [], y :: ys, k, h => by
    cases h
    exact ⟨fun _ => true, fun j x y h => by simp at h, rfl⟩
  | x :: xs, [], k, h => by
    cases h
    exact ⟨fun _ => true, fun j x y _ h => by simp at h, rfl⟩
  | x :: xs, y :: ys, k, h => by
    obtain ⟨b, h1, h2⟩ := Option.bind_eq_some_iff.mp h
    obtain ⟨c, h3, rfl⟩ := Option.map_eq_some_iff.mp h2
    obtain ⟨e, q1, q2⟩ := eqQs_at h3
    refine ⟨fun j => match j with | 0 => b | j + 1 => e j, fun j x' y' g1 g2 => ?_, ?_⟩
    · cases j with
      | zero =>
        cases g1
        cases g2
        exact h1
      | succ j => exact q1 j x' y' (by simpa using g1) (by simpa using g2)
    · rw [← q2]
      have hm : min (x :: xs).length (y :: ys).length = min xs.length ys.length + 1 := by simp only [List.length_cons]; omega
      rw [hm, List.range_succ_eq_map, List.all_cons, List.all_map]
      simp only [List.length_cons, Bool.and_assoc]
      congr 1
      congr 1
      · simp
theorem eqQ_same (I : Inv X pins σ H s) {v w : V} {u : Value} {x y : D} {k : Bool} (r1 : Rp X.K H v x) (r2 : Rp X.K H w y) (ra : RelV v u) (rb : RelV w u) (h : eqQ x y = some k) : k = true := by
  unfold eqQ at h
  split at h
  · rename_i hc
    cases h
    obtain ⟨as, q1⟩ := rd_shaped I r1 hc.1 ra
    obtain ⟨bs, q2⟩ := rd_shaped I r2 hc.2 rb
    have e := SeqAt.Reads.unique x y u as bs (shp hc.1) q1 q2
    rw [← e]
    exact SeqAt.eqv_refl x (shp hc.1)
  · split at h
    · obtain ⟨t, e1⟩ := rd_str r1 ra
      obtain ⟨c, e2, _⟩ := ds_dict I r2 rb
      rw [e1] at e2
      cases e2
    · cases h
theorem eqR_at (I : Inv X pins σ H s) {v w : V} {a b : Value} {x y : D} {k : Bool} {A : Around} (hu : A.units + 65 < cLine) (r1 : Rp X.K H v x) (r2 : Rp X.K H w y) (ra : RelV v a) (rb : RelV w b) (h : eqR x y = some k) : SeqAt.EqAt A s a b k := by
  unfold eqR at h
  split at h
  · rename_i hc
    cases h
    obtain ⟨as, q1⟩ := rd_shaped I r1 hc.1 ra
    obtain ⟨bs, q2⟩ := rd_shaped I r2 hc.2 rb
    exact SeqAt.eqAt_reads x y A s a b as bs q1 q2 (shp hc.1) (shp hc.2) (SeqAt.room_of_shaped hc.1 (by omega))
  · split at h
    · cases h
      obtain ⟨t, rfl⟩ := rd_str r1 ra
      obtain ⟨c, rfl, hd⟩ := ds_dict I r2 rb
      exact SeqAt.ds_eq_str_dict hd _ t (by omega)
    · rename_i xs ys hns
      generalize hx : PyData.tuple xs = dx at r1
      generalize hy : PyData.tuple ys = dy at r2
      cases r1 with
      | @tup a1 vs1 ds1 s1 t1 =>
        cases hx
        cases r2 with
        | @tup a2 vs2 ds2 s2 t2 =>
          cases hy
          cases ra
          cases rb
          obtain ⟨it1, v1, ⟨o1, ho1, hc1, n1, hd1⟩, _⟩ := I.tuple (.inl (.inl s1))
          obtain ⟨it2, v2, ⟨o2, ho2, hc2, n2, hd2⟩, _⟩ := I.tuple (.inl (.inl s2))
          obtain ⟨e, q1, q2⟩ := eqQs_at h
          have l1 : xs.length = it1.toArray.size := by rw [List.size_toArray, ← v1.length, t1.len]
          have l2 : ys.length = it2.toArray.size := by rw [List.size_toArray, ← v2.length, t2.len]
          have get : ∀ j, j < xs.length → j < ys.length → ∃ z1 z2 u1 u2 x y, it1[j]? = some u1 ∧ it2[j]? = some u2 ∧ Rp X.K H z1 x ∧ Rp X.K H z2 y ∧ RelV z1 u1 ∧ RelV z2 u2 ∧ eqQ x y = some (e j) := fun j j1 j2 => by
            obtain ⟨z1, g1, g2⟩ := t1.get (List.getElem?_eq_getElem j1)
            obtain ⟨z2, g3, g4⟩ := t2.get (List.getElem?_eq_getElem j2)
            obtain ⟨u1, g5, g6⟩ := v1.get g1
            obtain ⟨u2, g7, g8⟩ := v2.get g3
            exact ⟨z1, z2, u1, u2, _, _, g5, g7, g2, g4, g6, g8, q1 j _ _ (List.getElem?_eq_getElem j1) (List.getElem?_eq_getElem j2)⟩
          by_cases hab : a1 = a2
          · subst hab
            have ho : o1 = o2 := Option.some.inj (ho1.symm.trans ho2)
            subst ho
            rw [hd1] at hd2
            have hi : it1 = it2 := by
              injection hd2 with h1 h2
              simpa using h1
            subst hi
            have hl : xs.length = ys.length := by omega
            have hk : k = true := by
              rw [← q2, hl]
              simp only [beq_self_eq_true, Bool.and_true, Nat.min_self]
              rw [List.all_eq_true]
              intro j hj
              rw [List.mem_range] at hj
              obtain ⟨z1, z2, u1, u2, x, y, g1, g2, g3, g4, g5, g6, g7⟩ := get j (by omega) hj
              rw [g1] at g2
              cases g2
              exact eqQ_same I g3 g4 g5 g6 g7
            rw [hk]
            exact SeqAt.EqAt.same _
          · rw [← q2, l1, l2]
            refine SeqAt.EqAt.of_refs hab (SeqAt.RcAt.tuples (items := it1.toArray) (items2 := it2.toArray) ⟨_, ho1, hc1, _, hd1⟩ ⟨_, ho2, hc2, _, hd2⟩ (by omega) fun j h1 h2 => ?_)
            obtain ⟨z1, z2, u1, u2, x, y, g1, g2, g3, g4, g5, g6, g7⟩ := get j (by omega) (by omega)
            have k1 : it1.toArray[j] = u1 := by
              obtain ⟨_, e⟩ := List.getElem?_eq_some_iff.mp g1
              simpa using e
            have k2 : it2.toArray[j] = u2 := by
              obtain ⟨_, e⟩ := List.getElem?_eq_some_iff.mp g2
              simpa using e
            rw [k1, k2]
            exact eqQ_at (A := A.in1) I (by show A.units + 1 + 64 < cLine; omega) g3 g4 g5 g6 g7
        | _ => cases hy
      | _ => cases hx
    · cases h
theorem anyR_at {d : D} : ∀ {zs : List D} {k : Bool}, anyR d zs = some k → ∃ e : D → Bool, (∀ z ∈ zs, eqR z d = some (e z)) ∧ zs.any e = k := by
  intro zs k h
  have h1 : ∀ zs k, anyR d zs = some k → (∀ z ∈ zs, ∃ b, eqR z d = some b) ∧ zs.any (fun z => (eqR z d).getD false) = k := by
    intro zs
    induction zs with
    | nil =>
      intro k h
      cases h
      exact ⟨fun z hz => (by cases hz), rfl⟩
    | cons z r ih =>
      intro k h
      obtain ⟨b, g1, g2⟩ := Option.bind_eq_some_iff.mp h
      obtain ⟨c, g3, rfl⟩ := Option.map_eq_some_iff.mp g2
      obtain ⟨q1, q2⟩ := ih c g3
      refine ⟨fun y hy => ?_, ?_⟩
      · rcases List.mem_cons.mp hy with rfl | hy
        · exact ⟨b, g1⟩
        · exact q1 y hy
      · rw [List.any_cons, g1, q2]
        rfl
  obtain ⟨q1, q2⟩ := h1 zs k h
  refine ⟨_, fun z hz => ?_, q2⟩
  obtain ⟨b, hb⟩ := q1 z hz
  rw [hb]
  rfl
end
theorem vals_get' : ∀ {xs : List V} {us : List Value} {i : Nat} {u : Value}, Vals xs us → us[i]? = some u → ∃ x, xs[i]? = some x ∧ RelV x u
  | [], _, _, _, .nil, h => by simp at h
  | x :: xs, u :: us, 0, _, .cons r t, h => by
    simp at h
    subst h
    exact ⟨x, rfl, r⟩
  | x :: xs, u :: us, i + 1, w, .cons r t, h => by
    obtain ⟨y, h1, h2⟩ := vals_get' (i := i) t (by simpa using h)
    exact ⟨y, by simpa using h1, h2⟩
section
variable {X : Cx} {cs : List Tb}
theorem inR_core {hu : X.A.units + 70 < cLine} {pins : List (Addr × Obj)} {s : Shared} {σ : L2.St} {H : Hp} {its : List Value} {vs : List V} {ds : List D} {v : V} {a : Value} {x : D} {k : Bool} (I : Inv X pins σ H s) (rv : Vals vs its) (rp : Rps X.K H vs ds) (hl : PyData.canLayAll0 ds = true) (as : List Addr) (rd : ReadsAll s.heap its ds as) (r : Rp X.K H v x) (rx : RelV v a) (h : anyR x ds = some k) :
    ∃ e : Value → Bool, (∀ y ∈ its.toArray, SeqAt.EqAt X.A.in1 s y a (e y)) ∧ its.toArray.any e = k := by
  obtain ⟨e, q1, q2⟩ := anyR_at h
  have hm := SeqAt.readsAll_map ds its as hl rd
  refine ⟨fun u => e (SeqAt.readOf s.heap u), fun y hy => ?_, ?_⟩
  · have hy : y ∈ its := by simpa using hy
    obtain ⟨j, hj⟩ := List.getElem?_of_mem hy
    obtain ⟨w, g1, g2⟩ := vals_get' rv hj
    obtain ⟨z, g3, g4⟩ := rp.get' g1
    have hz : SeqAt.readOf s.heap y = z := by
      have : (its.map (SeqAt.readOf s.heap))[j]? = some z := by rw [hm]; exact g3
      rw [List.getElem?_map, hj] at this
      exact Option.some.inj this
    show SeqAt.EqAt X.A.in1 s y a (e (SeqAt.readOf s.heap y))
    rw [hz]
    exact eqR_at (A := X.A.in1) I (by show X.A.units + 1 + 65 < cLine; omega) g4 r g2 rx (q1 z (List.mem_of_getElem? g3))
  · rw [← q2, ← hm]
    simp [List.any_map, Function.comp_def]
theorem od_inR (hu : X.A.units + 70 < cLine) : OpR X (compareOp .In) (rD X.K cs inRD) := by
  rintro pins s σ H v u a b Q I rx ry ⟨Z, F, σ', ρ, x, y, d, R, w1, w2, e, q⟩
  obtain ⟨bb, e2, rfl⟩ := Option.map_eq_some_iff.mp e
  clear e
  unfold inR at e2
  have rx' := R.all w1
  split at e2
  · split at e2
    · rename_i ds hs
      obtain ⟨l, vs, rfl, s1, r1⟩ := R.lst w2
      cases ry
      obtain ⟨its, rv, ⟨o, n, ho, hc, hn, hd⟩, _⟩ := I.list s1
      obtain ⟨as, g1⟩ := rd_shaped I (R.all w2) hs rfl
      cases g1 with
      | list k1 k2 k3 k4 =>
        rw [ho] at k1
        cases k1
        rw [hd] at k3
        injection k3 with k3 k5
        subst k3
        obtain ⟨ee, p1, p2⟩ := inR_core (hu := hu) I rv (r1.ext R.ex) (SeqAt.canLay_of_shaped hs) _ k4 rx' rx e2
        refine SeqAt.in_listAt ee ⟨_, ho, hc, _, hd⟩ p1 ?_
        rw [p2]
        exact ⟨.bl _, H, I, rfl, q _ F H (Ext.refl F) R (.bl _)⟩
    · cases e2
  · split at e2
    · rename_i ds hs
      obtain ⟨l, vs, rfl, s0, s1, r1⟩ := R.tup w2
      cases ry
      obtain ⟨its, rv, ⟨o, ho, hc, n, hd⟩, _⟩ := I.tuple s1
      obtain ⟨as, g1⟩ := rd_shaped I (R.all w2) hs rfl
      cases g1 with
      | tuple k1 k2 k3 k4 =>
        rw [ho] at k1
        cases k1
        rw [hd] at k3
        injection k3 with k3 k5
        subst k3
        obtain ⟨ee, p1, p2⟩ := inR_core (hu := hu) I rv (r1.ext R.ex) (SeqAt.canLay_of_shaped hs) _ k4 rx' rx e2
        refine SeqAt.in_tupleAt ee ⟨_, ho, hc, _, hd⟩ p1 ?_
        rw [p2]
        exact ⟨.bl _, H, I, rfl, q _ F H (Ext.refl F) R (.bl _)⟩
    · cases e2
  · cases e2
theorem od_ninR (hu : X.A.units + 70 < cLine) : OpR X (compareOp .NotIn) (rD X.K cs ninRD) := by
  rintro pins s σ H v u a b Q I rx ry ⟨Z, F, σ', ρ, x, y, d, R, w1, w2, e, q⟩
  obtain ⟨bb, e2, rfl⟩ := Option.map_eq_some_iff.mp e
  clear e
  unfold inR at e2
  have rx' := R.all w1
  split at e2
  · split at e2
    · rename_i ds hs
      obtain ⟨l, vs, rfl, s1, r1⟩ := R.lst w2
      cases ry
      obtain ⟨its, rv, ⟨o, n, ho, hc, hn, hd⟩, _⟩ := I.list s1
      obtain ⟨as, g1⟩ := rd_shaped I (R.all w2) hs rfl
      cases g1 with
      | list k1 k2 k3 k4 =>
        rw [ho] at k1
        cases k1
        rw [hd] at k3
        injection k3 with k3 k5
        subst k3
        obtain ⟨ee, p1, p2⟩ := inR_core (hu := hu) I rv (r1.ext R.ex) (SeqAt.canLay_of_shaped hs) _ k4 rx' rx e2
        refine SeqAt.notIn_listAt ee ⟨_, ho, hc, _, hd⟩ p1 ?_
        rw [p2]
        exact ⟨.bl _, H, I, rfl, q _ F H (Ext.refl F) R (.bl _)⟩
    · cases e2
  · split at e2
    · rename_i ds hs
      obtain ⟨l, vs, rfl, s0, s1, r1⟩ := R.tup w2
      cases ry
      obtain ⟨its, rv, ⟨o, ho, hc, n, hd⟩, _⟩ := I.tuple s1
      obtain ⟨as, g1⟩ := rd_shaped I (R.all w2) hs rfl
      cases g1 with
      | tuple k1 k2 k3 k4 =>
        rw [ho] at k1
        cases k1
        rw [hd] at k3
        injection k3 with k3 k5
        subst k3
        obtain ⟨ee, p1, p2⟩ := inR_core (hu := hu) I rv (r1.ext R.ex) (SeqAt.canLay_of_shaped hs) _ k4 rx' rx e2
        refine SeqAt.notIn_tupleAt ee ⟨_, ho, hc, _, hd⟩ p1 ?_
        rw [p2]
        exact ⟨.bl _, H, I, rfl, q _ F H (Ext.refl F) R (.bl _)⟩
    · cases e2
  · cases e2
theorem od_neR (hu : X.A.units + 70 < cLine) : OpR X (compareOp .NotEq) (rD X.K cs neRD) := by
  rintro pins s σ H v u a b Q I rx ry ⟨Z, F, σ', ρ, x, y, d, R, w1, w2, e, q⟩
  unfold neRD at e
  split at e
  · rename_i hc
    cases e
    exact op_neD (by omega) pins s σ H _ _ a b Q I rx ry ⟨x, y, (R.all w1).dp (shp hc.1), (R.all w2).dp (shp hc.2), hc.1, hc.2, q _ F H (Ext.refl F) R (.bl _)⟩
  · split at e
    · cases e
      obtain ⟨c, rfl, hd⟩ := ds_dict I (R.all w1) rx
      obtain ⟨t, rfl⟩ := rd_str (R.all w2) ry
      exact SeqAt.ds_ne_dict_str hd _ t (by omega) _ _ _ _ ⟨.bl _, H, I, rfl, q _ F H (Ext.refl F) R (.bl _)⟩
    · cases e
theorem self_tree {pins : List (Addr × Obj)} {s : Shared} {σ : L2.St} {H : Hp} (I : Inv X pins σ H s) : ∀ (n : Nat) (d : D) (v w : V) (a b : Value), selfOk n d = true → Rp X.K H v d → Rp X.K H w d → RelV v a → RelV w b → PySem.W.EqTree X.prog X.w s (n + 64) a b true := by
  intro n
  induction n with
  | zero =>
    intro d v w a b h r1 r2 ra rb
    have flat : SeqAt.shaped d = true → PyData.eqv d d = true → PySem.W.EqTree X.prog X.w s (0 + 64) a b true := fun hs he => by
      obtain ⟨as, q1⟩ := rd_shaped I r1 hs ra
      obtain ⟨bs, q2⟩ := rd_shaped I r2 hs rb
      refine .leaf fun A hu => ?_
      have := SeqAt.eqAt_reads d d A s a b as bs q1 q2 (shp hs) (shp hs) (SeqAt.room_of_shaped hs (by omega))
      rw [he] at this
      exact this
    cases d with
    | list ds => cases h
    | tuple ds => cases h
    | dict es =>
      have he : es = [] := by simpa [selfOk] using h
      subst he
      obtain ⟨a1, rfl, z1, d1⟩ := rd_dict I r1 rfl ra
      obtain ⟨a2, rfl, z2, d2⟩ := rd_dict I r2 rfl rb
      by_cases hab : a1 = a2
      · subst hab
        exact .same
      · exact .dicts (n := 63) (e := fun _ => true) hab z1 z2 d1 d2 fun k v y hm => by cases hm
    | str x =>
      have hs : SeqAt.shaped (.str x) = true := by
        have : PyData.strOk x = true := h
        unfold SeqAt.shaped
        simp [PyData.canLay0, this, PyData.depth]
      exact flat hs (SeqAt.eqv_refl _ (shp hs))
    | none => exact flat shaped_none rfl
    | bool k => exact flat shaped_bool (SeqAt.eqv_refl _ (shp shaped_bool))
    | int i => exact flat shaped_int (SeqAt.eqv_refl _ (shp shaped_int))
  | succ n ih =>
    intro d v w a b h r1 r2 ra rb
    have flat : SeqAt.shaped d = true → PyData.eqv d d = true → PySem.W.EqTree X.prog X.w s (n + 1 + 64) a b true := fun hs he => by
      obtain ⟨as, q1⟩ := rd_shaped I r1 hs ra
      obtain ⟨bs, q2⟩ := rd_shaped I r2 hs rb
      refine .leaf fun A hu => ?_
      have := SeqAt.eqAt_reads d d A s a b as bs q1 q2 (shp hs) (shp hs) (SeqAt.room_of_shaped hs (by omega))
      rw [he] at this
      exact this
    have rows : ∀ (ds : List D) (vs ws : List V) (us ts : List Value), ds.all (selfOk n) = true → Rps X.K H vs ds → Rps X.K H ws ds → Vals vs us → Vals ws ts → us.length = ts.length ∧ ∀ j (h1 : j < us.toArray.size) (h2 : j < ts.toArray.size), PySem.W.EqTree X.prog X.w s (n + 64) us.toArray[j] ts.toArray[j] ((fun _ => true) j) := by
      intro ds vs ws us ts hd p1 p2 v1 v2
      have l1 : ds.length = us.length := by rw [← v1.length, p1.len]
      have l2 : ds.length = ts.length := by rw [← v2.length, p2.len]
      refine ⟨by omega, fun j h1 h2 => ?_⟩
      have j1 : j < ds.length := by rw [List.size_toArray] at h1; omega
      obtain ⟨z1, g1, g2⟩ := p1.get (List.getElem?_eq_getElem j1)
      obtain ⟨z2, g3, g4⟩ := p2.get (List.getElem?_eq_getElem j1)
      obtain ⟨u1, g5, g6⟩ := v1.get g1
      obtain ⟨u2, g7, g8⟩ := v2.get g3
      have k1 : us.toArray[j] = u1 := by
        obtain ⟨_, e⟩ := List.getElem?_eq_some_iff.mp g5
        simpa using e
      have k2 : ts.toArray[j] = u2 := by
        obtain ⟨_, e⟩ := List.getElem?_eq_some_iff.mp g7
        simpa using e
      rw [k1, k2]
      exact ih _ z1 z2 u1 u2 (List.all_eq_true.mp hd _ (List.getElem_mem j1)) g2 g4 g6 g8
    cases d with
    | list ds =>
      generalize hx : PyData.list ds = dx at r1
      generalize hy : PyData.list ds = dy at r2
      cases r1 with
      | @lst a1 vs1 ds1 s1 t1 =>
        cases hx
        cases r2 with
        | @lst a2 vs2 ds2 s2 t2 =>
          cases hy
          cases ra
          cases rb
          obtain ⟨it1, v1, ⟨o1, n1, ho1, hc1, hn1, hd1⟩, _⟩ := I.list s1
          obtain ⟨it2, v2, ⟨o2, n2, ho2, hc2, hn2, hd2⟩, _⟩ := I.list s2
          by_cases hab : a1 = a2
          · subst hab
            exact .same
          · obtain ⟨g1, g2⟩ := rows ds vs1 vs2 it1 it2 h t1 t2 v1 v2
            have := PySem.W.EqTree.lists (prog := X.prog) (w := X.w) (s := s) (n := n + 64) (e := fun _ => true) hab (vs := it1.toArray) (vs' := it2.toArray) ⟨_, ho1, hc1, _, hd1⟩ ⟨_, ho2, hc2, _, hd2⟩ (by simpa using g1) g2
            rw [show ((List.range it1.toArray.size).all fun _ => true) = true by simp] at this
            exact this
        | _ => cases hy
      | _ => cases hx
    | tuple ds =>
      generalize hx : PyData.tuple ds = dx at r1
      generalize hy : PyData.tuple ds = dy at r2
      cases r1 with
      | @tup a1 vs1 ds1 s1 t1 =>
        cases hx
        cases r2 with
        | @tup a2 vs2 ds2 s2 t2 =>
          cases hy
          cases ra
          cases rb
          obtain ⟨it1, v1, ⟨o1, ho1, hc1, n1, hd1⟩, _⟩ := I.tuple (.inl (.inl s1))
          obtain ⟨it2, v2, ⟨o2, ho2, hc2, n2, hd2⟩, _⟩ := I.tuple (.inl (.inl s2))
          by_cases hab : a1 = a2
          · subst hab
            exact .same
          · obtain ⟨g1, g2⟩ := rows ds vs1 vs2 it1 it2 h t1 t2 v1 v2
            have := PySem.W.EqTree.tuples (prog := X.prog) (w := X.w) (s := s) (n := n + 64) (e := fun _ => true) hab (vs := it1.toArray) (vs' := it2.toArray) ⟨_, ho1, hc1, _, hd1⟩ ⟨_, ho2, hc2, _, hd2⟩ g2
            rw [show ((List.range (min it1.toArray.size it2.toArray.size)).all (fun _ => true) && it1.toArray.size == it2.toArray.size) = true by simp [g1]] at this
            exact this
        | _ => cases hy
      | _ => cases hx
    | dict es =>
      have he : es = [] := by simpa [selfOk] using h
      subst he
      obtain ⟨a1, rfl, z1, d1⟩ := rd_dict I r1 rfl ra
      obtain ⟨a2, rfl, z2, d2⟩ := rd_dict I r2 rfl rb
      by_cases hab : a1 = a2
      · subst hab
        exact .same
      · exact .dicts (n := n + 64) (e := fun _ => true) hab z1 z2 d1 d2 fun k v y hm => by cases hm
    | str x =>
      have hs : SeqAt.shaped (.str x) = true := by
        have : PyData.strOk x = true := h
        unfold SeqAt.shaped
        simp [PyData.canLay0, this, PyData.depth]
      exact flat hs (SeqAt.eqv_refl _ (shp hs))
    | none => exact flat shaped_none rfl
    | bool k => exact flat shaped_bool (SeqAt.eqv_refl _ (shp shaped_bool))
    | int i => exact flat shaped_int (SeqAt.eqv_refl _ (shp shaped_int))
theorem od_eqX (hu : X.A.units + 90 < cLine) : OpR X (compareOp .Eq) (rD X.K cs eqXD) := by
  rintro pins s σ H v u a b Q I rx ry ⟨Z, F, σ', ρ, x, y, d, R, w1, w2, e, q⟩
  unfold eqXD at e
  split at e
  · rename_i hc
    cases e
    exact op_eqD (by omega) pins s σ H _ _ a b Q I rx ry ⟨x, y, (R.all w1).dp (shp hc.1), (R.all w2).dp (shp hc.2), hc.1, hc.2, q _ F H (Ext.refl F) R (.bl _)⟩
  · split at e
    · cases e
      obtain ⟨c, rfl, hd⟩ := ds_dict I (R.all w1) rx
      obtain ⟨t, rfl⟩ := rd_str (R.all w2) ry
      exact SeqAt.ds_rc_dict_str hd _ t (by omega) _ _ _ _ ⟨.bl _, H, I, rfl, q _ F H (Ext.refl F) R (.bl _)⟩
    · rename_i xs _
      split at e
      · rename_i hc
        cases e
        obtain ⟨rfl, hs⟩ := hc
        have p1 := R.all w1
        have p2 := R.all w2
        generalize hx : PyData.list xs = dx at p1
        generalize hy : PyData.list xs = dy at p2
        cases p1 with
        | @lst a1 vs1 ds1 s1 t1 =>
          cases hx
          cases p2 with
          | @lst a2 vs2 ds2 s2 t2 =>
            cases hy
            cases rx
            cases ry
            obtain ⟨it1, v1, ⟨o1, n1, ho1, hc1, hn1, hd1⟩, _⟩ := I.list s1
            obtain ⟨it2, v2, ⟨o2, n2, ho2, hc2, hn2, hd2⟩, _⟩ := I.list s2
            have l1 : xs.length = it1.length := by rw [← v1.length, t1.len]
            have l2 : xs.length = it2.length := by rw [← v2.length, t2.len]
            refine PySem.W.eq_listsT (n := 84) (e := fun _ => true) (vs := it1.toArray) (vs' := it2.toArray) ⟨_, ho1, hc1, _, hd1⟩ ⟨_, ho2, hc2, _, hd2⟩ (by simp; omega) (fun j h1 h2 => ?_) (by omega) ?_
            · have j1 : j < xs.length := by rw [List.size_toArray] at h1; omega
              obtain ⟨z1, g1, g2⟩ := t1.get (List.getElem?_eq_getElem j1)
              obtain ⟨z2, g3, g4⟩ := t2.get (List.getElem?_eq_getElem j1)
              obtain ⟨u1, g5, g6⟩ := v1.get g1
              obtain ⟨u2, g7, g8⟩ := v2.get g3
              have k1 : it1.toArray[j] = u1 := by
                obtain ⟨_, e⟩ := List.getElem?_eq_some_iff.mp g5
                simpa using e
              have k2 : it2.toArray[j] = u2 := by
                obtain ⟨_, e⟩ := List.getElem?_eq_some_iff.mp g7
                simpa using e
              rw [k1, k2]
              exact self_tree I 20 _ z1 z2 u1 u2 (List.all_eq_true.mp hs _ (List.getElem_mem j1)) g2 g4 g6 g8
            · rw [show ((List.range it1.toArray.size).all fun _ => true) = true by simp]
              exact ⟨.bl _, H, I, rfl, q _ F H (Ext.refl F) R (.bl _)⟩
          | _ => cases hy
        | _ => cases hx
      · cases e
    · cases e
theorem hu70 {k : Nat} {A : Around} (h : Room k A) : A.units + 70 < cLine := by have := h.un; omega
theorem hu90 {k : Nat} {A : Around} (h : Room k A) : A.units + 90 < cLine := by have := h.un; omega
end
end DS
namespace DS
open PySem L2
/-! ## list + list, a new one -/
def catD : D → D → Option D
  | .list xs, .list ys => if xs.length + ys.length ≤ 100000 then some (.list (xs ++ ys)) else none
  | _, _ => none
section
variable {X : Cx} {cs : List Tb} {a b : Expr} {pos : Pos} {fa fb : Nv → Option D}
def rNd (K : PySem.W.Frag) (cs : List Tb) (g : D → D → Option D) : R2 := fun v u H Q => ∃ Z F σ ρ x y d, Rep K cs Z F H σ ρ ∧ Vw K F σ ρ v x ∧ Vw K F σ ρ u y ∧ g x y = some d ∧ ∀ p F' H', Ext F F' → Rep K cs Z F' H' σ ρ → F' p = none → Z p = none → ¬ Mine σ ρ p → Own K F' H' p d → Q (.ref p) H'
theorem od_cat : OpR X (binaryOp .Add) (rNd X.K cs catD) := by
  rintro pins s σ H v u a b Q I rx ry ⟨Z, F, σ', ρ, x, y, d, R, w1, w2, e, q⟩
  unfold catD at e
  split at e
  · rename_i xs ys
    split at e
    · rename_i hl
      cases e
      obtain ⟨a1, vs, rfl, s1, r1⟩ := R.lst w1
      obtain ⟨a2, ws, rfl, s2, r2⟩ := R.lst w2
      cases rx
      cases ry
      obtain ⟨it1, t1, p1, z1⟩ := I.list s1
      obtain ⟨it2, t2, p2, z2⟩ := I.list s2
      have l1 := t1.length
      have l2 := t2.length
      have k1 := r1.len
      have k2 := r2.len
      have hz : vs.length + ws.length ≤ sizeLine := by
        have : (100000 : Nat) ≤ sizeLine := by decide
        omega
      obtain ⟨⟨oc, od, dt, sl⟩, n, h1, h2, h3, h4⟩ := p1
      obtain ⟨⟨oc2, od2, dt2, sl2⟩, n2, g1, g2, g3, g4⟩ := p2
      simp only at h2 h3 h4 g2 g3 g4
      subst h2 h3 h4 g2 g3 g4
      refine concat_meets ⟨_, h1, rfl⟩ ⟨_, g1, rfl⟩ noFill_list_add seq_list_add PySem.F.slot_list_add PySem.F.entry_list_add (PySem.F.args_list_add_2 _ _) (list_cat a1 it1.toArray n sl a2 it2.toArray n2 sl2 (by simp only [List.size_toArray]; omega)) ⟨h1, g1, ?_⟩
      have ea : it1.toArray ++ it2.toArray = (it1 ++ it2).toArray := by simp
      rw [ea]
      have hn : H s.heap.objs.size = none := I.fresh
      obtain ⟨R', fp, zp, mp⟩ := R.made (o := .lst (vs ++ ws)) hn
      exact ⟨.ref _, _, I.lnew (t' := s.toks) (t1.append t2) (by rw [List.length_append]; omega), rfl, q _ _ _ (Ext.refl F) R' fp zp mp ⟨_, upd_same, r1.app r2⟩⟩
    · cases e
  · cases e
theorem t_opN {K : PySem.W.Frag} {g : D → D → Option D} : ∀ σ H Q, tN K cs (op2 g fa fb) σ H Q → tOp (rNd K cs g) (tW K cs fa) (tW K cs fb) σ H Q := fun σ H Q ⟨Z, F, ρ, d, R, ef, q⟩ => by
  unfold op2 at ef
  obtain ⟨x, ea, ef⟩ := Option.bind_eq_some_iff.mp ef
  obtain ⟨y, eb, ef⟩ := Option.bind_eq_some_iff.mp ef
  exact ⟨Z, F, ρ, x, R, ea, fun v F1 H1 e1 R1 w1 => ⟨Z, F1, ρ, y, R1, eb, fun u F2 H2 e2 R2 w2 => ⟨Z, F2, σ, ρ, x, y, d, R2, w1.ext e2, w2, ef, fun p F' H' e3 R3 => q p F' H' ((e1.trans e2).trans e3) R3⟩⟩⟩
theorem e_catN (ha : EW cs X a fa) (hb : EW cs X b fb) : EN cs X (.BinOp a .Add b pos) (op2 catD fa fb) := ⟨pe_imp (pe_op od_cat ha.h hb.h) t_opN⟩
end
end DS

namespace DS
open PySem L2

/-! ## exceptions of the program's own classes -/
/-- a class is named by a word; cl tells where it stands -/
abbrev EXc (cl : Value → Value) (E : XK) : XK := fun c d H => E (cl c) d H
def spDX (cl : Value → Value) (K : PySem.W.Frag) (cs : List Tb) (ms : List Md) (sem : List D → Option Ou) : Sp := fun vs H Q E => spD K cs ms sem vs H Q (EXc cl E)
theorem Rep.bare {K : PySem.W.Frag} {cs : List Tb} {Z F H : Hp} {σ : L2.St} {ρ : Nv} (R : Rep K cs Z F H σ ρ) : Rep K cs Z F H [] [] :=
  ⟨rfl, R.fh, R.zh, fun i c h => by simp at h, fun i d h => by simp at h, fun i j c e a h => by simp at h, fun i a d h => by simp at h, R.tab, R.tp⟩
theorem fn_dsX {P : Program} {w : World} {K : PySem.W.Frag} {mg : Str → Option Value} {base : Heap} {cs : List Tb} {cl : Value → Value} {x qual : Str} {st : Stmt} {f : Addr} {fd : FuncData} {N ps : List Str} {k : Nat} {ms : List Md} {sem : List D → Option Ou} (F : Fun K x qual st f fd) (S : FnScope N ps (defScope st)) (hm : ms.length = ps.length)
    (hbody : ∀ (cdv : Value) (A : Around) (outer : List Env) (s : Shared) (H : Hp) (E : XK), Room k (A.deeper (PyProof.Rows.envOfC qual (defScope st) s.heap.objs.size f cdv)) →
      ∃ g, SDs cs (cxOf (L2.CX P w) P w K mg base N qual (defScope st) f cdv A outer s H E) (EXc cl E) (defBody st) g ∧ Comes ms (N.length - ps.length) g sem) :
    FnOk P w K mg base (L2.CX P w) (k + 1) f fd ps (spDX cl K cs ms sem) := by
  refine F.okX S (fun vs H Q E h => ?_) fun cdv A outer s H vs Q E hr h => ?_
  · obtain ⟨_, _, _, _, hv, _⟩ := h
    rw [hv, hm]
  · obtain ⟨g, h1, h2⟩ := hbody cdv A outer s H E hr
    exact ⟨_, h1.h, body_ends hm h2 h⟩
structure CalX (P : Program) (w : World) (K : PySem.W.Frag) (mg : Str → Option Value) (base : Heap) (cs : List Tb) (cl : Value → Value) (x : Str) (k : Nat) (ps : List Str) (ms : List Md) (sem : List D → Option Ou) : Prop where
  ex : ∃ f fd, FnOk P w K mg base (L2.CX P w) k f fd ps (spDX cl K cs ms sem) ∧ mg x = some (.ref f) ∧ PySem.W.keepIn K (.ref f) = true ∧ Binds K fd ps []
/-- a class that may be raised -/
structure Ecl (K : PySem.W.Frag) (mg : Str → Option Value) (x : Str) (C : Addr) : Prop where
  g : mg x = some (.ref C)
  exc : PySem.W.excIn K C [.type "ValueError", .type "Exception", .type "BaseException", .type "object"] "ValueError.__new__" = true
  keep : PySem.W.keepIn K (.ref C) = true
  sub : PySem.W.subIn K (.ref C) (.type "BaseException") = some true
  ty : PySem.W.typeIn K (.ref C) = some (.type "type")

/-! ### what is said of it -/
def tM (K : PySem.W.Frag) (cs : List Tb) (f : Nv → Option Unit) : TE := fun σ H Q => ∃ Z F ρ, Rep K cs Z F H σ ρ ∧ f ρ = some () ∧ ∀ v F' H', Ext F F' → Rep K cs Z F' H' σ ρ → Q v H'
structure EM (cs : List Tb) (X : Cx) (e : Expr) (f : Nv → Option Unit) : Prop where
  h : PE X e (tM X.K cs f)
def fOk : D → Bool
  | .int i => decide (0 ≤ i) && decide (i < 200)
  | .str x => decide (x.length ≤ 1000)
  | _ => false
structure EJ (cs : List Tb) (X : Cx) (es : List Expr) (f : Nv → Option Unit) : Prop where
  h : ∃ ts, PJ X es ts ∧ ∀ (Z F H : Hp) (σ : L2.St) (ρ : Nv) (acc : Str) (Q : Str → Hp → Prop), Rep X.K cs Z F H σ ρ → f ρ = some () → acc.length + 1000 * es.length ≤ sizeLine → (∀ out F' H', Ext F F' → Rep X.K cs Z F' H' σ ρ → Q out H') → tJs ts acc σ H Q
def fmtV (fa : Nv → Option D) (f : Nv → Option Unit) : Nv → Option Unit := fun ρ => (fa ρ).bind fun d => if fOk d = true then f ρ else none
theorem int_short {i : Int} (h : fOk (.int i) = true) : i.natAbs.log2 < 1920 ∧ (toString i : Str).length ≤ 1000 := by
  have h' : (decide (0 ≤ i) && decide (i < 200)) = true := h
  rw [Bool.and_eq_true, decide_eq_true_eq, decide_eq_true_eq] at h'
  obtain ⟨n, rfl⟩ := Int.eq_ofNat_of_zero_le h'.1
  have hn : n < 200 := by omega
  have : ∀ n : Nat, n < 200 → (((n : Nat) : Int).natAbs.log2 < 1920 ∧ (toString ((n : Nat) : Int) : Str).length ≤ 1000) := by decide +kernel
  exact this n hn
section
variable {cs : List Tb} {X : Cx} {e v1 v2 : Expr} {es : List Expr} {pos : Pos} {fa : Nv → Option D} {f : Nv → Option Unit}
theorem EP'.m (h : EP' cs X e fa) : EM cs X e (fun ρ => (fa ρ).map fun _ => ()) := ⟨pe_imp h.h fun σ H Q ⟨Z, F, ρ, R, ef, q⟩ => by
  obtain ⟨d, e1, _⟩ := Option.map_eq_some_iff.mp ef
  exact ⟨Z, F, ρ, d, R, e1, fun v F' H' x R' _ => q v F' H' x R'⟩⟩
theorem ej_nil : EJ cs X [] (fun _ => some ()) := ⟨[], .nil, fun Z F H σ ρ acc Q R _ _ q => q acc F H (Ext.refl F) R⟩
theorem ej_c {s : Str} {j : Nat} (hs : s.length ≤ 1000) (h : EJ cs X es f) : EJ cs X (.Constant (.str s) j pos :: es) f := by
  obtain ⟨ts, p, rd⟩ := h.h
  refine ⟨_ :: ts, .cons pe_str p, fun Z F H σ ρ acc Q R ef hl q => ?_⟩
  refine ⟨s, rfl, ?_, rd Z F H σ ρ (acc ++ s) Q R ef ?_ q⟩
  · rw [List.length_cons] at hl
    rw [len_app]
    omega
  · rw [List.length_cons] at hl
    rw [len_app]
    omega
theorem ej_f (ha : EP' cs X e fa) (h : EJ cs X es f) : EJ cs X (.FormattedValue e (-1) none pos :: es) (fmtV fa f) := by
  obtain ⟨ts, p, rd⟩ := h.h
  refine ⟨_ :: ts, .cons (pe_fmt ha.h) p, fun Z F H σ ρ acc Q R ef hl q => ?_⟩
  obtain ⟨d, e1, e2⟩ := Option.bind_eq_some_iff.mp ef
  split at e2
  · rename_i hf
    rw [List.length_cons] at hl
    refine ⟨Z, F, ρ, d, R, e1, fun v F1 H1 x1 R1 r1 => ?_⟩
    have go : ∀ y : Str, y.length ≤ 1000 → ∃ y', V.str y = V.str y' ∧ (acc ++ y').length ≤ sizeLine ∧ tJs ts (acc ++ y') σ H1 Q := fun y hy => ⟨y, rfl, by rw [len_app]; omega, rd Z F1 H1 σ ρ (acc ++ y) Q R1 e2 (by rw [len_app]; omega) fun out F' H' x R' => q out F' H' (x1.trans x) R'⟩
    cases d with
    | int i =>
      cases r1
      obtain ⟨h1, h2⟩ := int_short hf
      exact .inr ⟨i, rfl, h1, go _ h2⟩
    | str y =>
      cases r1
      have hy : y.length ≤ 1000 := of_decide_eq_true hf
      exact .inl ⟨y, rfl, Nat.le_trans hy (by decide), go y hy⟩
    | _ => cases hf
  · cases e2
theorem em_f (h : EJ cs X (v1 :: v2 :: es) f) (hl : (v1 :: v2 :: es).length ≤ 20 := by exact Nat.le_of_ble_eq_true rfl) : EM cs X (.JoinedStr (v1 :: v2 :: es) pos) f := by
  obtain ⟨ts, p, rd⟩ := h.h
  refine ⟨pe_imp (pe_joined p) fun σ H Q ⟨Z, F, ρ, R, ef, q⟩ => rd Z F H σ ρ Str.empty _ R ef ?_ fun out F' H' x R' => q _ F' H' x R'⟩
  have h0 : (Str.empty : Str).length = 0 := rfl
  have h1 : (20000 : Nat) ≤ sizeLine := by decide
  omega
end
/-- raise C(..) -/
def raiseS (c : Value) (fm : Nv → Option Unit) : Nv → Option SR := fun ρ => (fm ρ).map fun _ => .exc c
/-- f(..), which may raise, as a statement; x = f(..) -/
def exprCX (n : Nat) (sem : List D → Option Ou) (fr : Nv → Option (List D)) : Nv → Option SR := fun ρ => (fr ρ).bind fun ds => if ds.length = n then match sem ds with
  | some (.ret _ _ _) => some (.nx ρ)
  | some (.exc c) => some (.exc c)
  | _ => none
  else none
def setCX (i n : Nat) (sem : List D → Option Ou) (fr : Nv → Option (List D)) : Nv → Option SR := fun ρ => (fr ρ).bind fun ds => if ds.length = n then match sem ds with
  | some (.ret d _ _) => some (.nx (ρ.set i (some (.sh d))))
  | some (.exc c) => some (.exc c)
  | _ => none
  else none
section
variable {P : Program} {w : World} {K : PySem.W.Frag} {mg : Str → Option Value} {base : Heap} {cs : List Tb} {cl : Value → Value} {X : Cx} {E : XK} {e m : Expr} {es : List Expr} {pos p p2 : Pos} {fr : Nv → Option (List D)} {fm : Nv → Option Unit} {x y : Str} {k j i : Nat} {ps : List Str} {ms : List Md} {sem : List D → Option Ou} {C : Addr} {c : Value}
theorem sd_raise (T : Ecl X.K X.mg x C) (hcl : cl c = .ref C) (hc : X.calm = true) (tk : Takes X (fun cls d _ H => E cls d H)) (hg : Gl X x) (hm : EM cs X m fm) (hs : starEach [m] X.env = (false, eval m X.env) :: starEach [] X.env := by rfl) (hdb : (x == ("__debug__" : Str)) = false := by decide) :
    SD cs X (EXc cl E) (.Raise (some (.Call (.Name x p) [m] [] p2)) none pos) (raiseS c fm) :=
  ⟨ps_imp (ps_raise hc tk (SkE.pmk_own1 PySem.F.excBase_ValueError T.exc T.g T.keep (raises_own T.sub T.ty) hg hm.h hs hdb)) fun D σ H ⟨Z, F, ρ, r, R, ef, w⟩ => by
  obtain ⟨u, e1, rfl⟩ := Option.map_eq_some_iff.mp ef
  refine ⟨Z, F, ρ, R, e1, fun v F1 H1 x1 R1 => ?_⟩
  have := w F1 H1 x1 R1.bare
  show E (.ref C) none H1
  rw [← hcl]
  exact this⟩
/-- what a call that may raise comes to, at the slots σ -/
theorem t_callX {W : WX} {D : D → Nv → SR} {fr : Nv → Option (List PyData)} {K : PySem.W.Frag} (hro : ∀ m ∈ ms, m = .ro) {σ : L2.St} {H : Hp} {Z F : Hp} {ρ : Nv} {ds : List PyData} {o : Ou} (Q : VK) (R : Rep K cs Z F H σ ρ) (ef : fr ρ = some ds) (hl : ds.length = ms.length) (es : sem ds = some o)
    (q1 : ∀ d own outs, o = .ret d own outs → ∀ v F' H', Ext F F' → Rep K cs Z F' H' σ ρ → Rp K F' v d → Q v H')
    (q2 : ∀ c, o = .exc c → ∀ F' H', Ext F F' → Rep K cs Z F' H' σ ρ → W (cl c) none σ H') : tCallS (spDX cl K cs ms sem) (WE W) (tPA K cs fr) σ H Q := by
  refine ⟨Z, F, ρ, ds, R, ef, fun vs F1 H1 x1 R1 r1 => ?_⟩
  have hv : vs.length = ms.length := by rw [r1.len]; exact hl
  refine ⟨oth F1 H1, F1, ds, o, hv, hl, ioOk_ro hro, ?_, es, ?_⟩
  · rw [argNv_ro hro hv hl]
    exact R1.lend r1
  · cases o with
    | ret d own outs =>
      intro v F2 H2 x2 R2 res
      have RB := R1.back x2 R2
      unfold ResV at res
      split at res
      · obtain ⟨p', rfl, h1, h2, h3, h4⟩ := res
        obtain ⟨z1, z2⟩ := R1.backN h2
        obtain ⟨o, g1, g2⟩ := h4.rp
        exact q1 d own outs rfl _ _ _ ((x1.trans x2).trans (Ext.upd h1)) (RB.give g1 h1 z1 z2 (h4.pl g1)) (g2 _ (Ext.upd h1) upd_same)
      · exact q1 d own outs rfl v F2 H2 (x1.trans x2) RB res
    | exc c =>
      intro F2 H2 x2 R2
      exact q2 c rfl F2 H2 (x1.trans x2) (R1.back x2 R2)
theorem pe_callXs (F : CalX P w K mg base cs cl x k ps ms sem) (hX : AtX X P w K mg base) (hr : Room j X.A) (hj : k ≤ j) (hg : Gl X x) (ha : EPs cs X (e :: es) fr) {W : WX} (tk : Takes X W) (hdb : (x == ("__debug__" : Str)) = false := by decide)
    (he : starEach (e :: es) X.env = (false, eval e X.env) :: starEach es X.env := by rfl) (hpl : (backTo pos (starEach es X.env)).any (·.1) = false := by rfl) :
    PE X (.Call (.Name x p) (e :: es) [] pos) (tCallS (spDX cl X.K cs ms sem) (WE W) (tPA X.K cs fr)) := by
  obtain ⟨rfl, rfl, rfl, rfl, rfl⟩ := hX
  obtain ⟨f, fd, h1, h2, h3, h4⟩ := F.ex
  exact pe_callS h1 (hr.mono hj) hg h2 h3 h4 (fun σ => passAt tk σ) ha.h hdb he hpl
theorem sd_exprCX (F : CalX P w K mg base cs cl x k ps ms sem) (hX : AtX X P w K mg base) (hro : ∀ m ∈ ms, m = .ro) (hr : Room j X.A) (hj : k ≤ j) (hg : Gl X x) (tk : Takes X (fun cls d _ H => E cls d H)) (ha : EPs cs X (e :: es) fr) (hdb : (x == ("__debug__" : Str)) = false := by decide)
    (he : starEach (e :: es) X.env = (false, eval e X.env) :: starEach es X.env := by rfl) (hpl : (backTo pos (starEach es X.env)).any (·.1) = false := by rfl)
    (hsw : swapsWith (.Call (.Name x p) (e :: es) [] pos) none p2.line X.env = pure false := by rfl) : SD cs X (EXc cl E) (.Expr (.Call (.Name x p) (e :: es) [] pos) p2) (exprCX ms.length sem fr) :=
  ⟨ps_imp (ps_expr (pe_callXs F hX hr hj hg ha tk hdb he hpl) hsw) fun D σ H ⟨Z, F, ρ, r, R, ef, w⟩ => by
  obtain ⟨ds, e1, e2⟩ := Option.bind_eq_some_iff.mp ef
  split at e2
  · rename_i hl
    split at e2
    · rename_i d own outs es'
      cases e2
      exact t_callX (D := fun _ ρ => .nx ρ) hro _ R e1 hl es' (fun _ _ _ _ v F' H' x R' _ => w σ F' H' rfl x R') fun _ z => by cases z
    · rename_i c es'
      cases e2
      exact t_callX (D := fun _ ρ => .nx ρ) hro _ R e1 hl es' (fun _ _ _ z => by cases z) fun c z F' H' x R' => by cases z; exact w F' H' x R'.bare
    · cases e2
  · cases e2⟩
theorem sd_setCX (hN : X.N.Nodup) (hi : X.N[i]? = some y) (hx : Loc X.env.scope y) (F : CalX P w K mg base cs cl x k ps ms sem) (hX : AtX X P w K mg base) (hro : ∀ m ∈ ms, m = .ro) (hr : Room j X.A) (hj : k ≤ j) (hg : Gl X x) (tk : Takes X (fun cls d _ H => E cls d H)) (ha : EPs cs X (e :: es) fr) {yp : Pos} (hdb : (x == ("__debug__" : Str)) = false := by decide)
    (he : starEach (e :: es) X.env = (false, eval e X.env) :: starEach es X.env := by rfl) (hpl : (backTo pos (starEach es X.env)).any (·.1) = false := by rfl)
    (hs : swapsWith (.Call (.Name x p) (e :: es) [] pos) (some (.Name y yp)) p2.line X.env = pure false := by rfl) (hf : X.fn y = true ∨ X.env.scope.names.lookup y = some .local := by first | exact .inl rfl | exact .inr rfl | assumption) : SD cs X (EXc cl E) (.Assign [.Name y yp] (.Call (.Name x p) (e :: es) [] pos) p2) (setCX i ms.length sem fr) :=
  ⟨ps_imp (ps_set hN hi hx (pe_callXs F hX hr hj hg ha tk hdb he hpl) hs hf) fun D σ H ⟨Z, F, ρ, r, R, ef, w⟩ => by
  obtain ⟨ds, e1, e2⟩ := Option.bind_eq_some_iff.mp ef
  split at e2
  · rename_i hl
    split at e2
    · rename_i d own outs es'
      cases e2
      exact t_callX (D := fun _ ρ => .nx ρ) hro _ R e1 hl es' (fun d' _ _ z v F' H' x R' rp => by cases z; exact w _ F' H' (by rw [List.length_set]) x (R'.setSh i rp)) fun _ z => by cases z
    · rename_i c es'
      cases e2
      exact t_callX (D := fun _ ρ => .nx ρ) hro _ R e1 hl es' (fun _ _ _ z => by cases z) fun c z F' H' x R' => by cases z; exact w F' H' x R'.bare
    · cases e2
  · cases e2⟩
end
end DS

namespace DS
open PySem L2

/-! ## a caught exception -/
structure Exi (K : PySem.W.Frag) (C : Addr) : Prop where
  cl : (PySem.W.clsIn K C).isSome = true
  ga : PySem.W.findIn K (.ref C) "__getattribute__" = some (some (.builtin "BaseException.__getattribute__"))
  gt : ∃ gt, PySem.W.findIn K (.ref C) "__getattr__" = some gt
  sub : PySem.W.subIn K (.ref C) (.type "BaseException") = some true
  at_ : PySem.W.findIn K (.ref C) "__class__" = some (some (.builtin "object.__class__"))
  sp : PySem.W.specialIn K (.builtin "object.__class__") "__get__" = some (some (.builtin "getset_descriptor.__get__"))
  tk : PySem.W.takesIn K (.builtin "object.__class__") = some true
  mro : PySem.W.mroIn K C (.type "object") = some true
def rIsiE (K : PySem.W.Frag) (a C : Addr) : List V → Hp → VK → Prop := fun xs H Q => ∃ (c : V) (u : Value) (b : Bool), xs = [.ref a, c] ∧ ClsV c u ∧ PySem.W.kitOne K (.ref C) u = some b ∧ Q (.bl b) H
def rIsiTE (K : PySem.W.Frag) (a C : Addr) : List V → Hp → VK → Prop := fun xs H Q => ∃ (tp : Addr) (cs : List V) (us : List Value) (b : Bool), xs = [.ref a, .ref tp] ∧ H tp = some (.tup cs) ∧ Paired ClsV cs us ∧ PySem.W.kitAny K (.ref C) us = some b ∧ Q (.bl b) H
section
variable {X : Cx} {a C : Addr} {oe : Obj}
theorem exi_inst (hz : Zc (.ref C) none oe) (hd : ∃ vs, oe.data = .fields vs) {h : Heap} (e : h.get? a = some oe) : PySem.W.InstAt h a oe C none := by
  obtain ⟨vs, hd⟩ := hd
  refine ⟨e, hz.1, ?_, ?_⟩
  · unfold PySem.W.notCls
    rw [hd]
  · rw [hz.2]
    trivial
theorem call_isiE (hp : (a, oe) ∈ X.pn) (hz : Zc (.ref C) none oe) (hd : ∃ vs, oe.data = .fields vs) (T : Exi X.K C) : CallR X (.builtin "isinstance") (rIsiE X.K a C) := by
  intro pins s σ H xs us Q I r h
  obtain ⟨c, u, b, rfl, k, e, q⟩ := h
  obtain ⟨u1, u2, rfl, r1, r2⟩ := vals2 r
  have e2 := k.eq r2
  subst e2
  cases r1
  obtain ⟨gt, hgt⟩ := T.gt
  have hI := exi_inst hz hd (I.pin (a, oe) (List.mem_append_left _ hp)).1
  exact PySem.W.kia_one (PySem.W.kitx_exc T.cl T.ga hgt T.sub T.at_ T.sp T.tk T.mro) I.kIn hI e (fun z => by cases z) fun tk => ⟨.bl b, H, I.tok tk, rfl, q⟩
theorem call_isiTE (hp : (a, oe) ∈ X.pn) (hz : Zc (.ref C) none oe) (hd : ∃ vs, oe.data = .fields vs) (T : Exi X.K C) : CallR X (.builtin "isinstance") (rIsiTE X.K a C) := by
  intro pins s σ H xs us Q I r h
  obtain ⟨tp, cs, ws, b, rfl, hT, k, e, q⟩ := h
  obtain ⟨u1, u2, rfl, r1, r2⟩ := vals2 r
  cases (show u2 = Value.ref tp from r2)
  cases r1
  obtain ⟨gt, hgt⟩ := T.gt
  have hI := exi_inst hz hd (I.pin (a, oe) (List.mem_append_left _ hp)).1
  obtain ⟨_, its, rv, o, h1, h2, n, h3⟩ := (show ObjOk X.prog X.w H s.heap tp (.tup cs) from I.hok tp _ hT)
  have e3 := ClsV.all k rv
  subst e3
  obtain ⟨oc, od, dt, sl⟩ := o
  simp only at h2 h3
  subst h2 h3
  exact PySem.W.kia_tup (PySem.W.kitx_exc T.cl T.ga hgt T.sub T.at_ T.sp T.tk T.mro) I.kIn hI h1 e (fun z => by cases z) fun tk => ⟨.bl b, H, I.tok tk, rfl, q⟩
end
/-- isinstance(e, T), e in slot i -/
def tIsE (i : Nat) (a : Addr) (b : Bool) : TE := fun σ H Q => σ[i]? = some (some (.ref a)) ∧ Q (.bl b) H
/-- isinstance(e, (T, ..)) -/
def tIsTE (i : Nat) (a : Addr) (b : Bool) : TE := fun σ H Q => σ[i]? = some (some (.ref a)) ∧ ∀ p ks, H p = none → Q (.bl b) (upd H p (.tup ks))
section
variable {X : Cx} {a C : Addr} {oe : Obj} {i : Nat} {n T : Str} {p1 p2 p3 pos : Pos} {b : Bool} {c : V} {u : Value} {x : Expr}
theorem pe_isE (hp : (a, oe) ∈ X.pn) (hz : Zc (.ref C) none oe) (hd : ∃ vs, oe.data = .fields vs) (E : Exi X.K C) (hg : Gl X "isinstance") (hm : X.mg "isinstance" = none) (hn : PE X (.Name n p2) (tVar i)) (hT : PE X x (tC c)) (hc : ClsV c u) (hk : PySem.W.kitOne X.K (.ref C) u = some b)
    (hs : starEach [.Name n p2, x] X.env = (false, eval (.Name n p2) X.env) :: starEach [x] X.env := by rfl) (hs2 : starEach [x] X.env = (false, eval x X.env) :: starEach [] X.env := by rfl) (hpl : (backTo pos (starEach [x] X.env)).any (·.1) = false := by rfl) :
    PE X (.Call (.Name "isinstance" p1) [.Name n p2, x] [] pos) (tIsE i a b) :=
  pe_imp (pe_callB (call_isiE hp hz hd E) hg hm PyProof.Rows.boot_isinstance (pa_cons hn (pa_cons hT pa_nil hs2) hs) (by decide) (by decide) hs hpl) fun σ H Q ⟨h1, h2⟩ => ⟨.ref a, h1, c, u, b, rfl, hc, hk, h2⟩
theorem pe_isTE {es : List Expr} {ks : List V} {us : List Value} {j : Nat} (hp : (a, oe) ∈ X.pn) (hz : Zc (.ref C) none oe) (hd : ∃ vs, oe.data = .fields vs) (E : Exi X.K C) (hg : Gl X "isinstance") (hm : X.mg "isinstance" = none) (hn : PE X (.Name n p2) (tVar i)) (hT : PE X (.Tuple es j p3) (fun σ H Q => ∀ p, H p = none → Q (.ref p) (upd H p (.tup ks)))) (hc : Paired ClsV ks us) (hk : PySem.W.kitAny X.K (.ref C) us = some b)
    (hs : starEach [.Name n p2, .Tuple es j p3] X.env = (false, eval (.Name n p2) X.env) :: starEach [.Tuple es j p3] X.env := by rfl) (hs2 : starEach [.Tuple es j p3] X.env = (false, eval (.Tuple es j p3) X.env) :: starEach [] X.env := by rfl) (hpl : (backTo pos (starEach [.Tuple es j p3] X.env)).any (·.1) = false := by rfl) :
    PE X (.Call (.Name "isinstance" p1) [.Name n p2, .Tuple es j p3] [] pos) (tIsTE i a b) :=
  pe_imp (pe_callB (call_isiTE hp hz hd E) hg hm PyProof.Rows.boot_isinstance (pa_cons hn (pa_cons hT pa_nil hs2) hs) (by decide) (by decide) hs hpl) fun σ H Q ⟨h1, h2⟩ => ⟨.ref a, h1, fun p hp' => ⟨p, ks, us, b, rfl, upd_same, hc, hk, h2 p _ hp'⟩⟩
end
/-! ## try: y = f(..) except M as n: what returns -/
def tryS (j n i : Nat) (sem : List D → Option Ou) (fr : Nv → Option (List D)) (gs : Value → Nv → Option SR) : Nv → Option SR := fun ρ => (fr ρ).bind fun ds => if ds.length = n then match sem ds with
  | some (.ret d _ _) => some (.nx (ρ.set j (some (.sh d))))
  | some (.exc c) => if i < ρ.length then match gs c (ρ.set i none) with
    | some (.rt d o ρ') => some (.rt d o ρ')
    | _ => none
    else none
  | _ => none
  else none
theorem sd_try1 {P : Program} {w : World} {K : PySem.W.Frag} {mg : Str → Option Value} {base : Heap} {cs : List Tb} {cl : Value → Value} {X : Cx} {E : XK} {body suite : List Stmt} {b0 : Stmt} {np pos pos' : Pos} {i j k : Nat} {x n : Str} {M : Addr} {ms : List Md} {sem : List D → Option Ou} {fr : Nv → Option (List D)} {gs : Value → Nv → Option SR}
    (hs : X.stack = X.env :: X.outer) (hf : X.env.frame = some X.env.locals) (hN : X.N.Nodup) (hi : X.N[i]? = some n) (hln : X.env.kindOf n = some .local) (hc : Names X x (.ref M)) (hro : ∀ m ∈ ms, m = .ro)
    (hb : ∀ (W : WX) (pn : List (Addr × Obj)) (xe : Value → Shared → Prop), Takes (X.tr pn xe) W → PassesOwn (model X.prog X.w) X.A X.env xe → PSs (X.tr pn xe) body (tAsg (tCallS (spDX cl X.K cs ms sem) (WE W) (tPA X.K cs fr)) (gName j)))
    (hit : ∀ c, (∃ ds, sem ds = some (.exc c)) → PySem.W.exmOne X.K (cl c) (.ref M) = some true)
    (hsu : ∀ (a : Addr) (oe : Obj) (cls : Value) (d : Option Addr) (pn : List (Addr × Obj)), Zc cls d oe → (∃ vs, oe.data = .fields vs) → PSs (X.suite a ((a, oe) :: pn)) (b0 :: suite) (fun D σ H => ∃ c, (∃ ds, sem ds = some (.exc c)) ∧ cls = cl c ∧ d = none ∧ σ[i]? = some (some (.ref a)) ∧ tS X.K cs E (gs c) D σ H)) :
    SD cs X E (.Try body [.ExceptHandler (some (.Name x np)) (some n) (b0 :: suite) pos'] [] [] pos) (tryS j ms.length i sem fr gs) :=
  ⟨ps_imp (ps_try_as hs hf hN hi hln hc takes0 hb hsu) fun D σ H ⟨Z, F, ρ, r, R, ef, w⟩ => by
  obtain ⟨ds, e1, e2⟩ := Option.bind_eq_some_iff.mp ef
  have hlen : i < σ.length → (σ.set i (some (V.ref 0)))[i]? = some (some (V.ref 0)) := fun h => List.getElem?_set_self h
  split at e2
  · rename_i hl
    split at e2
    · rename_i d own outs es'
      cases e2
      refine t_callX (W := wAs X.K (.ref M) i (fun a cls d D σ H => ∃ c, (∃ ds, sem ds = some (.exc c)) ∧ cls = cl c ∧ d = none ∧ σ[i]? = some (some (.ref a)) ∧ tS X.K cs E (gs c) D σ H) (fun _ _ _ _ => False) D) (D := fun _ ρ => .nx ρ) hro _ R e1 hl es' (fun d' _ _ z v F' H' x R' rp => ?_) fun _ z => by cases z
      cases z
      exact w _ F' H' (by rw [List.length_set]) x (R'.setSh j rp)
    · rename_i c es'
      split at e2
      case isFalse => cases e2
      rename_i hiρ
      split at e2
      · rename_i d o ρ' eg
        cases e2
        refine t_callX (W := wAs X.K (.ref M) i (fun a cls d D σ H => ∃ c, (∃ ds, sem ds = some (.exc c)) ∧ cls = cl c ∧ d = none ∧ σ[i]? = some (some (.ref a)) ∧ tS X.K cs E (gs c) D σ H) (fun _ _ _ _ => False) D) (D := fun _ ρ => .nx ρ) hro _ R e1 hl es' (fun _ _ _ z => by cases z) fun c' z F' H' x R' => ?_
        cases z
        refine ⟨true, hit c ⟨ds, es'⟩, fun _ a _ => ?_, fun z => by cases z⟩
        have hil : i < σ.length := by
          rw [R'.len]
          exact hiρ
        exact ⟨c, ⟨ds, es'⟩, rfl, rfl, List.getElem?_set_self hil, Z, F', ρ.set i none, .rt d o ρ', R'.drop i _, eg, fun v σ' F2 H2 l2 x2 R2 res => w v σ' F2 H2 (by rw [l2, List.length_set]) (x.trans x2) R2 res⟩
      · cases e2
    · cases e2
  · cases e2⟩
end DS

namespace DS
open PySem L2

/-! ## tuple + tuple; a text nought times or once; pop(i) -/
def addTD : D → D → Option D
  | .tuple xs, .tuple ys => if xs.length + ys.length ≤ 100000 then some (.tuple (xs ++ ys)) else none
  | _, _ => none
def mulSD : D → D → Option D
  | .str x, .int j => if j = 0 then some (.str Str.empty) else if j = 1 then some (.str x) else none
  | _, _ => none
def popAtD (k : D) : D → Option D
  | .list xs => match k with
    | .int i => if 0 ≤ i ∧ i < xs.length ∧ xs.length ≤ 100000 then some (.list (xs.eraseIdx i.toNat)) else none
    | _ => none
  | _ => none
def popAtS (i : Nat) (fk : Nv → Option D) : Nv → Option SR := fun ρ => (fk ρ).bind fun k => mutS i (popAtD k) ρ
theorem six_is {i : Int} {n : Nat} (h : 0 ≤ i ∧ i < n) : seqIndex? i n = some i.toNat := by
  unfold seqIndex?
  have h0 : ¬ i < 0 := by omega
  simp only [h0, if_false]
  have h1 : (decide (0 ≤ i) && decide (i < (n : Int))) = true := by
    rw [Bool.and_eq_true, decide_eq_true_eq, decide_eq_true_eq]
    exact h
  rw [h1]
  rfl
theorem Rps.erase {K : PySem.W.Frag} {F : Hp} : ∀ {xs : List V} {ds : List D} (k : Nat), Rps K F xs ds → Rps K F (xs.eraseIdx k) (ds.eraseIdx k)
  | _, _, _, .nil => .nil
  | _, _, 0, .cons _ r => r
  | _, _, k + 1, .cons a r => .cons a (Rps.erase k r)
section
variable {cs : List Tb} {X : Cx} {E : XK} {e k : Expr} {x : Str} {p pos apos cpos : Pos} {i : Nat} {fa fk : Nv → Option D}
theorem od_addT : OpR X (binaryOp .Add) (rD X.K cs addTD) := by
  rintro pins s σ H v u a b Q I rx ry ⟨Z, F, σ', ρ, x, y, d, R, w1, w2, e, q⟩
  unfold addTD at e
  split at e
  · split at e
    · rename_i hl
      cases e
      obtain ⟨a1, vs, rfl, f1, s1, r1⟩ := R.tup w1
      obtain ⟨a2, ws, rfl, f2, s2, r2⟩ := R.tup w2
      have hz : vs.length + ws.length ≤ sizeLine := by
        rw [r1.len, r2.len]
        exact Nat.le_trans hl (by decide)
      refine op_catA pins s σ H _ _ a b Q I rx ry ⟨_, _, _, _, rfl, rfl, s1, s2, hz, fun h => ?_, fun _ h => ?_, fun _ _ p hp => ?_⟩
      · subst h
        have ra := r1.app r2
        rw [List.nil_append] at ra
        exact q _ F H (Ext.refl F) R (.tup f2 ra)
      · subst h
        have ra := r1.app r2
        rw [List.append_nil] at ra
        exact q _ F H (Ext.refl F) R (.tup f1 ra)
      · obtain ⟨R4, e4, _⟩ := R.new (o := .tup (vs ++ ws)) hp
        exact q _ _ _ e4 R4 (.tup upd_same ((r1.app r2).ext e4))
    · cases e
  · cases e
theorem op_mul_s : OpR X (binaryOp .Mult) (fun x y H Q => ∃ s j, x = .str s ∧ y = .int j ∧ ((j = 0 ∧ Q (.str Str.empty) H) ∨ (j = 1 ∧ Q (.str s) H))) := by
  intro pins s σ H x y v u Q I rx ry h
  obtain ⟨z, j, rfl, rfl, h⟩ := h
  obtain ⟨t, rfl⟩ := rx
  obtain ⟨t', rfl⟩ := ry
  rcases h with ⟨rfl, q⟩ | ⟨rfl, q⟩
  · exact PySem.P.mul_str_none (by decide) (by decide) ⟨.str Str.empty, H, I.tok _, ⟨_, rfl⟩, q⟩
  · refine PySem.P.mul_str (by decide) (fun _ h => ?_) (fun _ h => ?_) ?_
    · exact absurd h (by simp)
    · exact absurd h (by simp)
    · rw [if_neg (by decide), if_pos (by simp)]
      exact ⟨.str z, H, I, ⟨_, rfl⟩, q⟩
theorem od_mulS : OpR X (binaryOp .Mult) (rD X.K cs mulSD) := by
  rintro pins s σ H v u a b Q I rx ry ⟨Z, F, σ', ρ, x, y, d, R, w1, w2, e, q⟩
  unfold mulSD at e
  split at e
  · cases R.vstr w1
    cases R.vint w2
    split at e
    · rename_i hj
      cases e
      exact op_mul_s pins s σ H _ _ a b Q I rx ry ⟨_, _, rfl, rfl, .inl ⟨hj, q _ F H (Ext.refl F) R (.str _)⟩⟩
    · split at e
      · rename_i hj
        cases e
        exact op_mul_s pins s σ H _ _ a b Q I rx ry ⟨_, _, rfl, rfl, .inr ⟨hj, q _ F H (Ext.refl F) R (.str _)⟩⟩
      · cases e
  · cases e
theorem sd_popAt (h : PE X (.Name x p) (tVar i)) (hk : EP' cs X k fk) (hbase : attributeBase (.Name x p) "pop" X.env (eval (.Name x p) X.env) = eval (.Name x p) X.env := by rfl)
    (hfew : ((backTo cpos (starEach [k] X.env)).all (fun x => !x.1) && (backToKw cpos (keywordEach [] X.env)).all (fun x => x.1.isSome)
      && decide (([k] : List Expr).length + ([] : List Keyword).length + (if ([] : List Keyword).isEmpty then 0 else 1) < 30)) = true := by rfl)
    (hline : (apos.endLine == cpos.line) = true := by rfl) (hs : starEach [k] X.env = (false, eval k X.env) :: starEach [] X.env := by rfl) (hplain : (backTo cpos (starEach ([] : List Expr) X.env)).any (·.1) = false := by rfl)
    (hsw : swapsWith (.Call (.Attribute (.Name x p) "pop" apos) [k] [] cpos) none pos.line X.env = pure false := by rfl) :
    SD cs X E (.Expr (.Call (.Attribute (.Name x p) "pop" apos) [k] [] cpos) pos) (popAtS i fk) :=
  ⟨ps_imp (ps_expr (pe_bm PySem.F.plainAttrs_list PySem.F.slot_list_pop PySem.F.type_list_pop mt_popAt h (pa_cons hk.h pa_nil hs) hbase hfew hline hs hplain) hsw) fun D σ H ⟨Z, F, ρ, r, R, ef, w⟩ => by
  obtain ⟨kd, e0, e2⟩ := Option.bind_eq_some_iff.mp ef
  obtain ⟨c, d, hc, hm, e3, rfl⟩ := mutS_some e2
  obtain ⟨a, h1, fa0, za, ow⟩ := R.mine i c hc hm
  unfold popAtD at e3
  split at e3
  · rename_i xs hg
    split at e3
    · rename_i n
      split at e3
      · rename_i hb
        cases e3
        rw [hg] at ow
        obtain ⟨vs, g1, g2⟩ := ow
        refine ⟨.ref a, h1, .inl ⟨rfl, vs, .inl (.inl g1)⟩, Z, F, ρ, _, R, e0, fun u F0 H0 x0 R0 r0 => ?_⟩
        obtain ⟨a', h1', _, _, ow'⟩ := R0.mine i c hc hm
        rw [h1] at h1'
        cases h1'
        rw [hg] at ow'
        obtain ⟨vs', g1', g2'⟩ := ow'
        cases r0
        have hl := g2'.len
        have hb0 := hb.1
        have hb1 := hb.2.1
        have hb2 := hb.2.2
        have hi : n.toNat < vs'.length := by omega
        refine ⟨a, vs', n, n.toNat, vs'[n.toNat], rfl, rfl, g1', by omega, by omega, six_is ⟨hb0, by omega⟩, List.getElem?_eq_getElem hi, w σ F0 _ rfl x0 (R0.mut hc hm h1 ⟨_, upd_same, g2'.erase _⟩)⟩
      · cases e3
    · cases e3
  · cases e3⟩
end
end DS

namespace DS
open PySem L2

/-! ## except M as e: a suite over data, e's slot lent -/
/-- the heap, and new things -/
inductive Grow (H : Hp) : Hp → Prop
  | refl : Grow H H
  | step {H' : Hp} {p : Addr} {o : HO} : Grow H H' → H' p = none → (∀ ps, o ≠ .tbl ps) → Grow H (upd H' p o)
theorem Grow.trans {H H1 H2 : Hp} (a : Grow H H1) (b : Grow H1 H2) : Grow H H2 := by
  induction b with
  | refl => exact a
  | step _ h nt ih => exact .step ih h nt
theorem Rep.grown {K : PySem.W.Frag} {cs : List Tb} {Z F H H' : Hp} {σ : L2.St} {ρ : Nv} (g : Grow H H') (R : Rep K cs Z F H σ ρ) : ∃ F', Ext F F' ∧ Rep K cs Z F' H' σ ρ := by
  induction g with
  | refl => exact ⟨F, Ext.refl F, R⟩
  | step _ h nt ih =>
    obtain ⟨F', e, R'⟩ := ih
    obtain ⟨R2, e2, _⟩ := R'.new h nt
    exact ⟨_, e.trans e2, R2⟩
/-- an expression that comes to v where C holds of the slots -/
structure EK (X : Cx) (C : L2.St → Prop) (e : Expr) (v : V) : Prop where
  h : PE X e (fun σ H Q => C σ ∧ ∀ H', Grow H H' → Q v H')
/-- which of the program's classes a refusal is of -/
def isaB (c : Value) (T : String) : Bool := match c with
  | .type x => x == T
  | _ => false
structure Rsd (K : PySem.W.Frag) (cl : Value → Value) (c : Value) : Prop where
  ex : ∃ C, cl c = .ref C ∧ Exi K C
/-- what isinstance says of it: T a class of the program; a built-in one -/
structure Isa (K : PySem.W.Frag) (mg : Str → Option Value) (cl : Value → Value) (c : Value) (T : Str) (b : Bool) : Prop where
  ex : ∃ C CT, cl c = .ref C ∧ mg T = some (.ref CT) ∧ PySem.W.kitOne K (.ref C) (.ref CT) = some b
structure IsaB (K : PySem.W.Frag) (mg : Str → Option Value) (cl : Value → Value) (c : Value) (T : Str) (n : String) (b : Bool) : Prop where
  ex : ∃ C, cl c = .ref C ∧ mg T = none ∧ bootBuiltins T = some (.type n) ∧ PySem.W.kitOne K (.ref C) (.type n) = some b
section
variable {cs : List Tb} {cl : Value → Value} {X : Cx} {C0 : L2.St → Prop} {a : Addr} {oe : Obj} {i : Nat} {n T : Str} {p1 p2 p3 p4 pos : Pos} {b : Bool} {c : Value} {tn : String}
theorem ek_isE (hp : (a, oe) ∈ X.pn) (hz : Zc (cl c) none oe) (hd : ∃ vs, oe.data = .fields vs) (E : Rsd X.K cl c) (hg : Gl X "isinstance") (hm : X.mg "isinstance" = none) (hn : PE X (.Name n p2) (tVar i)) (hC : ∀ σ, C0 σ → σ[i]? = some (some (.ref a))) (hgT : Gl X T) (hk : Isa X.K X.mg cl c T b) (hdb : (T == ("__debug__" : Str)) = false := by decide)
    (hs : starEach [.Name n p2, .Name T p3] X.env = (false, eval (.Name n p2) X.env) :: starEach [.Name T p3] X.env := by rfl) (hs2 : starEach [.Name T p3] X.env = (false, eval (.Name T p3) X.env) :: starEach [] X.env := by rfl) (hpl : (backTo pos (starEach [.Name T p3] X.env)).any (·.1) = false := by rfl) :
    EK X C0 (.Call (.Name "isinstance" p1) [.Name n p2, .Name T p3] [] pos) (.bl b) := by
  obtain ⟨C, e1, e2⟩ := E.ex
  obtain ⟨C', CT, e3, e4, e5⟩ := hk.ex
  rw [e1] at e3
  cases e3
  rw [e1] at hz
  exact ⟨pe_imp (pe_isE hp hz hd e2 hg hm hn (pe_glob (v := .ref CT) hgT e4 rfl hdb) (.own CT) e5 hs hs2 hpl) fun σ H Q ⟨h1, q⟩ => ⟨hC σ h1, q H .refl⟩⟩
theorem ek_isEB (hp : (a, oe) ∈ X.pn) (hz : Zc (cl c) none oe) (hd : ∃ vs, oe.data = .fields vs) (E : Rsd X.K cl c) (hg : Gl X "isinstance") (hm : X.mg "isinstance" = none) (hn : PE X (.Name n p2) (tVar i)) (hC : ∀ σ, C0 σ → σ[i]? = some (some (.ref a))) (hgT : Gl X T) (hk : IsaB X.K X.mg cl c T tn b) (hnm : T ≠ "__name__" := by decide) (hdb : (T == ("__debug__" : Str)) = false := by decide)
    (hs : starEach [.Name n p2, .Name T p3] X.env = (false, eval (.Name n p2) X.env) :: starEach [.Name T p3] X.env := by rfl) (hs2 : starEach [.Name T p3] X.env = (false, eval (.Name T p3) X.env) :: starEach [] X.env := by rfl) (hpl : (backTo pos (starEach [.Name T p3] X.env)).any (·.1) = false := by rfl) :
    EK X C0 (.Call (.Name "isinstance" p1) [.Name n p2, .Name T p3] [] pos) (.bl b) := by
  obtain ⟨C, e1, e2⟩ := E.ex
  obtain ⟨C', e3, e4, e5, e6⟩ := hk.ex
  rw [e1] at e3
  cases e3
  rw [e1] at hz
  exact ⟨pe_imp (pe_isE hp hz hd e2 hg hm hn (pe_bltn (v := .ty tn) hgT e4 e5 rfl hnm hdb) (.ty tn) e6 hs hs2 hpl) fun σ H Q ⟨h1, q⟩ => ⟨hC σ h1, q H .refl⟩⟩
/-- isinstance(e, (T, ..)), all of them classes of the program -/
inductive IsaT (X : Cx) (cl : Value → Value) (c : Value) : List Expr → Bool → Prop
  | nil : IsaT X cl c [] false
  | cons {T : Str} {p : Pos} {r : List Expr} {b d : Bool} : Gl X T → (T == ("__debug__" : Str)) = false → Isa X.K X.mg cl c T b → starEach (.Name T p :: r) X.env = (false, eval (.Name T p) X.env) :: starEach r X.env → IsaT X cl c r d → IsaT X cl c (.Name T p :: r) (b || d)
theorem isaT_pa {C : Addr} (hC : cl c = .ref C) {es : List Expr} (h : IsaT X cl c es b) : ∃ (ks : List V) (us : List Value), ks.length ≤ es.length ∧ PA X es (fun σ H Q => Q ks H) ∧ Paired ClsV ks us ∧ PySem.W.kitAny X.K (.ref C) us = some b := by
  induction h with
  | nil => exact ⟨[], [], Nat.le_refl _, pa_nil, .nil, rfl⟩
  | cons hg hdb hk hs _ ih =>
    obtain ⟨ks, us, h0, h1, h2, h3⟩ := ih
    obtain ⟨C', CT, e3, e4, e5⟩ := hk.ex
    rw [hC] at e3
    cases e3
    refine ⟨.ref CT :: ks, .ref CT :: us, Nat.succ_le_succ h0, ?_, .cons (.own CT) h2, ?_⟩
    · exact pa_cons (pe_glob (v := .ref CT) hg e4 rfl hdb) h1 hs
    · unfold PySem.W.kitAny
      rw [e5]
      rename_i b1 d1 _
      cases b1
      · exact h3
      · rfl
theorem ek_isTE {es : List Expr} {j : Nat} (hp : (a, oe) ∈ X.pn) (hz : Zc (cl c) none oe) (hd : ∃ vs, oe.data = .fields vs) (E : Rsd X.K cl c) (hg : Gl X "isinstance") (hm : X.mg "isinstance" = none) (hn : PE X (.Name n p2) (tVar i)) (hC : ∀ σ, C0 σ → σ[i]? = some (some (.ref a))) (hk : IsaT X cl c es b) (hle : es.length ≤ 20 := by decide)
    (hs : starEach [.Name n p2, .Tuple es j p3] X.env = (false, eval (.Name n p2) X.env) :: starEach [.Tuple es j p3] X.env := by rfl) (hs2 : starEach [.Tuple es j p3] X.env = (false, eval (.Tuple es j p3) X.env) :: starEach [] X.env := by rfl) (hpl : (backTo pos (starEach [.Tuple es j p3] X.env)).any (·.1) = false := by rfl) :
    EK X C0 (.Call (.Name "isinstance" p1) [.Name n p2, .Tuple es j p3] [] pos) (.bl b) := by
  obtain ⟨C, e1, e2⟩ := E.ex
  obtain ⟨ks, us, h0, h1, h2, h3⟩ := isaT_pa e1 hk
  rw [e1] at hz
  have hz2 : ks.length ≤ sizeLine := Nat.le_trans (Nat.le_trans h0 hle) (by decide)
  exact ⟨pe_imp (pe_isTE hp hz hd e2 hg hm hn (pe_imp (pe_tup h1) fun σ H Q q => ⟨hz2, q⟩) h2 h3 hs hs2 hpl) fun σ H Q ⟨h4, q⟩ => ⟨hC σ h4, fun p o hp' => q _ (.step .refl hp' (by intro _ z; cases z))⟩⟩
theorem ek_str {s : Str} {j : Nat} : EK X C0 (.Constant (.str s) j pos) (.str s) := ⟨pe_imp pe_str fun σ H Q ⟨_, q⟩ => q H .refl⟩
theorem ek_var {j : Nat} {x : Str} {v : V} (h : PE X (.Name x p1) (tVar j)) (hC : ∀ σ, C0 σ → σ[j]? = some (some v)) : EK X C0 (.Name x p1) v := ⟨pe_imp h fun σ H Q ⟨h1, q⟩ => ⟨v, hC σ h1, q H .refl⟩⟩
theorem ek_not {e : Expr} (h : EK X C0 e (.bl b)) : EK X C0 (.UnaryOp .Not e pos) (.bl (!b)) := ⟨pe_imp (pe_not h.h) fun σ H Q ⟨h1, q⟩ => ⟨h1, fun H' g => ⟨b, rfl, q H' g⟩⟩⟩
theorem ek_one {op : BoolOp} {e : Expr} {v : V} (h : EK X C0 e v) : EK X C0 (.BoolOp op [e] pos) v := ⟨pe_one h.h⟩
theorem ek_or {e e2 : Expr} {r : List Expr} {d : Bool} (h : EK X C0 e (.bl b)) (h2 : EK X C0 (.BoolOp .Or (e2 :: r) pos) (.bl d)) : EK X C0 (.BoolOp .Or (e :: e2 :: r) pos) (.bl (b || d)) := ⟨pe_imp (pe_or h.h h2.h) fun σ H Q ⟨h1, q⟩ => ⟨h1, fun H' g => ⟨b, rfl, by
  cases b
  · exact ⟨h1, fun H2 g2 => q H2 (g.trans g2)⟩
  · exact q H' g⟩⟩⟩
theorem ek_cat {e e2 : Expr} {x y : Str} (h : EK X C0 e (.str x)) (h2 : EK X C0 e2 (.str y)) (hl : x.length + y.length ≤ 1000 := by decide) : EK X C0 (.BinOp e .Add e2 pos) (.str (x ++ y)) := ⟨pe_imp (pe_op op_add_str h.h h2.h) fun σ H Q ⟨h1, q⟩ => ⟨h1, fun H1 g1 => ⟨h1, fun H2 g2 => ⟨x, y, rfl, rfl, Nat.le_trans hl (by decide), q H2 (g1.trans g2)⟩⟩⟩⟩
def timesB (x : Str) (b : Bool) : Str := if b = true then x else Str.empty
/-- x * int(b) -/
theorem ek_times {e e2 : Expr} {x : Str} (hg : Gl X "int") (hm : X.mg "int" = none) (h : EK X C0 e (.str x)) (h2 : EK X C0 e2 (.bl b)) (he : starEach [e2] X.env = (false, eval e2 X.env) :: starEach [] X.env := by rfl) (hpl : (backTo p4 (starEach ([] : List Expr) X.env)).any (·.1) = false := by rfl) :
    EK X C0 (.BinOp e .Mult (.Call (.Name "int" p1) [e2] [] p4) pos) (.str (timesB x b)) := ⟨pe_imp (pe_op op_mul_s h.h (pe_callTy call_int1 hg hm PyProof.Rows.boot_int (pa_cons h2.h pa_nil he) (he := he) (hpl := hpl))) fun σ H Q ⟨h1, q⟩ => ⟨h1, fun H1 g1 => ⟨h1, fun H2 g2 => .inr ⟨b, rfl, x, _, rfl, rfl, by
  cases b
  · exact .inl ⟨rfl, q H2 (g1.trans g2)⟩
  · exact .inr ⟨rfl, q H2 (g1.trans g2)⟩⟩⟩⟩⟩
theorem ek_pt {e : Expr} (h : EK X C0 e (.bl b)) (he : ∀ whole, isTrue e X.env whole = (do let v ← whole; standAt e.pos; holding [v] (truthy v)) := by intro _; rfl) : PT X e (fun σ H Q => C0 σ ∧ ∀ H', Grow H H' → Q b H') := pt_imp (pt_val h.h he) fun σ H Q ⟨h1, q⟩ => ⟨h1, fun H' g => ⟨b, rfl, q H' g⟩⟩
end
abbrev tBK (C : L2.St → Prop) (b : Bool) : TT := fun σ H Q => C σ ∧ ∀ H', Grow H H' → Q b H'
theorem ekt_or1 {X : Cx} {C : L2.St → Prop} {e : Expr} {pos : Pos} {b : Bool} (h : PT X e (tBK C b)) : PW X (.BoolOp .Or [e] pos) (tBK C b) := pw_or1 h
theorem ekt_not {X : Cx} {C : L2.St → Prop} {e : Expr} {pos : Pos} {b : Bool} (h : PT X e (tBK C b)) : PT X (.UnaryOp .Not e pos) (tBK C (!b)) := pt_imp (pt_not h) fun σ H Q ⟨h1, q⟩ => ⟨h1, fun H' g => q H' g⟩
theorem ekt_or {X : Cx} {C : L2.St → Prop} {e e2 : Expr} {r : List Expr} {pos : Pos} {b d : Bool} (h : PT X e (tBK C b)) (h2 : PW X (.BoolOp .Or (e2 :: r) pos) (tBK C d)) : PW X (.BoolOp .Or (e :: e2 :: r) pos) (tBK C (b || d)) := pw_imp (pw_or h h2) fun σ H Q ⟨h1, q⟩ => ⟨h1, fun H' g => by
  cases b
  · exact ⟨h1, fun H2 g2 => q H2 (g.trans g2)⟩
  · exact q H' g⟩
theorem sd_raiseC {cs : List Tb} {cl : Value → Value} {X : Cx} {c : Value} {p1 p2 pos : Pos} {E : XK} {m : Expr} {fm : Nv → Option Unit} {x : Str} (T : ∃ C, Ecl X.K X.mg x C ∧ cl c = .ref C) (hc : X.calm = true) (tk : Takes X (fun cls d _ H => E cls d H)) (hg : Gl X x) (hm : EM cs X m fm) (hs : starEach [m] X.env = (false, eval m X.env) :: starEach [] X.env := by rfl) (hdb : (x == ("__debug__" : Str)) = false := by decide) :
    SD cs X (EXc cl E) (.Raise (some (.Call (.Name x p1) [m] [] p2)) none pos) (raiseS c fm) := by
  obtain ⟨C, h1, h2⟩ := T
  exact sd_raise h1 h2 hc tk hg hm hs hdb
/-! try: x = f(..) (or f(..) alone) except M as e: a suite that returns -/
def tryV (nx : D → Nv → Nv) (n i : Nat) (Cs : List Value) (sem : List D → Option Ou) (fr : Nv → Option (List D)) (gs : Value → Nv → Option SR) : Nv → Option SR := fun ρ => (fr ρ).bind fun ds => if ds.length = n then match sem ds with
  | some (.ret d _ _) => some (.nx (nx d ρ))
  | some (.exc c) => if c ∈ Cs ∧ i < ρ.length then match gs c (ρ.set i none) with
    | some (.rt d o ρ') => some (.rt d o ρ')
    | _ => none
    else none
  | _ => none
  else none
section
variable {P : Program} {w : World} {K : PySem.W.Frag} {mg : Str → Option Value} {base : Heap} {cs : List Tb} {cl : Value → Value} {X : Cx} {E : XK} {body suite : List Stmt} {b0 : Stmt} {np pos pos' : Pos} {i j k : Nat} {x n : Str} {M : Addr} {ms : List Md} {sem : List D → Option Ou} {fr : Nv → Option (List D)} {gs : Value → Nv → Option SR} {Cs : List Value} {nx : D → Nv → Nv}
theorem sd_tryV (tb : WX → TS) (hs : X.stack = X.env :: X.outer) (hf : X.env.frame = some X.env.locals) (hN : X.N.Nodup) (hi : X.N[i]? = some n) (hln : X.env.kindOf n = some .local) (hc : Names X x (.ref M)) (hro : ∀ m ∈ ms, m = .ro)
    (hb : ∀ (W : WX) (pn : List (Addr × Obj)) (xe : Value → Shared → Prop), Takes (X.tr pn xe) W → PassesOwn (model X.prog X.w) X.A X.env xe → PSs (X.tr pn xe) body (tb W))
    (hnx : ∀ (W : WX) (Z F H : Hp) (σ : L2.St) (ρ : Nv) (ds : List D) (o : Ou) (D : Ends), Rep X.K cs Z F H σ ρ → fr ρ = some ds → ds.length = ms.length → sem ds = some o →
      (∀ d own outs, o = .ret d own outs → ∀ σ' F' H', σ'.length = σ.length → Ext F F' → Rep X.K cs Z F' H' σ' (nx d ρ) → D.nx σ' H') → (∀ c, o = .exc c → ∀ F' H', Ext F F' → Rep X.K cs Z F' H' σ ρ → W (cl c) none σ H') → tb W D σ H)
    (hit : ∀ c ∈ Cs, PySem.W.exmOne X.K (cl c) (.ref M) = some true)
    (hsu : ∀ c ∈ Cs, ∀ (a : Addr) (oe : Obj) (pn : List (Addr × Obj)), Zc (cl c) none oe → (∃ vs, oe.data = .fields vs) → PSs (X.suite a ((a, oe) :: pn)) (b0 :: suite) (fun D σ H => σ[i]? = some (some (.ref a)) ∧ tS X.K cs E (gs c) D σ H)) :
    SD cs X E (.Try body [.ExceptHandler (some (.Name x np)) (some n) (b0 :: suite) pos'] [] [] pos) (tryV nx ms.length i Cs sem fr gs) :=
  ⟨ps_imp (ps_try_as (ts := fun a cls d D σ H => ∃ c ∈ Cs, cls = cl c ∧ d = none ∧ σ[i]? = some (some (.ref a)) ∧ tS X.K cs E (gs c) D σ H) hs hf hN hi hln hc takes0 hb fun a oe cls d pn hz hd => ⟨fun pins s σ H D I ⟨c, hc, e1, e2, h⟩ => by
    subst e1
    subst e2
    exact (hsu c hc a oe pn hz hd).run pins s σ H D I h⟩) fun D σ H ⟨Z, F, ρ, r, R, ef, w⟩ => by
  obtain ⟨ds, e1, e2⟩ := Option.bind_eq_some_iff.mp ef
  split at e2
  · rename_i hl
    split at e2
    · rename_i d own outs es'
      cases e2
      refine hnx _ Z F H σ ρ ds _ D R e1 hl es' (fun d' _ _ z => ?_) fun _ z => by cases z
      cases z
      exact w
    · rename_i c es'
      split at e2
      case isFalse => cases e2
      rename_i hcr
      split at e2
      · rename_i d o ρ' eg
        cases e2
        refine hnx _ Z F H σ ρ ds _ D R e1 hl es' (fun _ _ _ z => by cases z) fun c' z F' H' x R' => ?_
        cases z
        refine ⟨true, hit c hcr.1, fun _ a _ => ?_, fun z => by cases z⟩
        have hil : i < σ.length := by
          rw [R'.len]
          exact hcr.2
        exact ⟨c, hcr.1, rfl, rfl, List.getElem?_set_self hil, Z, F', ρ.set i none, .rt d o ρ', R'.drop i _, eg, fun v σ' F2 H2 l2 x2 R2 res => w v σ' F2 H2 (by rw [l2, List.length_set]) (x.trans x2) R2 res⟩
      · cases e2
    · cases e2
  · cases e2⟩
theorem AtX.tr (h : AtX X P w K mg base) {pn : List (Addr × Obj)} {xe : Value → Shared → Prop} : AtX (X.tr pn xe) P w K mg base := ⟨h.prog, h.w, h.K, h.mg, h.base⟩
/-- x = f(..) in the try -/
theorem sd_trySet {y fn : Str} {yp p p2 p5 : Pos} {e : Expr} {es : List Expr} {jj : Nat} {ps : List Str} (hs : X.stack = X.env :: X.outer) (hf : X.env.frame = some X.env.locals) (hN : X.N.Nodup) (hi : X.N[i]? = some n) (hln : X.env.kindOf n = some .local) (hc : Names X x (.ref M)) (hro : ∀ m ∈ ms, m = .ro)
    (hj : X.N[j]? = some y) (hx : Loc X.env.scope y) (F : CalX P w K mg base cs cl fn k ps ms sem) (hX : AtX X P w K mg base) (hr : Room jj X.A) (hk : k ≤ jj) (hg : Gl X fn) (ha : ∀ (pn : List (Addr × Obj)) (xe : Value → Shared → Prop), EPs cs (X.tr pn xe) (e :: es) fr)
    (hit : ∀ c ∈ Cs, PySem.W.exmOne X.K (cl c) (.ref M) = some true)
    (hsu : ∀ c ∈ Cs, ∀ (a : Addr) (oe : Obj) (pn : List (Addr × Obj)), Zc (cl c) none oe → (∃ vs, oe.data = .fields vs) → PSs (X.suite a ((a, oe) :: pn)) (b0 :: suite) (fun D σ H => σ[i]? = some (some (.ref a)) ∧ tS X.K cs E (gs c) D σ H))
    (hdb : (fn == ("__debug__" : Str)) = false := by decide) (he : starEach (e :: es) X.env = (false, eval e X.env) :: starEach es X.env := by rfl) (hpl : (backTo p2 (starEach es X.env)).any (·.1) = false := by rfl)
    (hsw : swapsWith (.Call (.Name fn p) (e :: es) [] p2) (some (.Name y yp)) p5.line X.env = pure false := by rfl) (hff : X.fn y = true ∨ X.env.scope.names.lookup y = some .local := by first | exact .inl rfl | exact .inr rfl | assumption) :
    SD cs X E (.Try [.Assign [.Name y yp] (.Call (.Name fn p) (e :: es) [] p2) p5] [.ExceptHandler (some (.Name x np)) (some n) (b0 :: suite) pos'] [] [] pos) (tryV (fun d ρ => ρ.set j (some (.sh d))) ms.length i Cs sem fr gs) :=
  sd_tryV (fun W => tAsg (tCallS (spDX cl X.K cs ms sem) (WE W) (tPA X.K cs fr)) (gName j)) hs hf hN hi hln hc hro
    (fun W pn xe tk _ => pss_one (ps_set (X := X.tr pn xe) hN hj hx (pe_callXs (X := X.tr pn xe) F hX.tr hr hk hg (ha pn xe) tk hdb he hpl) hsw hff))
    (fun W Z F H σ ρ ds o D R e1 hl es' q1 q2 => t_callX (W := W) (D := fun _ ρ => .nx ρ) hro _ R e1 hl es' (fun d own outs eo v F' H' x R' rp => q1 d own outs eo _ F' H' (by rw [List.length_set]) x (R'.setSh j rp)) fun c eo F' H' x R' => q2 c eo F' H' x R') hit hsu
/-- f(..) alone in the try -/
theorem sd_tryEx {fn : Str} {p p2 p5 : Pos} {e : Expr} {es : List Expr} {jj : Nat} {ps : List Str} (hs : X.stack = X.env :: X.outer) (hf : X.env.frame = some X.env.locals) (hN : X.N.Nodup) (hi : X.N[i]? = some n) (hln : X.env.kindOf n = some .local) (hc : Names X x (.ref M)) (hro : ∀ m ∈ ms, m = .ro)
    (F : CalX P w K mg base cs cl fn k ps ms sem) (hX : AtX X P w K mg base) (hr : Room jj X.A) (hk : k ≤ jj) (hg : Gl X fn) (ha : ∀ (pn : List (Addr × Obj)) (xe : Value → Shared → Prop), EPs cs (X.tr pn xe) (e :: es) fr)
    (hit : ∀ c ∈ Cs, PySem.W.exmOne X.K (cl c) (.ref M) = some true)
    (hsu : ∀ c ∈ Cs, ∀ (a : Addr) (oe : Obj) (pn : List (Addr × Obj)), Zc (cl c) none oe → (∃ vs, oe.data = .fields vs) → PSs (X.suite a ((a, oe) :: pn)) (b0 :: suite) (fun D σ H => σ[i]? = some (some (.ref a)) ∧ tS X.K cs E (gs c) D σ H))
    (hdb : (fn == ("__debug__" : Str)) = false := by decide) (he : starEach (e :: es) X.env = (false, eval e X.env) :: starEach es X.env := by rfl) (hpl : (backTo p2 (starEach es X.env)).any (·.1) = false := by rfl)
    (hsw : swapsWith (.Call (.Name fn p) (e :: es) [] p2) none p5.line X.env = pure false := by rfl) :
    SD cs X E (.Try [.Expr (.Call (.Name fn p) (e :: es) [] p2) p5] [.ExceptHandler (some (.Name x np)) (some n) (b0 :: suite) pos'] [] [] pos) (tryV (fun _ ρ => ρ) ms.length i Cs sem fr gs) :=
  sd_tryV (fun W => fun D σ H => tCallS (spDX cl X.K cs ms sem) (WE W) (tPA X.K cs fr) σ H fun _ H' => D.nx σ H') hs hf hN hi hln hc hro
    (fun W pn xe tk _ => pss_one (ps_expr (X := X.tr pn xe) (pe_callXs (X := X.tr pn xe) F hX.tr hr hk hg (ha pn xe) tk hdb he hpl) hsw))
    (fun W Z F H σ ρ ds o D R e1 hl es' q1 q2 => t_callX (W := W) (D := fun _ ρ => .nx ρ) hro _ R e1 hl es' (fun d own outs eo v F' H' x R' rp => q1 d own outs eo σ F' H' rfl x R') fun c eo F' H' x R' => q2 c eo F' H' x R') hit hsu
end
end DS

namespace DS
open PySem L2

/-! ## k not in d, d a frame's own dict with tuple keys -/
theorem pt_back {X : Cx} {e : Expr} {t : TT} (h : PT X e t) : PT X e (fun σ H Q => t σ H fun b H1 => ∃ H2, (H2 = H1 ∨ ∃ ad, H1 ad = some (.dT []) ∧ H2 = upd H1 ad (.dK [])) ∧ Q b H2) := by
  refine ⟨fun pins s σ H Q I q => thn (h.run pins s σ H _ I q) fun c s1 ⟨H1, I1, H2, sw, q2⟩ => ?_⟩
  rcases sw with rfl | ⟨ad, h1, rfl⟩
  · exact ⟨_, I1, q2⟩
  · have o1 := I1.hok ad _ h1
    obtain ⟨ob, g1⟩ : ∃ ob, s1.heap.get? ad = some ob := by
      obtain ⟨_, _, _, _, ob, _, _, g, _⟩ := o1
      exact ⟨ob, g⟩
    exact ⟨_, I1.write (x := ad) (e := ad) (h' := s1.heap) (t' := s1.toks) (by rw [h1]; trivial) (.inl rfl) (fun b u _ hu => hu) ⟨ob, g1⟩ (kind_K o1), q2⟩
def inTS (i : Nat) (fk : Nv → Option (List Key)) : Nv → Option Bool := fun ρ => (fk ρ).bind fun ks => match ρ[i]? with
  | some (some c) => if c.mine = true then match c.got with
    | .dict es => (decT es).map fun kds => (lookD kds ks).isSome
    | _ => none
    else none
  | _ => none
section
variable {cs : List Tb} {X : Cx} {e : Expr} {x : Str} {p pos : Pos} {i : Nat} {fk : Nv → Option (List Key)}
theorem pair_some {K : PySem.W.Frag} {F : Hp} {k : List Key} {kvs : List (List Key × V)} {kds : List (List Key × D)} (h : PairE K F kvs kds) : (valV kvs k).isSome = (lookD kds k).isSome := by
  rcases pair_look (k := k) h with ⟨h1, h2⟩ | ⟨v, d, h1, h2, _⟩
  · rw [h1, h2]
    rfl
  · rw [h1, h2]
    rfl
theorem et_ninT (hu : X.A.units + 65 < cLine) (hk : EKT cs X e fk) (h : PE X (.Name x p) (tVar i)) (hm : behindInMarks .NotIn (.Name x p) = false := by rfl) : ET cs X (.Compare e [.NotIn] [.Name x p] pos) (fun ρ => (inTS i fk ρ).map (! ·)) :=
  ⟨pt_imp (pt_back (pt_cmp (pc_dnotin (by omega) hk.h (pe_sw h)) hm)) fun σ H Q ⟨Z, F, ρ, b, R, ef, q⟩ => by
  obtain ⟨b', ef2, rfl⟩ := Option.map_eq_some_iff.mp ef
  obtain ⟨ks, e1, e2⟩ := Option.bind_eq_some_iff.mp ef2
  refine ⟨Z, F, ρ, ks, R, e1, fun u F1 H1 x1 R1 k1 => ?_⟩
  split at e2
  · rename_i c hc
    split at e2
    · rename_i hm
      split at e2
      · rename_i es hg
        obtain ⟨kds, e3, rfl⟩ := Option.map_eq_some_iff.mp e2
        obtain ⟨a, h1, fa, za, ow⟩ := R1.mine i c hc hm
        rw [hg] at ow
        have hk1 := R1.fh _ _ k1
        have hua : u ≠ a := fun z => by rw [z, fa] at k1; cases k1
        rcases ow with ⟨kvs, g1, g2, g3⟩ | ⟨kvs, g1, g2, g3⟩
        · rw [g3] at e3
          have := decT_enK e3
          subst this
          cases e3
          refine ⟨.ref a, h1, upd H1 a (.dT []), .inr ⟨a, g1, rfl⟩, a, none, rfl, .inr ⟨[], ks, u, .inl upd_same, rfl, by rw [upd_ne hua]; exact hk1, rfl⟩, _, rfl, H1, .inr ⟨a, upd_same, ?_⟩, q F1 H1 x1 R1⟩
          rw [upd_upd]
          funext b
          by_cases hb : b = a
          · subst hb
            rw [upd_same, g1]
          · rw [upd_ne hb]
        · obtain ⟨kds', y1, y2, y3⟩ := ents_dec g2
          rw [y1] at e3
          cases e3
          refine ⟨.ref a, h1, H1, .inl rfl, a, valV kvs ks, rfl, .inr ⟨kvs, ks, u, .inl g1, rfl, hk1, rfl⟩, _, rfl, H1, .inl rfl, ?_⟩
          rw [pair_some y3]
          exact q F1 H1 x1 R1
      · cases e2
    · cases e2
  · cases e2⟩
end
end DS

namespace DS
open PySem PySem.W PySem.Calls PyProof.Rows L2

/-! ## sorted(d, key=lambda part: (part[2] - part[1], table[part])), raw -/
def lamBody (p1 p2 p3 p4 p5 p6 p7 p8 p9 p10 p11 : Pos) (j1 j2 j3 : Nat) : Expr :=
  .Tuple [.BinOp (.Subscript (.Name "part" p1) (.Constant (.int 2) j1 p2) p3) .Sub (.Subscript (.Name "part" p4) (.Constant (.int 1) j2 p5) p6) p7, .Subscript (.Name "table" p8) (.Name "part" p9) p10] j3 p11
def lamPar (p : Pos) : Arguments := { posonlyargs := [], args := [{ arg := "part", annotation := none, pos := p }], vararg := none, kwonlyargs := [], kw_defaults := [], kwarg := none, defaults := [] }
def lamScope : Scope := { kind := .function, names := [("part", .local), ("table", .free)], isGenerator := false, isCoroutine := false, more := [] }
/-- only heap and counter moved, all that was there stands -/
def Mvd (s₁ s₂ : Shared) : Prop := ∃ h' tk, s₂ = { s₁ with heap := h', toks := tk } ∧ ∀ b o, s₁.heap.get? b = some o → h'.get? b = some o
section
variable {prog : Program} {w : World} {A : Around} {s : Shared} {f b d cc c' : Addr} {qual : Str} {cl : List (Str × Addr)} {pm ctv : Value} {nm : Value} {i j cost : Int} {ti tj tc : Tok} {n : Nat} {ks : List L2.Key} {ad : Addr} {xs : List (List L2.Key × Addr × Value)}
  {p1 p2 p3 p4 p5 p6 p7 p8 p9 p10 p11 pp : Pos} {j1 j2 j3 : Nat}
theorem lam_eval {env : Env} {E : Value → Shared → Prop} {m : Str → Option Value} (hk : env.scope.kind = .function) (hl : env.kindOf "part" = some .local) (hf : env.kindOf "table" = some .free) (hc : env.cells.lookup ("table" : Str) = some cc) (hn : s.heap.Ns env.locals m) (hm : m "part" = some (.ref b))
    (hu : A.units + 1 < cLine) (hcell : s.heap.IsCell cc (some (.ref d))) (hd : s.heap.DictOfH (tupleKind (mixKind prog w)) d xs) (hkey : (tupleKind (mixKind prog w)).is s.heap ks b) (hat : atKey xs ks = some (ad, .int cost tc))
    (htup : IsTup s.heap b #[nm, .int i ti, .int j tj]) :
    wpAny (model prog w) A (eval (lamBody p1 p2 p3 p4 p5 p6 p7 p8 p9 p10 p11 j1 j2 j3) env) (KeyPure (.tuple [.int (j - i), .int cost]) s) E s := by
  unfold lamBody
  have name1 : ∀ {tk : Nat} {p : Pos} {Q : Value → Shared → Prop}, Q (.ref b) { s with toks := tk } → wpAny (model prog w) A (eval (.Name "part" p) env) Q E { s with toks := tk } := fun {tk p Q} h =>
    wpAny_Name (wpAny_loadName_local hk hl hn hm h)
  have name2 : ∀ {tk : Nat} {p : Pos} {Q : Value → Shared → Prop}, Q (.ref d) { s with toks := tk } → wpAny (model prog w) A (eval (.Name "table" p) env) Q E { s with toks := tk } := fun {tk p Q} h =>
    wpAny_Name (wpAny_loadName_free hk hf hc hcell h)
  have sub : ∀ {tk : Nat} {p q r : Pos} {l k : Nat} {y : Value} {Q : Value → Shared → Prop}, (k = 1 ∨ k = 2) → (#[nm, Value.int i ti, .int j tj])[k]? = some y → (∀ tk', Q y { s with toks := tk' }) →
      wpAny (model prog w) A (eval (.Subscript (.Name "part" p) (.Constant (.int (k : Nat)) l q) r) env) Q E { s with toks := tk } := fun {tk p q r l k y Q} hk' hy h =>
    Subscript_Constant (name1 (wpAny_Constant_int ⟨"tuple", _, PyProof.Rows.slot_tuple_getitem.lookup, htup.typeIs, PyProof.Rows.getItem_tuple (j := k) htup (by omega) (by omega) (by rcases hk' with rfl | rfl <;> rfl) hy (h _)⟩))
  refine wpAny_Tuple_spliced ?_
  show wpAny _ _ (spliced [(false, eval (.BinOp _ .Sub _ p7) env), (false, eval (.Subscript _ _ p10) env)]) _ _ { s with toks := s.toks }
  refine spliced_cons (wpAny_BinOp (sub (k := 2) (.inr rfl) rfl fun t1 => sub (k := 1) (.inl rfl) rfl fun t2 => PySem.P.sub_int ?_))
  refine spliced_cons (Subscript_Name (name2 (name1 ⟨"dict", _, PySem.F.slot_dict_getitem.lookup, Heap.DictOfH.typeIs hd, wpAny_getItem_heap (tupleKind_room_in1 hu) hkey hd hat ?_⟩)))
  refine spliced_nil ⟨show (2 : Nat) ≤ sizeLine by decide, ?_⟩
  refine ⟨_, _, rfl, fun b o e => Heap.get?_push_of_some _ e, ?_⟩
  exact .tuple (Heap.get?_push_size _ rfl) rfl rfl (.cons (.int _ _) (.cons (.int _ _) .nil))
theorem lam_turn (hroom : A.depth < recursionLimit) (hu : A.units + 4 < cLine) (hlim : s.heap.NoLimit) (ho : s.heap.get? f = some (kla_obj "<lambda>" qual (lamPar pp) (lamBody p1 p2 p3 p4 p5 p6 p7 p8 p9 p10 p11 j1 j2 j3) lamScope cl pm c' ctv)) (hcd : s.heap.CodeRec (.ref c') qual)
    (hc : cl.lookup ("table" : Str) = some cc) (hcell : s.heap.IsCell cc (some (.ref d))) (hd : s.heap.DictOfH (tupleKind (mixKind prog w)) d xs) (hkey : (tupleKind (mixKind prog w)).is s.heap ks b) (hat : atKey xs ks = some (ad, .int cost tc))
    (htup : IsTup s.heap b #[nm, .int i ti, .int j tj]) :
    wpAny (model prog w) A (call (.ref f) [.ref b]) (KeyPure (.tuple [.int (j - i), .int cost]) s) (fun _ _ => False) s := by
  refine wpAny_call ?_
  refine kla_callFunE hroom ho rfl rfl rfl rfl hcd ?_
  have hb : bindArgs (kla_fn "<lambda>" qual (lamPar pp) (lamBody p1 p2 p3 p4 p5 p6 p7 p8 p9 p10 p11 j1 j2 j3) lamScope cl pm (.ref c') ctv) ⟨[.ref b], []⟩ = pure [(("part" : Str), .ref b)] := by
    rfl
  rw [hb]
  refine wpAny_pure (wpAny_newFunctionEnv ?_ ?_ (fun h₁ hns hsb => ?_) rfl)
  · show ∀ x ∈ lamScope.names, x.2 ≠ .cell
    decide
  · intro x hx
    rw [List.mem_singleton] at hx
    rw [hx]
    show lamScope.names.lookup ("part" : Str) = some .local
    decide
  · have kp : ∀ b o, s.heap.get? b = some o → h₁.get? b = some o := fun b o e => hsb.extBut b o (Nat.ne_of_lt (Heap.lt_size e)) (Heap.get?_push_of_some _ e)
    refine ⟨hlim.fresh _ hsb, ?_⟩
    refine kla_codeExpr ?_
    refine wpAny_mono (lam_eval (s := { s with heap := h₁, toks := s.toks + 1 }) (cc := cc) (d := d) (xs := xs) (ks := ks) (ad := ad) (tc := tc) (nm := nm) (i := i) (j := j) (ti := ti) (tj := tj) (cost := cost) (b := b) (m := fun x => ([(("part" : Str), Value.ref b)]).reverse.lookup x) rfl (show lamScope.names.lookup ("part" : Str) = some .local by decide) (show lamScope.names.lookup ("table" : Str) = some .free by decide) hc hns rfl ?_ ?_ ?_ ?_ hat ?_) (fun v s' h' => ?_) fun _ _ z => z
    · show A.units + 3 + 1 < cLine
      omega
    · obtain ⟨o, e, q⟩ := hcell
      exact ⟨o, kp _ _ e, q⟩
    · obtain ⟨o, es, ep, g1, g2, g3, g4, g5, g6⟩ := hd
      refine ⟨o, es, ep, kp _ _ g1, g2, g3, g4, fun x hx => ?_, g6⟩
      obtain ⟨o', it, n', y1, y2, y3, y4⟩ := g5 x hx
      exact ⟨o', it, n', kp _ _ y1, y2, y3, y4⟩
    · obtain ⟨o', it, n', y1, y2, y3, y4⟩ := hkey
      exact ⟨o', it, n', kp _ _ y1, y2, y3, y4⟩
    · obtain ⟨o, e1, e2, n, e3⟩ := htup
      exact ⟨o, kp _ _ e1, e2, n, e3⟩
    · obtain ⟨h2, tk, rfl, k2, r⟩ := h'
      exact ⟨h2, tk, rfl, fun b o e => k2 b o (kp b o e), r⟩
end
end DS

namespace DS
open PySem PySem.W PySem.Calls PyProof.Rows L2

/-! ## sorted(d, key=f), d a dict, over the heap alone -/
section
variable {prog : Program} {w : World} {A : Around} {E : Value → Shared → Prop} {s : Shared} {β : Type} {bs : List β} {R : Value → β → Prop} {D f : Addr} {es : Array DictEntry} {ep : Nat}
theorem each_of {vs : List Value} {bs : List β} (h : vs.length = bs.length) (hr : ∀ (i : Nat) (v : Value) (b : β), vs[i]? = some v → bs[i]? = some b → R v b) : EachIs R vs bs := by
  induction vs generalizing bs with
  | nil =>
    cases bs with
    | nil => exact .nil
    | cons b bs => cases h
  | cons v vs ih =>
    cases bs with
    | nil => cases h
    | cons b bs => exact .cons (hr 0 v b rfl rfl) (ih (Nat.succ.inj h) fun i v b h1 h2 => hr (i + 1) v b (by simpa using h1) (by simpa using h2))
theorem sorted_dict_key {Q : Value → Shared → Prop} (k : β → PyData) (lo : (D == sysModules) = false) (hm : s.heap.DictRaw D es ep) (hh : A.in1.handled = none) (hl : es.size = bs.length) (e : ∀ (i : Nat) (hi : i < es.size) (b : β), bs[i]? = some b → R es[i].key b) (hal : AllAlike (bs.map k)) (hk : Sortable (bs.map k)) (hL : bs.length ≤ sizeLine)
    (hu : ∀ x, x ∈ bs → A.units + 2 + (k x).depth < cLine)
    (turn : ∀ (v : Value) (x : β), R v x → x ∈ bs → ∀ (h : Heap) (tk : Nat), (∀ b o, s.heap.get? b = some o → h.get? b = some o) →
      wpAny (model prog w) A.in1.in1 (call (.ref f) [v]) (KeyPure (k x) { s with heap := h, toks := tk }) (fun _ _ => False) { s with heap := h, toks := tk })
    (h : ∀ (h1 : Heap) (out : List Value) (c : Nat) (h' : Heap) (tk : Nat), (∀ b o, s.heap.get? b = some o → h1.get? b = some o) → (∀ b o, h1.get? b = some o → h'.get? b = some o) → h'.get? h1.objs.size = some (seqObj "list" (List.toArray out) c) → EachIs R out (bs.mergeSort (dataLe false k)) →
      Q (.ref h1.objs.size) { s with heap := h', toks := tk }) :
    wpAny (model prog w) A (call (.builtin "sorted") [.ref D] [(Str.ofString "key", .ref f)]) Q E s := by
  refine call_function_entry_kw PyProof.Rows.kind_sorted PyProof.Rows.plain_sorted PyProof.Rows.entry_sorted (ksk_s1 _ _) ?_
  unfold Builtin.«sorted»
  refine wpAny_bind (m := checkCount "sorted" 1 1 _) (wpAny_pure ?_)
  refine wpAny_bind (kdu_collect (A := A.in1) (KdlSrc.rawDict lo) hh hm (by rw [hl]; exact hL) fun h1 t1 acc hk1 hacc => ?_)
  have hlen : acc.toList.length = bs.length := by rw [Array.length_toList, hacc.1, hl]
  have ea : EachIs R acc.toList bs := each_of hlen fun i v b hv hb => by
    obtain ⟨hi, rfl⟩ := hacc.2 i v (by rw [← Array.getElem?_toList]; exact hv)
    exact e i hi b hb
  refine wpAny_bind (wpAny_newList ?_ (by rw [hlen]; exact hL))
  have hat : (h1.push { cls := .type "list", data := .seq acc.toList.toArray }).get? h1.objs.size = some (seqObj "list" acc.toList.toArray 0) := Heap.get?_push_size _ rfl
  have fresh : ∀ b o, s.heap.get? b = some o → b ≠ h1.objs.size := fun b o q => Nat.ne_of_lt (Heap.lt_size (hk1 b o q))
  have up : ∀ {g : Heap}, KeepsBut h1.objs.size (h1.push { cls := .type "list", data := .seq acc.toList.toArray }) g → ∀ b o, s.heap.get? b = some o → g.get? b = some o := fun {g} kp b o q => kp b o (fresh b o q) (Heap.get?_push_of_some _ (hk1 b o q))
  refine wpAny_bind (wpAny_holding (wpAny_call_entry_kw PyProof.Rows.slot_list_sort ⟨_, hat, rfl⟩ PyProof.Rows.entry_list_sort ?_ (ksk_l1 _ _)))
  rw [ksk_t1]
  refine keyH_tree (kz := bs.map k) (s := { s with heap := h1.push { cls := .type "list", data := .seq acc.toList.toArray }, toks := t1 }) hat (by rw [List.length_map]; exact hlen.symm) (by rw [hlen]; exact hL) hal hk (bound_map (A := A.in1.in1) hu)
    (keyH_turns (s := { s with heap := h1.push { cls := .type "list", data := .seq acc.toList.toArray }, toks := t1 }) ea fun v x hR hx g tk kp => turn v x hR hx g tk (up kp)) fun h' tk out c kp hD ko => ⟨_, rfl, wpAny_pure ⟨_, rfl, ?_⟩⟩
  exact h h1 out c h' tk hk1 (fun b o q => kp b o (Nat.ne_of_lt (Heap.lt_size q)) (Heap.get?_push_of_some _ q)) hD (keyedOut_each k ko ea)
end
end DS

namespace DS
open PySem PySem.W PySem.Calls PyProof.Rows L2

/-! ## the lambda made, in a frame -/
/-- the heap behind it: as before, or one code object more in the table -/
def LamH (H H1 : Hp) (P c' : Addr) (q : Str) : Prop := H1 = H ∨ ∃ ps more, H P = some (.tbl ps) ∧ H c' = none ∧ H1 = upd (upd H P (.tbl (ps ++ more))) c' (LamX.CodeO c' q)
section
variable {X : Cx} {pins : List (Addr × Obj)} {σ : L2.St} {H : Hp} {s : Shared} {c P : Addr} {params : Arguments} {body : Expr} {scope : Scope} {pos : Pos} {E : Value → Shared → Prop} {Q : Value → Shared → Prop} {q : Str}
theorem lam_mk (I : Inv X pins σ H s) (TB : LamX.TabB X.base X.mg c P) (hcode : X.env.code = .ref c) (hq : q = X.env.qual ++ "<lambda>") (hT : LamX.TabS H P q) (hdef : defaultsOf params X.env = ([], [])) (hfree : ∀ y ∈ scope.names, y.2 = .free → ∃ c, X.env.cells.lookup y.1 = some c)
    (h : ∀ (f c' : Addr) (pm ctv : Value) (H1 : Hp) (s' : Shared), Inv X pins σ H1 s' → LamH H H1 P c' q → LamX.TabS H1 P q → s'.heap.get? f = some (kla_obj "<lambda>" q params body scope (cloFrom X.env.cells scope.names []) pm c' ctv) → s'.heap.CodeRec (.ref c') q → Q (.ref f) s') :
    wpAny (model X.prog X.w) X.A (eval (.Lambda params body scope pos) X.env) Q E s := by
  subst hq
  obtain ⟨ps, hP, ht, ha⟩ := hT
  have rowP : s.heap.get? P = some (tabObj ps) := I.hok P _ hP
  refine kla_eval hdef ?_
  cases hc : codeAmong pos ps.toList with
  | some cv =>
    obtain ⟨c', rfl, hco⟩ := ha pos cv hc
    refine kla_makeFunctionHit (mg := X.mg) (c := c) (P := P) (ps := ps) (closure_ok hfree) I.ok.glob (I.mod.glob.keeps I.bk) hcode (TB.code.keeps I.bk) rowP ht hc (TB.bm.keeps I.bk) fun ctv h' tk hx _ => ?_
    have I1 := I.kept (t' := tk) (h' := h'.push (kla_obj "<lambda>" (X.env.qual ++ "<lambda>") params body scope (cloFrom X.env.cells scope.names []) ((X.mg "__name__").getD .none) c' ctv)) fun b o e => Heap.get?_push_of_some _ (hx b o e)
    exact h _ c' _ ctv H _ I1 (.inl rfl) ⟨ps, hP, ht, ha⟩ (Heap.get?_push_size _ rfl) (by
      obtain ⟨⟨oc, vs, t, y1, y2, y3⟩, _, _⟩ := I1.hok c' _ hco
      exact ⟨c', oc, vs, t, rfl, y1, y2, y3⟩)
  | none =>
    refine kla_makeFunction (mg := X.mg) (c := c) (P := P) (ps := ps) (closure_ok hfree) I.ok.glob (I.mod.glob.keeps I.bk) hcode (TB.code.keeps I.bk) rowP ht hc TB.gP (TB.bm.keeps I.bk) fun c' ctv h' tk hx hge _ hrec htb => ?_
    have nC : H c' = none := I.hok.fresh hge
    have rec2 : (h'.push (kla_obj "<lambda>" (X.env.qual ++ "<lambda>") params body scope (cloFrom X.env.cells scope.names []) ((X.mg "__name__").getD .none) c' ctv)).CodeRec (.ref c') (X.env.qual ++ "<lambda>") := by
      obtain ⟨c2, oc, vs, t, e2, g1, g2, g3⟩ := hrec
      exact ⟨c2, oc, vs, t, e2, Heap.get?_push_of_some _ g1, g2, g3⟩
    obtain ⟨c2, oc, vs, t, e2, g1, g2, g3⟩ := rec2
    cases e2
    have I1 := LamX.inv_table (t' := tk) (q := X.env.qual ++ "<lambda>") (more := #[rawInt pos.line, rawInt pos.col, .ref c']) I hP (fun b o hb e => Heap.get?_push_of_some _ (hx b o hb e)) (Heap.get?_push_of_some _ htb) hge ⟨oc, vs, t, g1, g2, g3⟩
    refine h _ c' _ ctv _ _ I1 (.inr ⟨ps, _, hP, nC, rfl⟩) ?_ (Heap.get?_push_size _ rfl) ⟨c', oc, vs, t, rfl, g1, g2, g3⟩
    have hPc : P ≠ c' := ne_of_none hP nC
    refine ⟨_, by rw [upd_ne hPc, upd_same], ?_, fun p' cv hcv => ?_⟩
    · have eL : (ps ++ #[rawInt pos.line, rawInt pos.col, .ref c']).toList = ps.toList ++ [rawInt pos.line, rawInt pos.col, .ref c'] := by simp
      rw [eL]
      exact PySem.TriplesOk_snoc _ _ _ _ ht
    · have eL : (ps ++ #[rawInt pos.line, rawInt pos.col, .ref c']).toList = ps.toList ++ [rawInt pos.line, rawInt pos.col, .ref c'] := by simp
      rw [eL] at hcv
      rcases LamX.among_app _ ht hcv with z | z
      · obtain ⟨c0, y1, y2⟩ := ha p' cv z
        refine ⟨c0, y1, ?_⟩
        rw [upd_ne (ne_of_none y2 nC), upd_ne (fun z => by
          rw [z, hP] at y2
          exact LamX.codeO_ne ps (Option.some.inj y2).symm)]
        exact y2
      · exact ⟨c', z, upd_same⟩
end
theorem Rep.lam {K : PySem.W.Frag} {cs : List Tb} {Z F H H1 : Hp} {σ : L2.St} {ρ : Nv} {P c' : Addr} {q : Str} (R : Rep K cs Z F H σ ρ) (hP : (P, some q) ∈ cs) (hU : ∀ t ∈ cs, t.1 = P → t.2 = some q) (h1 : LamH H H1 P c' q) (hT : LamX.TabS H1 P q) : Rep K cs Z F H1 σ ρ ∧ (∀ a o, H a = some o → (∀ ps, o ≠ .tbl ps) → H1 a = some o) := by
  rcases h1 with rfl | ⟨ps, more, hp, hc, rfl⟩
  · exact ⟨R, fun _ _ h _ => h⟩
  · obtain ⟨_, fP⟩ := (show LamX.TabS H P q ∧ F P = none from R.tab.2 _ hP)
    have at_ : ∀ a o, H a = some o → a ≠ P → upd (upd H P (.tbl (ps ++ more))) c' (LamX.CodeO c' q) a = some o := fun a o h n => by
      rw [upd_ne (ne_of_none h hc), upd_ne n]
      exact h
    have np : ∀ a o, H a = some o → (∀ ps, o ≠ .tbl ps) → a ≠ P := fun a o h n z => by
      rw [z, hp] at h
      exact n ps (Option.some.inj h).symm
    refine ⟨⟨R.len, fun a o h => at_ a o (R.fh a o h) fun z => ?_, fun a o h => ?_, fun i c h1 h2 => ?_, R.sh, R.inj, R.io, ⟨R.tab.1, fun t ht => ?_⟩, fun a xs h => ?_⟩, fun a o h n => at_ a o h (np a o h n)⟩
    · rw [z, fP] at h
      cases h
    · obtain ⟨q1, q2⟩ := R.zh a o h
      exact ⟨at_ a o q1 (np a o q1 (R.znt h)), q2⟩
    · obtain ⟨a, q1, q2, q3, q4⟩ := R.mine i c h1 h2
      obtain ⟨ob, q5, _⟩ := q4.rp
      exact ⟨a, q1, q2, q3, q4.ext (Ext.refl F) (by rw [at_ a ob q5 (np a ob q5 (q4.pl q5).1), q5])⟩
    · by_cases e : t.1 = P
      · obtain ⟨t1, t2⟩ := t
        cases e
        have := hU _ ht rfl
        cases this
        exact ⟨hT, fP⟩
      · refine (R.tab.2 t ht).to (fun e => e) (fun ps' e1 e2 => ⟨at_ _ _ e1 e, e2⟩) fun c φ e1 => at_ _ _ e1 (np _ _ e1 fun _ z => by cases z)
    · by_cases e1 : a = c'
      · subst e1
        rw [upd_same] at h
        cases h
      · rw [upd_ne e1] at h
        by_cases e2 : a = P
        · subst e2
          rw [upd_same] at h
          cases h
        · rw [upd_ne e2] at h
          exact R.tp a xs h
/-! ## what it comes to -/
def lamKey (tds : List (List L2.Key × D)) (k : List L2.Key) : D := match k with
  | [_, .inl i, .inl j] => match lookD tds k with
    | some (.int c) => .tuple [.int (j - i), .int c]
    | _ => .none
  | _ => .none
def lamOk (tds : List (List L2.Key × D)) (k : List L2.Key) : Bool := match k with
  | [_, .inl _, .inl _] => match lookD tds k with
    | some (.int _) => true
    | _ => false
  | _ => false
theorem lamOk_is {tds : List (List L2.Key × D)} {k : List L2.Key} (h : lamOk tds k = true) : ∃ x i j c, k = [x, .inl i, .inl j] ∧ lookD tds k = some (.int c) ∧ lamKey tds k = .tuple [.int (j - i), .int c] := by
  unfold lamOk at h
  split at h
  · rename_i x i j
    split at h
    · rename_i c hc
      exact ⟨x, i, j, c, rfl, hc, by unfold lamKey; dsimp only; rw [hc]⟩
    · cases h
  · cases h
def sortLD : D → D → Option D
  | .dict es, .dict ts => (decT es).bind fun kds => (decT ts).bind fun tds => if kds ≠ [] ∧ kds.all (fun p => lamOk tds p.1) = true ∧ kds.length ≤ 100000 then some (.list (((kds.map (·.1)).mergeSort (dataLe false (lamKey tds))).map fun k => .tuple (k.map kD))) else none
  | _, _ => none
end DS

namespace DS
open PySem PySem.W PySem.Calls PyProof.Rows L2

theorem rps_keyL {K : PySem.W.Frag} {F : Hp} : ∀ ks : List L2.Key, Rps K F (ks.map kV) (ks.map kD)
  | [] => .nil
  | k :: r => .cons (rp_key k) (rps_keyL r)
theorem each_refs {xs : List (List L2.Key × Addr × Value)} {out : List Value} (h : EachIs (fun v x => v = Value.ref x.2.1) out xs) : out = xs.map fun x => Value.ref x.2.1 := by
  induction out generalizing xs with
  | nil =>
    cases h
    rfl
  | cons v r ih =>
    cases h with
    | cons a b => rw [a, ih b]; rfl
theorem vals_refs : ∀ xs : List (List L2.Key × Addr × Value), L2.Vals (xs.map fun x => V.ref x.2.1) (xs.map fun x => Value.ref x.2.1)
  | [] => .nil
  | x :: r => .cons rfl (vals_refs r)
theorem sortLD_some {x t d : D} (h : sortLD x t = some d) : ∃ es ts kds tds, x = .dict es ∧ t = .dict ts ∧ decT es = some kds ∧ decT ts = some tds ∧ (kds ≠ [] ∧ kds.all (fun p => lamOk tds p.1) = true ∧ kds.length ≤ 100000) ∧ d = .list (((kds.map (·.1)).mergeSort (dataLe false (lamKey tds))).map fun k => .tuple (k.map kD)) := by
  cases x with
  | dict es =>
    cases t with
    | dict ts =>
      obtain ⟨kds, e3, ef⟩ := Option.bind_eq_some_iff.mp h
      obtain ⟨tds, e4, ef⟩ := Option.bind_eq_some_iff.mp ef
      split at ef
      · rename_i hg
        cases ef
        exact ⟨es, ts, kds, tds, rfl, rfl, e3, e4, hg, rfl⟩
      · cases ef
    | _ => cases h
  | _ => cases h
section
variable {cs : List Tb} {X : Cx} {a : Expr} {p pos kpos lpos pp p1 p2 p3 p4 p5 p6 p7 p8 p9 p10 p11 : Pos} {j1 j2 j3 i j k : Nat} {c P : Addr} {fa : Nv → Option D} {q : Str}
theorem e_sortLam (hr : Room (k + 1) X.A) (hc : X.calm = true) (hg : Gl X "sorted") (hm : X.mg "sorted" = none) (TB : LamX.TabB X.base X.mg c P) (hcode : X.env.code = .ref c) (hq : q = X.env.qual ++ "<lambda>") (hP : (P, some q) ∈ cs) (hU : ∀ t ∈ cs, t.1 = P → t.2 = some q)
    (ha : EW cs X a fa) (hj : X.N[j]? = some ("table" : Str)) (hcell : X.env.scope.names.lookup ("table" : Str) = some .cell)
    (hb : bootBuiltins "sorted" = some (.builtin "sorted") := by first | exact PyProof.Rows.boot_sorted | decide +kernel)
    (hs : starEach [a] X.env = (false, eval a X.env) :: starEach [] X.env := by rfl)
    (he : backTo pos (starEach [a] X.env) = (false, eval a X.env) :: backTo pos (starEach [] X.env) := by rfl) (hpl : (backTo pos (starEach [a] X.env)).any (·.1) = false := by rfl) :
    EN cs X (.Call (.Name "sorted" p) [a] [⟨some "key", .Lambda (lamPar pp) (lamBody p1 p2 p3 p4 p5 p6 p7 p8 p9 p10 p11 j1 j2 j3) lamScope lpos, kpos⟩] pos) (fun ρ => (fa ρ).bind fun d => (nmP j ρ).bind fun t => sortLD d t) := by
  refine ⟨⟨fun pins s σ H Q I h => ?_⟩⟩
  obtain ⟨Z, F, ρ, d, R, ef, qq⟩ := h
  obtain ⟨x, e1, ef⟩ := Option.bind_eq_some_iff.mp ef
  obtain ⟨t, e2, ef⟩ := Option.bind_eq_some_iff.mp ef
  obtain ⟨es, ts, kds, tds, rfl, rfl, e3, e4, hgood, rfl⟩ := sortLD_some ef
  refine wpAny_Call_Name_kw (ld_blt I hg hm hb ?_)
  refine PyProof.Rows.callWith_kw ?_ he hpl (by rfl) (by rfl)
  refine thn ((pa_cons ha.h pa_nil hs).run pos pins s σ H (fun vs H1 => ∃ F1 v, vs = [v] ∧ Ext F F1 ∧ Rep X.K cs Z F1 H1 σ ρ ∧ Vw X.K F1 σ ρ v (.dict es)) I ⟨Z, F, ρ, .dict es, R, e1, fun v F1 H1 x1 R1 w1 => ⟨F1, v, rfl, x1, R1, w1⟩⟩) fun us s1 ⟨vs, H1, I1, rv, F1, v, ev, x1, R1, w1⟩ => ?_
  subst ev
  obtain ⟨u, rfl, ru⟩ := rv.one
  have hfree : ∀ y ∈ lamScope.names, y.2 = .free → ∃ c, X.env.cells.lookup y.1 = some c := by
    intro y hy hf
    have : y = (("table" : Str), NameKind.free) := by
      simp only [lamScope, List.mem_cons, List.not_mem_nil, or_false] at hy
      rcases hy with rfl | rfl
      · cases hf
      · rfl
    subst this
    exact I.ok.has _ (.inl hcell)
  obtain ⟨tb, fP⟩ := (show LamX.TabS H1 P q ∧ F1 P = none from R1.tab.2 _ hP)
  show wpAny _ _ (evalAll [do let v ← eval (.Lambda (lamPar pp) (lamBody p1 p2 p3 p4 p5 p6 p7 p8 p9 p10 p11 j1 j2 j3) lamScope lpos) X.env; standAt pos; pure v]) _ _ s1
  refine wpAny_evalAll_cons (wpAny_bind (lam_mk I1 TB hcode hq tb rfl hfree fun f c' pm ctv H2 s2 I2 lh T2 ho hrec => wpAny_bind (wpAny_standAt (wpAny_pure (wpAny_evalAll_nil ?_)))))
  obtain ⟨R2, keepH⟩ := R1.lam hP hU lh T2
  show wpAny _ _ (call (.builtin "sorted") [u] [(Str.ofString "key", .ref f)]) _ _ s2
  -- what is sorted, and the table
  obtain ⟨hne, hall, hlen⟩ := hgood
  obtain ⟨dA, kvs, ev, hD, pe⟩ : ∃ dA kvs, v = .ref dA ∧ H2 dA = some (.dT kvs) ∧ PairE X.K H2 kvs kds := by
    rcases R2.dt w1 e3 with ⟨z, _⟩ | z
    · exact absurd z hne
    · exact z
  subst ev
  cases ru
  obtain ⟨tv, ht1, ht2⟩ : ∃ tv, σ[j]? = some (some tv) ∧ Rp X.K F1 tv (.dict ts) := by
    unfold nmP at e2
    split at e2
    · rename_i d' hd'
      cases e2
      exact R2.sh j _ hd'
    · cases e2
  obtain ⟨k0, hk0⟩ : ∃ k0, k0 ∈ kds := List.exists_mem_of_ne_nil _ hne
  obtain ⟨T, kvT, et, hT, pT⟩ : ∃ T kvT, tv = .ref T ∧ H2 T = some (.dT kvT) ∧ PairE X.K H2 kvT tds := by
    rcases R2.dt (.inl ht2) e4 with ⟨z, _⟩ | z
    · subst z
      have := List.all_eq_true.mp hall _ hk0
      obtain ⟨_, _, _, _, _, h2, _⟩ := lamOk_is this
      cases h2
    · exact z
  subst et
  -- over the heap alone
  obtain ⟨hz, lo, xs, kt, o, es', ep, g1, g2, g3, g4, g5⟩ := (show ObjOk X.prog X.w H2 s2.heap dA (.dT kvs) from I2.hok dA _ hD)
  obtain ⟨hzT, loT, xT, ktT, ddT⟩ := dt_rd I2.hok (.inl hT)
  have kx : xs.map (·.1) = kds.map (·.1) := by
    have h1 : ∀ {l : List (List L2.Key × V)} {m : List (List L2.Key × Addr × Value)}, KT H2 l m → m.map (·.1) = l.map (·.1) := by
      intro l m h
      induction h with
      | nil => rfl
      | cons a _ ih => rw [List.map_cons, List.map_cons, ih, a.1]
    have h2 : ∀ {l : List (List L2.Key × V)} {m : List (List L2.Key × D)}, PairE X.K H2 l m → l.map (·.1) = m.map (·.1) := by
      intro l m h
      induction h with
      | nil => rfl
      | cons a _ ih => rw [List.map_cons, List.map_cons, ih, a.1]
    exact (h1 kt).trans (h2 pe)
  have okx : ∀ x ∈ xs, lamOk tds x.1 = true := fun x hx => by
    have : x.1 ∈ kds.map (·.1) := by rw [← kx]; exact List.mem_map_of_mem hx
    obtain ⟨kd, hk1, hk2⟩ := List.mem_map.mp this
    rw [← hk2]
    exact List.all_eq_true.mp hall _ hk1
  have tupx : ∀ x ∈ xs, H2 x.2.1 = some (.tup (x.1.map kV)) := by
    have h1 : ∀ {l : List (List L2.Key × V)} {m : List (List L2.Key × Addr × Value)}, KT H2 l m → ∀ x ∈ m, H2 x.2.1 = some (.tup (x.1.map kV)) := by
      intro l m h
      induction h with
      | nil => intro x hx; cases hx
      | cons a _ ih =>
        intro x hx
        rcases List.mem_cons.mp hx with rfl | hx
        · rw [← a.1]; exact a.2.1
        · exact ih x hx
    exact h1 kt
  have hxl : xs.length ≤ 100000 := by
    have := congrArg List.length kx
    rw [List.length_map, List.length_map] at this
    omega
  have hsl : (100000 : Nat) ≤ sizeLine := by decide
  have esz : es'.size = xs.length := by rw [← Array.length_toList, g4, List.length_map]
  obtain ⟨m, hns, hlook⟩ := I2.loc
  obtain ⟨tu, rt, lk⟩ := hlook j "table" (.ref T) hj ht1 (.inr (.inl hcell))
  cases rt
  obtain ⟨cc, hcc, hccell⟩ : ∃ cc, X.env.cells.lookup ("table" : Str) = some cc ∧ s2.heap.IsCell cc (some (.ref T)) := by
    rcases lk with ⟨z, _⟩ | ⟨_, cc, h1, h2⟩
    · exact absurd (z.symm.trans hcell) (by decide)
    · exact ⟨cc, h1, h2⟩
  have hclo : (cloFrom X.env.cells lamScope.names []).lookup ("table" : Str) = some cc := by
    simp [cloFrom, lamScope, hcc]
  refine sorted_dict_key (bs := xs) (R := fun v x => v = Value.ref x.2.1) (fun x => lamKey tds x.1) lo ⟨o, g1, g2, g3⟩ (I2.ok.hd hc) esz (fun i hi b hb => ?_) ?_ ?_ (by omega) (fun x hx => ?_) (fun v x hv hx h tk kp => ?_) fun h1 out cc' h' tk hk1 hk2 hl eo => ?_
  · have h1 : es'.toList[i]? = some es'[i] := by rw [Array.getElem?_toList, Array.getElem?_eq_getElem hi]
    rw [g4, List.getElem?_map, hb] at h1
    have h1 := Option.some.inj h1
    rw [← h1]
    rfl
  · intro d hd d' hd'
    obtain ⟨x, hx, rfl⟩ := List.mem_map.mp hd
    obtain ⟨y, hy, rfl⟩ := List.mem_map.mp hd'
    obtain ⟨_, _, _, _, _, _, h1⟩ := lamOk_is (okx x hx)
    obtain ⟨_, _, _, _, _, _, h2⟩ := lamOk_is (okx y hy)
    show alike (lamKey tds x.1) (lamKey tds y.1) = true
    rw [h1, h2]
    simp [alike, alikeAll]
  · refine .inl fun d hd => ?_
    obtain ⟨x, hx, rfl⟩ := List.mem_map.mp hd
    obtain ⟨_, _, _, _, _, _, h1⟩ := lamOk_is (okx x hx)
    exact ⟨_, _, h1⟩
  · obtain ⟨_, a1, a2, a3, _, _, h1⟩ := lamOk_is (okx x hx)
    rw [h1]
    have hd : (PyData.tuple [.int (a2 - a1), .int a3]).depth = 1 := by simp [PyData.depth, PyData.depthAll]
    have := hr.un
    omega
  · subst hv
    obtain ⟨nmk, i1, i2, cst, hxk, hlk, hkey⟩ := lamOk_is (okx x hx)
    rw [hkey]
    have htup := tupx x hx
    obtain ⟨_, its, rv2, ot, y1, y2, n, y3⟩ := (show ObjOk X.prog X.w H2 s2.heap x.2.1 (.tup (x.1.map kV)) from I2.hok _ _ htup)
    have hits : ∃ nm ti tj, its = [nm, .int i1 ti, .int i2 tj] := by
      rw [hxk] at rv2
      cases rv2 with
      | cons a b =>
        cases b with
        | cons b1 b2 =>
          cases b2 with
          | cons c1 c2 =>
            cases c2
            obtain ⟨ti, rfl⟩ := b1
            obtain ⟨tj, rfl⟩ := c1
            exact ⟨_, ti, tj, rfl⟩
    obtain ⟨nm, ti, tj, rfl⟩ := hits
    obtain ⟨w', hw, rw'⟩ : ∃ w', (atKey xT x.1).map (·.2) = some w' ∧ L2.RelV (.int cst) w' := by
      have hvv : valV kvT x.1 = some (.int cst) := by
        rcases pair_look (k := x.1) pT with ⟨_, z⟩ | ⟨v1, d1, z1, z2, z3⟩
        · rw [z] at hlk
          cases hlk
        · rw [z2] at hlk
          cases hlk
          cases z3
          exact z1
      exact RelO.some_of (v := V.int cst) (o := (atKey xT x.1).map (·.2)) (by rw [← hvv]; exact ktT.val x.1)
    obtain ⟨tc, rfl⟩ := rw'
    obtain ⟨⟨ad, w2⟩, hp, hp2⟩ := Option.map_eq_some_iff.mp hw
    cases hp2
    have un := hr.un
    have dp := hr.dp
    refine lam_turn (s := { s2 with heap := h, toks := tk }) (f := f) (b := x.2.1) (d := T) (cc := cc) (c' := c') (xs := xT) (ks := x.1) (ad := ad) (tc := tc) (nm := nm) (i := i1) (j := i2) (ti := ti) (tj := tj) (cost := cst) (A := X.A.in1.in1) ?_ ?_ ?_ (kp _ _ ho) ?_ hclo ?_ ?_ ?_ hp ⟨ot, kp _ _ y1, y2, n, y3⟩
    · show X.A.depth < recursionLimit
      omega
    · show X.A.units + 1 + 1 + 4 < cLine
      omega
    · exact I2.nolimit.keeps kp
    · obtain ⟨c2, oc, vs, t', z1, z2, z3, z4⟩ := hrec
      exact ⟨c2, oc, vs, t', z1, kp _ _ z2, z3, z4⟩
    · obtain ⟨o2, z1, z2⟩ := hccell
      exact ⟨o2, kp _ _ z1, z2⟩
    · obtain ⟨o2, es2, ep2, z1, z2, z3, z4, z5, z6⟩ := ddT
      refine ⟨o2, es2, ep2, kp _ _ z1, z2, z3, z4, fun y hy => ?_, z6⟩
      obtain ⟨o', it, n', u1, u2, u3, u4⟩ := z5 y hy
      exact ⟨o', it, n', kp _ _ u1, u2, u3, u4⟩
    · obtain ⟨o', it, n', u1, u2, u3, u4⟩ := key_of I2.hok htup
      exact ⟨o', it, n', kp _ _ u1, u2, u3, u4⟩
  · have eout := each_refs eo
    have I3 : Inv X pins σ H2 { s2 with heap := h1, toks := tk } := I2.kept hk1
    have hl2 : (xs.mergeSort (dataLe false fun x => lamKey tds x.1)).length ≤ sizeLine := by
      rw [List.length_mergeSort]
      omega
    have I4 : Inv X pins σ (upd H2 h1.objs.size (.lst ((xs.mergeSort (dataLe false fun x => lamKey tds x.1)).map fun x => V.ref x.2.1))) { s2 with heap := h', toks := tk } :=
      I3.laid (s := { s2 with heap := h1, toks := tk }) (t' := tk) hk2 (Nat.le_refl _) ⟨by rw [List.length_map]; exact hl2, _, cc', by rw [eout]; exact vals_refs _, hl⟩
    have fresh : H2 h1.objs.size = none := I3.hok.fresh (Nat.le_refl _)
    obtain ⟨R4, n1, n2, n3⟩ := R2.made (o := .lst ((xs.mergeSort (dataLe false fun x => lamKey tds x.1)).map fun x => V.ref x.2.1)) fresh
    refine ⟨.ref _, _, I4, rfl, qq _ F1 _ x1 R4 n1 n2 n3 ⟨_, upd_same, ?_⟩⟩
    have em : (kds.map (·.1)).mergeSort (dataLe false (lamKey tds)) = (xs.mergeSort (dataLe false fun x => lamKey tds x.1)).map (·.1) := by
      rw [← kx]
      exact (List.map_mergeSort (f := fun x : List L2.Key × Addr × Value => x.1) fun _ _ _ _ => rfl).symm
    rw [em, List.map_map]
    have hin : ∀ x ∈ xs.mergeSort (dataLe false fun x => lamKey tds x.1), x ∈ xs := fun x hx => List.mem_mergeSort.mp hx
    generalize xs.mergeSort (dataLe false fun x => lamKey tds x.1) = ys at hin
    induction ys with
    | nil => exact .nil
    | cons y r ih => exact .cons (.tup (R2.tp _ _ (tupx y (hin y List.mem_cons_self))) (rps_keyL _)) (ih fun z hz => hin z (List.mem_cons_of_mem _ hz))
end
end DS

namespace DS
open PySem L2
def findD : D → D → Option D
  | .str a, .str b => some (.int (Txt.find a b))
  | _, _ => none
section
variable {cs : List Tb} {X : Cx} {o e : Expr} {apos pos : Pos} {fa fb : Nv → Option D}
theorem e_find (ho : EW cs X o fa) (he : EW cs X e fb) (hs : starEach [e] X.env = [(false, eval e X.env)] := by rfl) (hbase : attributeBase o "find" X.env (eval o X.env) = eval o X.env := by rfl) (hline : (apos.endLine == pos.line) = true := by rfl) :
    EP' cs X (.Call (.Attribute o "find" apos) [e] [] pos) (op2 findD fa fb) :=
  ⟨pe_imp (pe_m1 F.slot_str_find F.type_str_find mt_find ho.h he.h hs hbase hline) fun σ H Q ⟨Z, F, ρ, d, R, ef, q⟩ => by
    unfold op2 at ef
    obtain ⟨x, ea, ef⟩ := Option.bind_eq_some_iff.mp ef
    obtain ⟨y, eb, ef⟩ := Option.bind_eq_some_iff.mp ef
    unfold findD at ef
    split at ef
    · cases ef
      refine ⟨Z, F, ρ, _, R, ea, fun v F1 H1 e1 R1 w1 => ?_⟩
      cases R1.vstr w1
      refine ⟨⟨_, rfl⟩, Z, F1, ρ, _, R1, eb, fun u F2 H2 e4 R2 w2 => ?_⟩
      cases R2.vstr w2
      exact ⟨_, _, rfl, rfl, q _ F2 H2 (e1.trans e4) R2 (.int _)⟩
    · cases ef⟩
end
end DS

namespace DS
open PySem PySem.W PySem.Calls PyProof.Rows L2
/-! ## sorted(xs), sorted(d): texts, or tuples of a text and two whole numbers -/
def tri : D → Bool
  | .tuple [.str x, .int _, .int _] => decide (x.length ≤ 100000) && PyData.strOk x
  | _ => false
def txB : D → Bool
  | .str x => decide (x.length ≤ 100000) && PyData.strOk x
  | _ => false
def srtOk (xs : List D) : Bool := xs.all tri || xs.all txB
def sortD : List D → Option D
  | [.list xs] => if srtOk xs = true ∧ xs.length ≤ 100000 then some (.list (xs.mergeSort (dataLe false id))) else none
  | [.dict es] => (decT es).bind fun kds => if kds ≠ [] ∧ (kds.all fun p => tri (.tuple (p.1.map kD))) = true ∧ kds.length ≤ 100000 then some (.list ((kds.map fun p => PyData.tuple (p.1.map kD)).mergeSort (dataLe false id))) else none
  | _ => none
theorem tri_is {d : D} (h : tri d = true) : ∃ x i j, d = .tuple [.str x, .int i, .int j] ∧ x.length ≤ 100000 ∧ PyData.strOk x = true := by
  unfold tri at h
  split at h
  · rename_i x i j
    rw [Bool.and_eq_true, decide_eq_true_eq] at h
    exact ⟨x, i, j, rfl, h.1, h.2⟩
  · cases h
theorem txB_is {d : D} (h : txB d = true) : ∃ x, d = .str x ∧ x.length ≤ 100000 ∧ PyData.strOk x = true := by
  unfold txB at h
  split at h
  · rename_i x
    rw [Bool.and_eq_true, decide_eq_true_eq] at h
    exact ⟨x, rfl, h.1, h.2⟩
  · cases h
theorem srt_alike {xs : List D} (h : srtOk xs = true) : AllAlike xs := by
  intro d hd d' hd'
  rcases Bool.or_eq_true_iff.mp h with h | h
  · obtain ⟨x, i, j, rfl, _⟩ := tri_is (List.all_eq_true.mp h _ hd)
    obtain ⟨x', i', j', rfl, _⟩ := tri_is (List.all_eq_true.mp h _ hd')
    simp [alike, alikeAll]
  · obtain ⟨x, rfl, _⟩ := txB_is (List.all_eq_true.mp h _ hd)
    obtain ⟨x', rfl, _⟩ := txB_is (List.all_eq_true.mp h _ hd')
    simp [alike]
theorem srt_sortable {xs : List D} (h : srtOk xs = true) : Sortable xs := by
  rcases Bool.or_eq_true_iff.mp h with h | h
  · refine .inl fun d hd => ?_
    obtain ⟨x, i, j, rfl, _⟩ := tri_is (List.all_eq_true.mp h _ hd)
    exact ⟨_, _, rfl⟩
  · refine .inr fun d hd => ?_
    obtain ⟨x, rfl, _⟩ := txB_is (List.all_eq_true.mp h _ hd)
    exact ⟨fun z => (by cases z), fun _ z => (by cases z)⟩
theorem srt_shaped {xs : List D} (h : srtOk xs = true) {d : D} (hd : d ∈ xs) : SeqAt.shaped d = true ∧ d.depth ≤ 1 := by
  rcases Bool.or_eq_true_iff.mp h with h | h
  · obtain ⟨x, i, j, rfl, h1, h2⟩ := tri_is (List.all_eq_true.mp h _ hd)
    refine ⟨shaped_fine (n := 1) ?_ (by decide), by simp [PyData.depth, PyData.depthAll]⟩
    show List.all _ (fine 0) = true
    simp [fine, sgOk, h1, h2]
  · obtain ⟨x, rfl, h1, h2⟩ := txB_is (List.all_eq_true.mp h _ hd)
    exact ⟨shaped_str h1 h2, by simp [PyData.depth]⟩
section
variable {K : PySem.W.Frag} {F : Hp}
theorem each_zip : ∀ {vs : List V} {its : List Value} {ds : List D}, Vals vs its → Rps K F vs ds → EachIs (fun (u : Value) (b : V × D) => RelV b.1 u ∧ Rp K F b.1 b.2) its (vs.zip ds)
  | _, _, _, .nil, .nil => .nil
  | _, _, _, .cons a b, .cons c d => .cons ⟨a, c⟩ (each_zip b d)
theorem each_back {out : List Value} {bs : List (V × D)} (h : EachIs (fun (u : Value) (b : V × D) => RelV b.1 u ∧ Rp K F b.1 b.2) out bs) : Vals (bs.map (·.1)) out ∧ Rps K F (bs.map (·.1)) (bs.map (·.2)) := by
  induction out generalizing bs with
  | nil =>
    cases h
    exact ⟨.nil, .nil⟩
  | cons v r ih =>
    cases h with
    | cons a b =>
      obtain ⟨h1, h2⟩ := ih b
      exact ⟨.cons a.1 h1, .cons a.2 h2⟩
end
theorem snd_zip : ∀ {vs : List V} {ds : List D}, vs.length = ds.length → (vs.zip ds).map (·.2) = ds
  | [], [], _ => rfl
  | v :: vs, d :: ds, h => by
    rw [List.zip_cons_cons, List.map_cons, snd_zip (Nat.succ.inj h)]
section
variable {cs : List Tb} {X : Cx}
theorem sorted_dict_data {prog : Program} {w : World} {A : Around} {E : Value → Shared → Prop} {s : Shared} {β : Type} {bs : List β} {R : Value → β → Prop} {D : Addr} {es : Array DictEntry} {ep : Nat} {Q : Value → Shared → Prop} (k : β → PyData) (lo : (D == sysModules) = false) (hm : s.heap.DictRaw D es ep) (hh : A.in1.handled = none) (hl : es.size = bs.length) (e : ∀ (i : Nat) (hi : i < es.size) (b : β), bs[i]? = some b → R es[i].key b)
    (hr : ∀ v b, R v b → b ∈ bs → Reads s.heap v (k b) []) (hal : AllAlike (bs.map k)) (hk : Sortable (bs.map k)) (hL : bs.length ≤ sizeLine) (hu : ∀ x, x ∈ bs → A.units + 2 + (k x).depth < cLine)
    (h : ∀ (h1 : Heap) (out : List Value) (c : Nat) (h' : Heap) (tk : Nat), (∀ b o, s.heap.get? b = some o → h1.get? b = some o) → (∀ b o, h1.get? b = some o → h'.get? b = some o) → h'.get? h1.objs.size = some (seqObj "list" (List.toArray out) c) → EachIs R out (bs.mergeSort (dataLe false k)) →
      Q (.ref h1.objs.size) { s with heap := h', toks := tk }) :
    wpAny (model prog w) A (call (.builtin "sorted") [.ref D]) Q E s := by
  refine call_function_entry kind_sorted plain_sorted entry_sorted (args_sorted1 _) ?_
  unfold Builtin.«sorted»
  refine wpAny_bind (m := checkCount "sorted" 1 1 _) (wpAny_pure ?_)
  refine wpAny_bind (kdu_collect (A := A.in1) (KdlSrc.rawDict lo) hh hm (by rw [hl]; exact hL) fun h1 t1 acc hk1 hacc => ?_)
  have hlen : acc.toList.length = bs.length := by rw [Array.length_toList, hacc.1, hl]
  have ea : EachIs R acc.toList bs := each_of hlen fun i v b hv hb => by
    obtain ⟨hi, rfl⟩ := hacc.2 i v (by rw [← Array.getElem?_toList]; exact hv)
    exact e i hi b hb
  refine wpAny_bind (wpAny_newList ?_ (by rw [hlen]; exact hL))
  have hat : (h1.push { cls := .type "list", data := .seq acc.toList.toArray }).get? h1.objs.size = some (seqObj "list" acc.toList.toArray 0) := Heap.get?_push_size _ rfl
  have er : EachIs (fun v b => ∃ as, Reads (h1.push { cls := .type "list", data := .seq acc.toList.toArray }) v (k b) as ∧ h1.objs.size ∉ as) acc.toList bs :=
    (each_mem ea).mono fun v b ⟨hR, hb⟩ => ⟨[], PyProof.Rows.Reads.keeps (fun b o q => Heap.get?_push_of_some _ (hk1 b o q)) (hr v b hR hb), by simp⟩
  have hg := list_sort_data (prog := prog) (w := w) (A := A.in1) (E := E) (s := { s with heap := h1.push { cls := .type "list", data := .seq acc.toList.toArray }, toks := t1 }) (a := h1.objs.size) (n := 0) (R := R) (enc := k) (Q := fun _ s' => Q (.ref h1.objs.size) s') hat ea er hal hk hL (fun b hb => hu b hb) (fun out ho eo => by
    obtain ⟨c, hc⟩ := sortedHeap_at (vs := acc.toList) (out := out.toArray) hat
    exact h h1 out c _ t1 hk1 (fun b o q => (sortedHeap_old (Nat.ne_of_lt (Heap.lt_size q)) (Heap.lt_size (Heap.get?_push_of_some _ q))).trans (Heap.get?_push_of_some _ q)) hc eo)
  refine wpAny_bind (wpAny_holding (wpAny_mono hg (fun _ s' x => ?_) fun _ _ e => e))
  exact wpAny_pure ⟨_, rfl, x⟩
theorem cn_sorted (hc : X.calm = true) (hu : X.A.units + 65 < cLine) : CallR X (.builtin "sorted") (rNs X.K cs sortD) := by
  rintro pins s σ H xs us Q I r ⟨Z, F, σ', ρ, ds, d, R, w, e, q⟩
  unfold sortD at e
  split at e
  · rename_i ds
    split at e
    · rename_i hg
      cases e
      obtain ⟨v, rfl, w1⟩ := vws1 w
      obtain ⟨a, vs, rfl, s1, r1⟩ := R.lst w1
      obtain ⟨its, rv, hl, hz⟩ := I.list s1
      rw [Vals.ref1 r]
      have hlen := r1.len
      have ez := each_zip rv r1
      have es := snd_zip hlen
      have hbs : (vs.zip ds).length = ds.length := by
        rw [List.length_zip]
        omega
      have hsl : (100000 : Nat) ≤ sizeLine := by decide
      have hmem : ∀ b ∈ vs.zip ds, b.2 ∈ ds := fun b hb => by
        rw [← es]
        exact List.mem_map_of_mem hb
      refine sorted_data (bs := vs.zip ds) (enc := fun b => b.2) (R := fun u b => RelV b.1 u ∧ Rp X.K F b.1 b.2) hl.isList ez ?_ (by rw [es]; exact srt_alike hg.1) (by rw [es]; exact srt_sortable hg.1) (by omega) (fun b hb => ?_) fun out ho eo => ?_
      · exact (each_mem ez).mono fun u b ⟨⟨h1, h2⟩, hb⟩ => rd_shaped I (h2.ext R.ex) (srt_shaped hg.1 (hmem b hb)).1 h1
      · have := (srt_shaped hg.1 (hmem b hb)).2
        show _ + 2 + b.2.depth < _
        omega
      · obtain ⟨h1, h2⟩ := each_back eo
        have hs2 : ((vs.zip ds).mergeSort (dataLe false fun b : V × D => b.2)).map (·.2) = ds.mergeSort (dataLe false id) := by
          have h0 : ((vs.zip ds).mergeSort (dataLe false fun b : V × D => b.2)).map (·.2) = ((vs.zip ds).map (·.2)).mergeSort (dataLe false id) := List.map_mergeSort (f := fun b : V × D => b.2) fun _ _ _ _ => rfl
          rw [es] at h0
          exact h0
        rw [hs2] at h2
        obtain ⟨ep, he'⟩ := PyProof.Rows.sortedAll_at s.heap its out.toArray
        have hn : (((vs.zip ds).mergeSort (dataLe false fun b : V × D => b.2)).map (·.1)).length ≤ sizeLine := by
          rw [List.length_map, List.length_mergeSort]
          omega
        have fresh : H (s.heap.objs.size + 1) = none := I.hok.fresh (Nat.le_succ _)
        obtain ⟨R4, fp, zp, mp⟩ := R.made (o := .lst (((vs.zip ds).mergeSort (dataLe false fun b : V × D => b.2)).map (·.1))) fresh
        exact ⟨.ref _, upd H (s.heap.objs.size + 1) (.lst (((vs.zip ds).mergeSort (dataLe false fun b : V × D => b.2)).map (·.1))), I.laid (t' := s.toks) (fun _ _ => PyProof.Rows.sortedAll_old) (Nat.le_succ _) ⟨hn, out, ep, h1, he'⟩, rfl, q _ F _ (Ext.refl F) R4 fp zp mp ⟨_, upd_same, h2⟩⟩
    · cases e
  · rename_i es
    obtain ⟨kds, e3, e⟩ := Option.bind_eq_some_iff.mp e
    split at e
    · rename_i hg
      cases e
      obtain ⟨hne, hall, hlen⟩ := hg
      obtain ⟨v, rfl, w1⟩ := vws1 w
      obtain ⟨dA, kvs, ev, hD, pe⟩ : ∃ dA kvs, v = .ref dA ∧ H dA = some (.dT kvs) ∧ PairE X.K H kvs kds := by
        rcases R.dt w1 e3 with ⟨z, _⟩ | z
        · exact absurd z hne
        · exact z
      subst ev
      rw [Vals.ref1 r]
      obtain ⟨hz, lo, xs, kt, o, es', ep, g1, g2, g3, g4, g5⟩ := (show ObjOk X.prog X.w H s.heap dA (.dT kvs) from I.hok dA _ hD)
      have kx : xs.map (·.1) = kds.map (·.1) := by
        have h1 : ∀ {l : List (List L2.Key × V)} {m : List (List L2.Key × Addr × Value)}, KT H l m → m.map (·.1) = l.map (·.1) := by
          intro l m h
          induction h with
          | nil => rfl
          | cons a _ ih => rw [List.map_cons, List.map_cons, ih, a.1]
        have h2 : ∀ {l : List (List L2.Key × V)} {m : List (List L2.Key × D)}, PairE X.K H l m → l.map (·.1) = m.map (·.1) := by
          intro l m h
          induction h with
          | nil => rfl
          | cons a _ ih => rw [List.map_cons, List.map_cons, ih, a.1]
        exact (h1 kt).trans (h2 pe)
      have tupx : ∀ x ∈ xs, H x.2.1 = some (.tup (x.1.map kV)) := by
        have h1 : ∀ {l : List (List L2.Key × V)} {m : List (List L2.Key × Addr × Value)}, KT H l m → ∀ x ∈ m, H x.2.1 = some (.tup (x.1.map kV)) := by
          intro l m h
          induction h with
          | nil => intro x hx; cases hx
          | cons a _ ih =>
            intro x hx
            rcases List.mem_cons.mp hx with rfl | hx
            · rw [← a.1]; exact a.2.1
            · exact ih x hx
        exact h1 kt
      have hxl : xs.length ≤ 100000 := by
        have := congrArg List.length kx
        rw [List.length_map, List.length_map] at this
        omega
      have hsl : (100000 : Nat) ≤ sizeLine := by decide
      have esz : es'.size = xs.length := by rw [← Array.length_toList, g4, List.length_map]
      have em : (xs.map fun x => PyData.tuple (x.1.map kD)) = kds.map fun p => PyData.tuple (p.1.map kD) := by
        have h1 : (xs.map fun x => PyData.tuple (x.1.map kD)) = (xs.map (·.1)).map fun k => PyData.tuple (k.map kD) := by rw [List.map_map]; rfl
        have h2 : (kds.map fun p => PyData.tuple (p.1.map kD)) = (kds.map (·.1)).map fun k => PyData.tuple (k.map kD) := by rw [List.map_map]; rfl
        rw [h1, h2, kx]
      have hok : srtOk (xs.map fun x => PyData.tuple (x.1.map kD)) = true := by
        rw [em]
        refine Bool.or_eq_true_iff.mpr (.inl ?_)
        rw [List.all_map]
        exact hall
      refine sorted_dict_data (bs := xs) (R := fun v x => v = Value.ref x.2.1) (fun x => PyData.tuple (x.1.map kD)) lo ⟨o, g1, g2, g3⟩ (I.ok.hd hc) esz (fun i hi b hb => ?_) (fun v x hv hx => ?_) (srt_alike hok) (srt_sortable hok) (by omega) (fun x hx => ?_) fun h1 out cc' h' tk hk1 hk2 hl eo => ?_
      · have h1 : es'.toList[i]? = some es'[i] := by rw [Array.getElem?_toList, Array.getElem?_eq_getElem hi]
        rw [g4, List.getElem?_map, hb] at h1
        have h1 := Option.some.inj h1
        rw [← h1]
        rfl
      · subst hv
        have ht : tri (.tuple (x.1.map kD)) = true := by
          have : x.1 ∈ kds.map (·.1) := by rw [← kx]; exact List.mem_map_of_mem hx
          obtain ⟨kd, hk1, hk2⟩ := List.mem_map.mp this
          rw [← hk2]
          exact List.all_eq_true.mp hall _ hk1
        obtain ⟨nm, i, j, hd, _⟩ := tri_is ht
        have htup := tupx x hx
        have hk : x.1 = [.inr nm, .inl i, .inl j] := by
          injection hd with hd
          have h2 := keysD_map x.1
          rw [hd] at h2
          exact (Option.some.inj ((show keysD [.str nm, .int i, .int j] = some [.inr nm, .inl i, .inl j] from rfl).symm.trans h2)).symm
        rw [hk] at htup ⊢
        obtain ⟨_, its, rv2, ot, y1, y2, n, y3⟩ := (show ObjOk X.prog X.w H s.heap x.2.1 (.tup _) from I.hok _ _ htup)
        cases rv2 with
        | cons a b =>
          cases b with
          | cons b1 b2 =>
            cases b2 with
            | cons c1 c2 =>
              cases c2
              obtain ⟨ta, rfl⟩ := a
              obtain ⟨ti, rfl⟩ := b1
              obtain ⟨tj, rfl⟩ := c1
              exact Reads.tuple y1 y2 y3 (.cons (.str _ _) (.cons (.int _ _) (.cons (.int _ _) .nil)))
      · have := (srt_shaped hok (List.mem_map_of_mem hx)).2
        show _ + 2 + (PyData.tuple (x.1.map kD)).depth < _
        omega
      · have eout := each_refs eo
        have I3 : Inv X pins σ H { s with heap := h1, toks := tk } := I.kept hk1
        have hl2 : (xs.mergeSort (dataLe false fun x : List L2.Key × Addr × Value => PyData.tuple (x.1.map kD))).length ≤ sizeLine := by
          rw [List.length_mergeSort]
          omega
        have I4 : Inv X pins σ (upd H h1.objs.size (.lst ((xs.mergeSort (dataLe false fun x : List L2.Key × Addr × Value => PyData.tuple (x.1.map kD))).map fun x => V.ref x.2.1))) { s with heap := h', toks := tk } :=
          I3.laid (s := { s with heap := h1, toks := tk }) (t' := tk) hk2 (Nat.le_refl _) ⟨by rw [List.length_map]; exact hl2, _, cc', by rw [eout]; exact vals_refs _, hl⟩
        have fresh : H h1.objs.size = none := I3.hok.fresh (Nat.le_refl _)
        obtain ⟨R4, n1, n2, n3⟩ := R.made (o := .lst ((xs.mergeSort (dataLe false fun x : List L2.Key × Addr × Value => PyData.tuple (x.1.map kD))).map fun x => V.ref x.2.1)) fresh
        refine ⟨.ref _, _, I4, rfl, q _ F _ (Ext.refl F) R4 n1 n2 n3 ⟨_, upd_same, ?_⟩⟩
        have es2 : (kds.map fun p => PyData.tuple (p.1.map kD)).mergeSort (dataLe false id) = (xs.mergeSort (dataLe false fun x : List L2.Key × Addr × Value => PyData.tuple (x.1.map kD))).map fun x => PyData.tuple (x.1.map kD) := by
          rw [← em]
          exact (List.map_mergeSort (f := fun x : List L2.Key × Addr × Value => PyData.tuple (x.1.map kD)) fun _ _ _ _ => rfl).symm
        rw [es2]
        have hin : ∀ x ∈ xs.mergeSort (dataLe false fun x : List L2.Key × Addr × Value => PyData.tuple (x.1.map kD)), x ∈ xs := fun x hx => List.mem_mergeSort.mp hx
        generalize xs.mergeSort (dataLe false fun x : List L2.Key × Addr × Value => PyData.tuple (x.1.map kD)) = ys at hin
        induction ys with
        | nil => exact .nil
        | cons y r ih => exact .cons (.tup (R.tp _ _ (tupx y (hin y List.mem_cons_self))) (rps_keyL _)) (ih fun z hz => hin z (List.mem_cons_of_mem _ hz))
    · cases e
  · cases e
theorem e_callBN {id : String} {g : List D → Option D} {e : Expr} {es : List Expr} {fr : Nv → Option (List D)} {x : Str} {p pos : Pos} (hc : CallR X (.builtin id) (rNs X.K cs g)) (hg : Gl X x) (hm : X.mg x = none) (hv : bootBuiltins x = some (.builtin id)) (ha : EWs cs X (e :: es) fr) (hn : x ≠ "__name__" := by decide) (hdb : (x == ("__debug__" : Str)) = false := by decide)
    (he : starEach (e :: es) X.env = (false, eval e X.env) :: starEach es X.env := by rfl) (hpl : (backTo pos (starEach es X.env)).any (·.1) = false := by rfl) : EN cs X (.Call (.Name x p) (e :: es) [] pos) (callD g fr) :=
  ⟨pe_imp (pe_callB hc hg hm hv ha.h hn hdb he hpl) t_callN⟩
/-! ## all(xs) of a list of truths -/
def boolsD : List D → Option (List Bool)
  | [] => some []
  | .bool b :: r => (boolsD r).map (b :: ·)
  | _ => none
def allLD : List D → Option D
  | [.list xs] => (boolsD xs).map fun bs => .bool (bs.all id)
  | _ => none
theorem bools_rps {K : PySem.W.Frag} {F : Hp} : ∀ {vs : List V} {ds : List D} {bs : List Bool}, Rps K F vs ds → boolsD ds = some bs → vs = bs.map V.bl
  | _, _, _, .nil, e => by
    cases e
    rfl
  | _, _, bs, .cons (d := d) a b, e => by
    cases d with
    | bool x =>
      obtain ⟨bs', e1, rfl⟩ := Option.map_eq_some_iff.mp e
      cases a
      rw [bools_rps b e1]
      rfl
    | _ => cases e
theorem cd_allL (hc : X.calm = true) : CallR X (.builtin "all") (rDs X.K cs allLD) := by
  rintro pins s σ H xs us Q I r ⟨Z, F, σ', ρ, ds, d, R, w, e, q⟩
  unfold allLD at e
  split at e
  · obtain ⟨bs, e1, rfl⟩ := Option.map_eq_some_iff.mp e
    obtain ⟨v, rfl, w1⟩ := vws1 w
    obtain ⟨a, vs, rfl, s1, r1⟩ := R.lst w1
    have := bools_rps r1 e1
    subst this
    exact cr_all hc pins s σ H _ us Q I r ⟨a, bs, rfl, s1, q _ F H (Ext.refl F) R (.bl _)⟩
  · cases e
end
end DS

namespace DS
open PySem L2
/-! ## for k in d, d a shared dict with plain keys -/
def keysLD (kvs : List (Key × V)) : List D := kvs.map fun p => kD p.1
theorem src_keysL {K : PySem.W.Frag} {cs : List Tb} {a : Addr} {o : Obj} {kvs : List (Key × V)} (hf : (kvs.all fun p => flat p.2) = true) : Src K cs (fun F _ _ => F a = some (.frz o (.dK kvs))) (Itk a o kvs) (keysLD kvs) := by
  refine ⟨fun F F' σ ρ x p => x _ _ p, fun Z F H σ ρ i x R p hi => ?_, fun Z F H σ ρ i R p hi => ?_⟩
  · unfold keysLD at hi
    rw [List.getElem?_map] at hi
    obtain ⟨q, h1, rfl⟩ := Option.map_eq_some_iff.mp hi
    obtain ⟨h2, _⟩ := List.getElem?_eq_some_iff.mp h1
    refine ⟨⟨R.fh _ _ p, h2⟩, fun y H' ⟨e0, k, v, e1, e2⟩ => ?_⟩
    rw [h1] at e1
    cases e1
    subst e2 e0
    exact ⟨F, Ext.refl F, R, rp_key k⟩
  · unfold keysLD at hi
    rw [List.length_map] at hi
    exact ⟨R.fh _ _ p, hi⟩
/-- for k in d -/
def keysS (j : Nat) (a : D → Nv → Option Nv) (g : Nv → Option SR) : Nv → Option SR := fun ρ => match ρ[j]? with
  | some (some (.sh (.dict es))) => (decK es).bind fun kvs => (forS a g (keysLD kvs) ρ).bind noExc
  | _ => none
section
variable {cs : List Tb} {X : Cx} {E : XK} {body : List Stmt} {pos : Pos} {a : D → Nv → Option Nv} {g : Nv → Option SR}
theorem sd_keys {tg : Expr} {j : Nat} {x : Str} {p : Pos} (hp : PassesOwn (model X.prog X.w) X.A X.env X.xe) (hc : X.calm = true) (he : PE X (.Name x p) (tVar j)) (hg : GD cs X tg a) (hb : SDs cs X E body g)
    (hs : ∀ y, foldedSetIterable (.Name x p) X.env y = pure y := by intro _; rfl) :
    SD cs X E (.For tg (.Name x p) body [] pos) (keysS j a g) := by
  have base := ps_for (pos := pos) hp hc (pi_keys he) hg.h hb.h hs
  refine ⟨ps_imp (ps_or (ps_lock base) base) fun D σ H ⟨Z, F, ρ, r, R, ef, w⟩ => ?_⟩
  unfold keysS at ef
  split at ef
  · rename_i es hes
    obtain ⟨kvs, h1, h2⟩ := Option.bind_eq_some_iff.mp ef
    obtain ⟨r0, h3, h4⟩ := Option.bind_eq_some_iff.mp h2
    have hr : r0 = r ∧ ∀ c, r ≠ .exc c := by
      cases r0 <;> cases h4 <;> exact ⟨rfl, fun c z => by cases z⟩
    obtain ⟨rfl, hne⟩ := hr
    obtain ⟨v, s1, s2⟩ := R.sh j _ hes
    generalize hd : PyData.dict es = d0 at s2
    cases s2 with
    | @dK ad ks q f =>
      cases hd
      rw [decK_en f] at h1
      cases h1
      rcases q with q | ⟨o, q⟩
      · refine .inl ⟨ad, .dK kvs, R.fh _ _ q, trivial, fun od => ?_⟩
        have RL := R.told (w := .frz od (.dK kvs)) q (fun _ z => by cases z) (sim_lock q)
        refine ⟨.ref ad, s1, ad, od, rfl, .inl ⟨kvs, upd_same, ?_⟩⟩
        have fin : ∀ {σ' : L2.St} {F' H' : Hp} {ρ' : Nv}, Ext (upd F ad (.frz od (.dK kvs))) F' → Rep X.K cs Z F' H' σ' ρ' → F' ad = some (.frz od (.dK kvs)) ∧ H' ad = some (.frz od (.dK kvs)) ∧ Ext F (upd F' ad (.dK kvs)) ∧ Rep X.K cs Z (upd F' ad (.dK kvs)) (upd H' ad (.dK kvs)) σ' ρ' := fun {σ' F' H' ρ'} x' R' => by
          have g1 : F' ad = some (.frz od (.dK kvs)) := x' _ _ upd_same
          refine ⟨g1, R'.fh _ _ g1, fun b u hb => ?_, R'.told g1 (fun _ z => by cases z) (sim_free g1)⟩
          by_cases hba : b = ad
          · subst hba
            rw [q] at hb
            cases hb
            exact upd_same
          · rw [upd_ne hba]
            exact x' b u (by rw [upd_ne hba]; exact hb)
        refine for_core (P := fun F _ _ => F ad = some (.frz od (.dK kvs))) RL upd_same (fun _ _ _ _ _ h => h) (src_keysL f) h3 ?_
        cases r0 with
        | nx ρ' => exact fun σ' F' H' l' x' R' => let ⟨_, g2, g3, g4⟩ := fin x' R'; ⟨g2, w σ' _ _ l' g3 g4⟩
        | bk ρ' => exact fun σ' F' H' l' x' R' => let ⟨_, g2, g3, g4⟩ := fin x' R'; ⟨g2, w σ' _ _ l' g3 g4⟩
        | ct ρ' => exact fun σ' F' H' l' x' R' => let ⟨_, g2, g3, g4⟩ := fin x' R'; ⟨g2, w σ' _ _ l' g3 g4⟩
        | rt d o ρ' => exact fun v σ' F' H' l' x' R' res => let ⟨g1, g2, g3, g4⟩ := fin x' R'; ⟨g2, w v σ' _ _ l' g3 g4 (res.told g1 (sim_free g1))⟩
        | exc c => exact (hne c rfl).elim
      · refine .inr ⟨.ref ad, s1, ad, o, rfl, .inl ⟨kvs, R.fh _ _ q, ?_⟩⟩
        exact for_core (P := fun F _ _ => F ad = some (.frz o (.dK kvs))) R q (fun _ _ _ _ _ h => h) (src_keysL f) h3 w
    | dT q f n =>
      cases hd
      exact (n (decK_ents f h1)).elim
    | _ => cases hd
  · cases ef
end
end DS

namespace MD
open PySem L2 DS
/-! is_sign -/
noncomputable def g_is_sign : Nv → Option SR := (seqS (ifS (orT (notT (fun ρ => ((fun ρ => ((nmW 0) ρ).map fun d => .bool (isiB "str" d)) ρ).bind truD)) (opT neD (callD lenD (cons2 (nmW 0) (fun _ => some []))) (fun _ => some (.int 1))))
      (fun ρ => ((fun _ => some (.bool false)) ρ).map fun d => .rt d false ρ)
      (fun ρ => some (.nx ρ)))
    (seqS (setS 1 (callD ordD (cons2 (nmW 0) (fun _ => some []))))
    (fun ρ => ((andV (ch3 leD leD (fun _ => some (.int 32)) (nmW 1) (fun _ => some (.int 126))) (op2 neD (nmW 1) (fun _ => some (.int 37)))) ρ).map fun d => .rt d false ρ)))
noncomputable def sem_is_sign : List D → Option Ou := semR 1 1 g_is_sign
theorem co_is_sign : Comes [.ro] 1 g_is_sign sem_is_sign := comes_ro (by decide)
/-! is_name -/
noncomputable def g_is_name : Nv → Option SR := (seqS (ifS (orT (notT (fun ρ => ((fun ρ => ((nmW 0) ρ).map fun d => .bool (isiB "str" d)) ρ).bind truD)) (orT (opT ltD (callD lenD (cons2 (nmW 0) (fun _ => some []))) (fun _ => some (.int 1))) (opT gtD (callD lenD (cons2 (nmW 0) (fun _ => some []))) (fun _ => some (.int 12)))))
      (fun ρ => ((fun _ => some (.bool false)) ρ).map fun d => .rt d false ρ)
      (fun ρ => some (.nx ρ)))
    (fun ρ => ((fun ρ => ((fun ρ => ((nmW 0) ρ).bind asSg) ρ).bind fun ds => (allD (ch3 leD leD (fun _ => some (.str "a")) (nmW 0) (fun _ => some (.str "z"))) ds).map .bool) ρ).map fun d => .rt d false ρ))
noncomputable def sem_is_name : List D → Option Ou := semR 1 0 g_is_name
theorem co_is_name : Comes [.ro] 0 g_is_name sem_is_name := comes_ro (by decide)
/-! is_rule -/
noncomputable def g_is_rule : Nv → Option SR := (seqS (ifS (notT (fun ρ => ((fun ρ => ((nmW 0) ρ).map fun d => .bool (isiB "tuple" d)) ρ).bind truD))
      (fun ρ => ((fun _ => some (.bool false)) ρ).map fun d => .rt d false ρ)
      (fun ρ => some (.nx ρ)))
    (seqS (ifS (opT eqD (callD lenD (cons2 (nmW 0) (fun _ => some []))) (fun _ => some (.int 2)))
      (fun ρ => ((andV (callS 1 sem_is_name (cons2 (op2 ixD (nmW 0) (fun _ => some (.int 0))) (fun _ => some []))) (callS 1 sem_is_sign (cons2 (op2 ixD (nmW 0) (fun _ => some (.int 1))) (fun _ => some [])))) ρ).map fun d => .rt d false ρ)
      (fun ρ => some (.nx ρ)))
    (fun ρ => ((andV (op2 eqD (callD lenD (cons2 (nmW 0) (fun _ => some []))) (fun _ => some (.int 3))) (fun ρ => ((fun ρ => ((nmP 0) ρ).bind asTu) ρ).bind fun ds => (allD (callS 1 sem_is_name (cons2 (nmP 0) (fun _ => some []))) ds).map .bool)) ρ).map fun d => .rt d false ρ)))
noncomputable def sem_is_rule : List D → Option Ou := semR 1 0 g_is_rule
theorem co_is_rule : Comes [.ro] 0 g_is_rule sem_is_rule := comes_ro (by decide)
/-! is_fork_rule -/
noncomputable def g_is_fork_rule : Nv → Option SR := (fun ρ => ((op2 eqD (callD lenD (cons2 (nmW 0) (fun _ => some []))) (fun _ => some (.int 3))) ρ).map fun d => .rt d false ρ)
noncomputable def sem_is_fork_rule : List D → Option Ou := semR 1 0 g_is_fork_rule
theorem co_is_fork_rule : Comes [.ro] 0 g_is_fork_rule sem_is_fork_rule := comes_ro (by decide)
/-! need_only_rules -/
noncomputable def g_need_only_rules : Nv → Option SR := (seqS (ifS (opT eqD (callD lenD (cons2 (nmW 0) (fun _ => some []))) (fun _ => some (.int 0)))
      (fun _ => none)
      (fun ρ => some (.nx ρ)))
    (fun ρ => ((fun ρ => ((cons2 (nmP 0) (fun _ => some [])) ρ).bind enumV) ρ).bind fun ds => forS (toTu 2 (toCons (toNm 1) (toCons (toNm 2) toNil))) (seqS (ifS (opT geD (nmW 1) (fun _ => some (.int 40)))
      (fun _ => none)
      (fun ρ => some (.nx ρ)))
    (ifS (notT (fun ρ => ((callS 1 sem_is_rule (cons2 (nmP 2) (fun _ => some []))) ρ).bind truD))
      (fun _ => none)
      (fun ρ => some (.nx ρ)))) ds ρ))
noncomputable def sem_need_only_rules : List D → Option Ou := semR 1 2 g_need_only_rules
theorem co_need_only_rules : Comes [.ro] 2 g_need_only_rules sem_need_only_rules := comes_ro (by decide)
/-! names_of -/
noncomputable def g_names_of : Nv → Option SR := (fun ρ => ((callD listKD (cons2 (dcV 1 (fun ρ => ((nmP 0) ρ).bind asL) (fun _ => some true) (op2 ixD (nmW 1) (fun _ => some (.int 0))) (fun _ => some (.bool true))) (fun _ => some []))) ρ).map fun d => .rt d true ρ)
noncomputable def sem_names_of : List D → Option Ou := semR 1 1 g_names_of
theorem co_names_of : Comes [.ro] 1 g_names_of sem_names_of := comes_ro (by decide)
/-! need_known_names -/
noncomputable def g_need_known_names : Nv → Option SR := (seqS (setS 1 (callS 1 sem_names_of (cons2 (nmP 0) (fun _ => some []))))
    (fun ρ => ((fun ρ => ((cons2 (nmP 0) (fun _ => some [])) ρ).bind enumV) ρ).bind fun ds => forS (toTu 2 (toCons (toNm 2) (toCons (toNm 3) toNil))) (ifS (fun ρ => ((callS 1 sem_is_fork_rule (cons2 (nmP 3) (fun _ => some []))) ρ).bind truD)
      (fun ρ => ((fun ρ => ((slS (nmW 3) (fun ρ => ((fun _ => some (.int 1)) ρ).bind fun x => (asI x).map some) (fun _ => some none)) ρ).bind asTu) ρ).bind fun ds => forS (toNm 4) (ifS (opT ninD' (nmW 4) (nmW 1))
      (fun _ => none)
      (fun ρ => some (.nx ρ))) ds ρ)
      (fun ρ => some (.nx ρ))) ds ρ))
noncomputable def sem_need_known_names : List D → Option Ou := semR 1 4 g_need_known_names
theorem co_need_known_names : Comes [.ro] 4 g_need_known_names sem_need_known_names := comes_ro (by decide)
/-! length_by -/
noncomputable def g_length_by : Nv → Option SR := (seqS (ifS (notT (fun ρ => ((callS 1 sem_is_fork_rule (cons2 (nmP 0) (fun _ => some []))) ρ).bind truD))
      (fun ρ => ((fun _ => some (.int 1)) ρ).map fun d => .rt d false ρ)
      (fun ρ => some (.nx ρ)))
    (seqS (fun ρ => ((nmP 0) ρ).bind fun d => ((toTu 3 (toCons (toNm 2) (toCons (toNm 3) (toCons (toNm 4) toNil)))) d ρ).map .nx)
    (seqS (ifS (andT (opT inKD (nmW 3) (nmW 1)) (opT inKD (nmW 4) (nmW 1)))
      (fun ρ => ((op2 addD (op2 getKD (nmW 1) (nmW 3)) (op2 getKD (nmW 1) (nmW 4))) ρ).map fun d => .rt d false ρ)
      (fun ρ => some (.nx ρ)))
    (fun ρ => ((fun _ => some .none) ρ).map fun d => .rt d false ρ))))
noncomputable def sem_length_by : List D → Option Ou := semR 2 3 g_length_by
theorem co_length_by : Comes [.ro, .ro] 3 g_length_by sem_length_by := comes_ro (by decide)
/-! keep_lesser -/
noncomputable def g_keep_lesser : Nv → Option SR := (seqS (ifS (andT (opT inKD (nmW 1) (nmW 0)) (opT leD (op2 getKD (nmW 0) (nmW 1)) (nmW 2)))
      (fun ρ => ((fun _ => some (.bool false)) ρ).map fun d => .rt d false ρ)
      (fun ρ => some (.nx ρ)))
    (seqS (putS 0 (nmW 1) (nmP 2))
    (fun ρ => ((fun _ => some (.bool true)) ρ).map fun d => .rt d false ρ)))
noncomputable def sem_keep_lesser : List D → Option Ou := semM [.io, .ro, .ro] 0 g_keep_lesser
theorem co_keep_lesser : Comes [.io, .ro, .ro] 0 g_keep_lesser sem_keep_lesser := comes_m
/-! lengths_of -/
noncomputable def g_lengths_of : Nv → Option SR := (seqS (setN 1 (fun _ => some (.dict [])))
    (seqS (setS 2 (fun _ => some (.bool true)))
    (seqS (whileC (fun ρ => ((nmW 2) ρ).bind truD) (seqS (setS 2 (fun _ => some (.bool false)))
    (fun ρ => ((fun ρ => ((nmP 0) ρ).bind asL) ρ).bind fun ds => forS (toNm 3) (seqS (setS 4 (callF 2 sem_length_by (cons2 (nmW 3) (cons2 (nmW 1) (fun _ => some [])))))
    (ifX (andX (opT isntD (nmW 4) (fun _ => some .none)) (fun ρ => ((callX 3 1 sem_keep_lesser (fun ρ => (nmM 1 ρ).bind fun d => ((cons2 (op2 ixD (nmW 3) (fun _ => some (.int 0))) (cons2 (nmP 4) (fun _ => some []))) ρ).bind fun ds => if ds.length = 2 then some (d :: ds) else none)) ρ).bind fun r => (truD r.1).map fun k => (k, r.2)))
      (setS 2 (fun _ => some (.bool true)))
      (fun ρ => some (.nx ρ)))) ds ρ)))
    (retNm 1))))
noncomputable def sem_lengths_of : List D → Option Ou := semR 1 4 g_lengths_of
theorem co_lengths_of : Comes [.ro] 4 g_lengths_of sem_lengths_of := comes_ro (by decide)
/-! need_ends -/
noncomputable def g_need_ends : Nv → Option SR := (seqS (setS 1 (callS 1 sem_lengths_of (cons2 (nmP 0) (fun _ => some []))))
    (fun ρ => ((fun ρ => ((callS 1 sem_names_of (cons2 (nmP 0) (fun _ => some []))) ρ).bind asL) ρ).bind fun ds => forS (toNm 2) (ifS (opT ninKD (nmW 2) (nmW 1))
      (fun _ => none)
      (fun ρ => some (.nx ρ))) ds ρ))
noncomputable def sem_need_ends : List D → Option Ou := semR 1 2 g_need_ends
theorem co_need_ends : Comes [.ro] 2 g_need_ends sem_need_ends := comes_ro (by decide)
/-! need_rules -/
noncomputable def g_need_rules : Nv → Option SR := (seqS (fun ρ => ((callS 1 sem_need_only_rules (cons2 (nmP 0) (fun _ => some []))) ρ).map fun _ => .nx ρ)
    (seqS (fun ρ => ((callS 1 sem_need_known_names (cons2 (nmP 0) (fun _ => some []))) ρ).map fun _ => .nx ρ)
    (seqS (fun ρ => ((callS 1 sem_need_ends (cons2 (nmP 0) (fun _ => some []))) ρ).map fun _ => .nx ρ)
    (fun ρ => ((callD listD (cons2 (nmW 0) (fun _ => some []))) ρ).map fun d => .rt d true ρ))))
noncomputable def sem_need_rules : List D → Option Ou := semR 1 0 g_need_rules
theorem co_need_rules : Comes [.ro] 0 g_need_rules sem_need_rules := comes_ro (by decide)
/-! need_text -/
noncomputable def g_need_text : Nv → Option SR := (seqS (ifS (notT (fun ρ => ((fun ρ => ((nmW 0) ρ).map fun d => .bool (isiB "str" d)) ρ).bind truD))
      (fun _ => none)
      (fun ρ => some (.nx ρ)))
    (seqS (ifS (opT gtD (callD lenD (cons2 (nmW 0) (fun _ => some []))) (fun _ => some (.int 40)))
      (fun _ => none)
      (fun ρ => some (.nx ρ)))
    (seqS (fun ρ => ((fun ρ => ((cons2 (nmP 0) (fun _ => some [])) ρ).bind enumS) ρ).bind fun ds => forS (toTu 2 (toCons (toNm 1) (toCons (toNm 2) toNil))) (ifS (notT (fun ρ => ((callS 1 sem_is_sign (cons2 (nmP 2) (fun _ => some []))) ρ).bind truD))
      (fun _ => none)
      (fun ρ => some (.nx ρ))) ds ρ)
    (fun ρ => ((nmP 0) ρ).map fun d => .rt d false ρ))))
noncomputable def sem_need_text : List D → Option Ou := semR 1 2 g_need_text
theorem co_need_text : Comes [.ro] 2 g_need_text sem_need_text := comes_ro (by decide)
/-! top_of -/
noncomputable def g_top_of : Nv → Option SR := (fun ρ => ((op2 ixD (op2 ixD (nmW 0) (fun _ => some (.int 0))) (fun _ => some (.int 0))) ρ).map fun d => .rt d false ρ)
noncomputable def sem_top_of : List D → Option Ou := semR 1 0 g_top_of
theorem co_top_of : Comes [.ro] 0 g_top_of sem_top_of := comes_ro (by decide)
/-! enter -/
noncomputable def g_enter : Nv → Option SR := (itemsS 1 (toTu 2 (toCons (toNm 4) (toCons (toNm 5) toNil))) (putTS 0 (keysV (cons2 (nmP 4) (cons2 (nmP 2) (cons2 (nmP 3) (fun _ => some []))))) (nmP 5)))
noncomputable def sem_enter : List D → Option Ou := semM [.io, .ro, .ro, .ro] 2 g_enter
theorem co_enter : Comes [.io, .ro, .ro, .ro] 2 g_enter sem_enter := comes_m
/-! leaf_cost -/
noncomputable def g_leaf_cost : Nv → Option SR := (seqS (ifS (opT eqD (nmW 2) (nmW 3))
      (fun ρ => ((fun _ => some (.int 1)) ρ).map fun d => .rt d false ρ)
      (fun ρ => some (.nx ρ)))
    (seqS (ifS (opT inD' (nmW 0) (slS (nmW 1) (fun ρ => ((nmP 2) ρ).bind fun x => (asI x).map some) (fun ρ => ((nmP 3) ρ).bind fun x => (asI x).map some)))
      (fun ρ => ((op2 subD (op2 subD (nmW 3) (nmW 2)) (fun _ => some (.int 1))) ρ).map fun d => .rt d false ρ)
      (fun ρ => some (.nx ρ)))
    (fun ρ => ((op2 subD (nmW 3) (nmW 2)) ρ).map fun d => .rt d false ρ)))
noncomputable def sem_leaf_cost : List D → Option Ou := semR 4 0 g_leaf_cost
theorem co_leaf_cost : Comes [.ro, .ro, .ro, .ro] 0 g_leaf_cost sem_leaf_cost := comes_ro (by decide)
/-! inside_cost -/
noncomputable def g_inside_cost : Nv → Option SR := (seqS (ifS (notT (fun ρ => ((callS 1 sem_is_fork_rule (cons2 (nmP 0) (fun _ => some []))) ρ).bind truD))
      (fun ρ => ((callS 4 sem_leaf_cost (cons2 (op2 ixD (nmW 0) (fun _ => some (.int 1))) (cons2 (nmP 1) (cons2 (nmP 3) (cons2 (nmP 4) (fun _ => some [])))))) ρ).map fun d => .rt d false ρ)
      (fun ρ => some (.nx ρ)))
    (seqS (fun ρ => ((nmP 0) ρ).bind fun d => ((toTu 3 (toCons (toNm 5) (toCons (toNm 6) (toCons (toNm 7) toNil)))) d ρ).map .nx)
    (fun ρ => ((op2 minDD (lcV 8 (fun ρ => ((cons2 (op2 addD (nmW 3) (fun _ => some (.int 1))) (cons2 (nmP 4) (fun _ => some []))) ρ).bind rng2) (fun _ => some true) (op2 addD (fun ρ => ((nmW 2) ρ).bind fun d => ((keysV (cons2 (nmP 6) (cons2 (nmP 3) (cons2 (nmP 8) (fun _ => some []))))) ρ).bind fun ks => getTD d ks) (fun ρ => ((nmW 2) ρ).bind fun d => ((keysV (cons2 (nmP 7) (cons2 (nmP 8) (cons2 (nmP 4) (fun _ => some []))))) ρ).bind fun ks => getTD d ks))) (fun _ => some .none)) ρ).map fun d => .rt d false ρ)))
noncomputable def sem_inside_cost : List D → Option Ou := semR 5 4 g_inside_cost
theorem co_inside_cost : Comes [.ro, .ro, .ro, .ro, .ro] 4 g_inside_cost sem_inside_cost := comes_ro (by decide)
/-! inside_costs -/
noncomputable def g_inside_costs : Nv → Option SR := (seqS (setN 5 (fun _ => some (.dict [])))
    (seqS (fun ρ => ((fun ρ => ((nmP 0) ρ).bind asL) ρ).bind fun ds => forS (toNm 6) (seqS (setS 7 (callS 5 sem_inside_cost (cons2 (nmP 6) (cons2 (nmP 1) (cons2 (nmP 2) (cons2 (nmP 3) (cons2 (nmP 4) (fun _ => some []))))))))
    (ifS (opT isntD (nmW 7) (fun _ => some .none))
      (fun ρ => ((callX 3 5 sem_keep_lesser (fun ρ => (nmM 5 ρ).bind fun d => ((cons2 (op2 ixD (nmW 6) (fun _ => some (.int 0))) (cons2 (nmP 7) (fun _ => some []))) ρ).bind fun ds => if ds.length = 2 then some (d :: ds) else none)) ρ).map fun r => .nx r.2)
      (fun ρ => some (.nx ρ)))) ds ρ)
    (retNm 5)))
noncomputable def sem_inside_costs : List D → Option Ou := semR 5 3 g_inside_costs
theorem co_inside_costs : Comes [.ro, .ro, .ro, .ro, .ro] 3 g_inside_costs sem_inside_costs := comes_ro (by decide)
/-! edge_cost -/
noncomputable def g_edge_cost : Nv → Option SR := (seqS (ifS (notT (fun ρ => ((callS 1 sem_is_fork_rule (cons2 (nmP 0) (fun _ => some []))) ρ).bind truD))
      (fun ρ => ((fun _ => some .none) ρ).map fun d => .rt d false ρ)
      (fun ρ => some (.nx ρ)))
    (seqS (fun ρ => ((nmP 0) ρ).bind fun d => ((toTu 3 (toCons (toNm 3) (toCons (toNm 4) (toCons (toNm 5) toNil)))) d ρ).map .nx)
    (seqS (setN 6 (mkL (fun _ => some [])))
    (seqS (ifS (opT inKD (nmW 5) (nmW 2))
      (appS 6 (op2 addD (op2 getKD (nmW 1) (nmW 4)) (op2 getKD (nmW 2) (nmW 5))))
      (fun ρ => some (.nx ρ)))
    (seqS (ifS (opT inKD (nmW 4) (nmW 2))
      (appS 6 (op2 addD (op2 getKD (nmW 2) (nmW 4)) (op2 getKD (nmW 1) (nmW 5))))
      (fun ρ => some (.nx ρ)))
    (fun ρ => ((op2 minDD (nmW 6) (fun _ => some .none)) ρ).map fun d => .rt d false ρ))))))
noncomputable def sem_edge_cost : List D → Option Ou := semR 3 4 g_edge_cost
theorem co_edge_cost : Comes [.ro, .ro, .ro] 4 g_edge_cost sem_edge_cost := comes_ro (by decide)
/-! settle -/
noncomputable def g_settle : Nv → Option SR := (seqS (setS 3 (fun _ => some (.bool true)))
    (whileC (fun ρ => ((nmW 3) ρ).bind truD) (seqS (setS 3 (fun _ => some (.bool false)))
    (fun ρ => ((fun ρ => ((nmP 0) ρ).bind asL) ρ).bind fun ds => forS (toNm 4) (seqS (setS 5 (callF 3 sem_edge_cost (cons2 (nmW 4) (cons2 (nmW 1) (cons2 (nmW 2) (fun _ => some []))))))
    (ifX (andX (opT isntD (nmW 5) (fun _ => some .none)) (fun ρ => ((callX 3 2 sem_keep_lesser (fun ρ => (nmM 2 ρ).bind fun d => ((cons2 (op2 ixD (nmW 4) (fun _ => some (.int 0))) (cons2 (nmP 5) (fun _ => some []))) ρ).bind fun ds => if ds.length = 2 then some (d :: ds) else none)) ρ).bind fun r => (truD r.1).map fun k => (k, r.2)))
      (setS 3 (fun _ => some (.bool true)))
      (fun ρ => some (.nx ρ)))) ds ρ))))
noncomputable def sem_settle : List D → Option Ou := semM [.ro, .ro, .io] 3 g_settle
theorem co_settle : Comes [.ro, .ro, .io] 3 g_settle sem_settle := comes_m
/-! costs -/
noncomputable def g_costs : Nv → Option SR := (seqS (fun ρ => ((callS 1 sem_need_rules (cons2 (nmP 0) (fun _ => some []))) ρ).map fun _ => .nx ρ)
    (seqS (fun ρ => ((callS 1 sem_need_text (cons2 (nmP 1) (fun _ => some []))) ρ).map fun _ => .nx ρ)
    (seqS (setS 2 (callS 1 sem_lengths_of (cons2 (nmP 0) (fun _ => some []))))
    (seqS (setN 3 (fun _ => some (.dict [])))
    (seqS (fun ρ => ((fun ρ => ((cons2 (op2 addD (callD lenD (cons2 (nmW 1) (fun _ => some []))) (fun _ => some (.int 1))) (fun _ => some [])) ρ).bind rng1) ρ).bind fun ds => forS (toNm 4) (fun ρ => ((callX 4 3 sem_enter (fun ρ => (nmM 3 ρ).bind fun d => ((cons2 (nmP 2) (cons2 (nmP 4) (cons2 (nmP 4) (fun _ => some [])))) ρ).bind fun ds => if ds.length = 3 then some (d :: ds) else none)) ρ).map fun r => .nx r.2) ds ρ)
    (seqS (fun ρ => ((fun ρ => ((cons2 (fun _ => some (.int 1)) (cons2 (op2 addD (callD lenD (cons2 (nmW 1) (fun _ => some []))) (fun _ => some (.int 1))) (fun _ => some []))) ρ).bind rng2) ρ).bind fun ds => forS (toNm 5) (fun ρ => ((fun ρ => ((cons2 (op2 addD (op2 subD (callD lenD (cons2 (nmW 1) (fun _ => some []))) (nmW 5)) (fun _ => some (.int 1))) (fun _ => some [])) ρ).bind rng1) ρ).bind fun ds => forS (toNm 6) (seqS (setS 7 (op2 addD (nmW 6) (nmW 5)))
    (seqS (setN 8 (callG 5 sem_inside_costs (cons2 (nmW 0) (cons2 (nmW 1) (cons2 (nmW 3) (cons2 (nmW 6) (cons2 (nmW 7) (fun _ => some []))))))))
    (seqS (fun ρ => ((callX 3 8 sem_settle (cons2 (nmP 0) (cons2 (nmP 2) (fun ρ => (nmM 8 ρ).bind fun d => ((fun _ => some []) ρ).bind fun ds => if ds.length = 0 then some (d :: ds) else none)))) ρ).map fun r => .nx r.2)
    (fun ρ => (shrS 8 ρ).bind (fun ρ => ((callX 4 3 sem_enter (fun ρ => (nmM 3 ρ).bind fun d => ((cons2 (nmP 8) (cons2 (nmP 6) (cons2 (nmP 7) (fun _ => some [])))) ρ).bind fun ds => if ds.length = 3 then some (d :: ds) else none)) ρ).map fun r => .nx r.2))))) ds ρ) ds ρ)
    (retNm 3)))))))
noncomputable def sem_costs : List D → Option Ou := semR 2 7 g_costs
theorem co_costs : Comes [.ro, .ro] 7 g_costs sem_costs := comes_ro (by decide)
/-! is_place -/
noncomputable def g_is_place : Nv → Option SR := (fun ρ => ((andV (fun ρ => ((nmW 0) ρ).map fun d => .bool (isiB "int" d)) (notV (fun ρ => ((nmW 0) ρ).map fun d => .bool (isiB "bool" d)))) ρ).map fun d => .rt d false ρ)
noncomputable def sem_is_place : List D → Option Ou := semR 1 0 g_is_place
theorem co_is_place : Comes [.ro] 0 g_is_place sem_is_place := comes_ro (by decide)
/-! is_fork -/
noncomputable def g_is_fork : Nv → Option SR := (fun ρ => ((op2 eqD (callD lenD (cons2 (nmW 0) (fun _ => some []))) (fun _ => some (.int 3))) ρ).map fun d => .rt d false ρ)
noncomputable def sem_is_fork : List D → Option Ou := semR 1 0 g_is_fork
theorem co_is_fork : Comes [.ro] 0 g_is_fork sem_is_fork := comes_ro (by decide)
/-! leaves_of -/
noncomputable def g_leaves_of : Nv → Option SR := (seqS (setN 1 (mkL (fun _ => some [])))
    (seqS (setN 2 (mkL (cons2 (nmP 0) (fun _ => some []))))
    (seqS (whileC (fun ρ => ((nmW 2) ρ).bind truD) (seqS (setX 3 (popX 2))
    (ifS (fun ρ => ((callS 1 sem_is_fork (cons2 (nmP 3) (fun _ => some []))) ρ).bind truD)
      (extS 2 (mkL (cons2 (op2 ixD (nmW 3) (fun _ => some (.int 2))) (cons2 (op2 ixD (nmW 3) (fun _ => some (.int 1))) (fun _ => some [])))))
      (appS 1 (nmP 3)))))
    (retNm 1))))
noncomputable def sem_leaves_of : List D → Option Ou := semR 1 3 g_leaves_of
theorem co_leaves_of : Comes [.ro] 3 g_leaves_of sem_leaves_of := comes_ro (by decide)
/-! mended -/
noncomputable def g_mended : Nv → Option SR := (fun ρ => ((op2 joinD (fun _ => some (.str "")) (lcV 1 (fun ρ => ((callO 1 sem_leaves_of (cons2 (nmP 0) (fun _ => some []))) ρ).bind asL) (fun _ => some true) (op2 ixD (nmW 1) (fun _ => some (.int 1))))) ρ).map fun d => .rt d false ρ)
noncomputable def sem_mended : List D → Option Ou := semR 1 1 g_mended
theorem co_mended : Comes [.ro] 1 g_mended sem_mended := comes_ro (by decide)
/-! cost_of_leaf -/
noncomputable def g_cost_of_leaf : Nv → Option SR := (seqS (fun ρ => ((nmP 0) ρ).bind fun d => ((toTu 5 (toCons (toNm 2) (toCons (toNm 3) (toCons (toNm 4) (toCons (toNm 5) (toCons (toNm 6) toNil)))))) d ρ).map .nx)
    (seqS (ifS (opT isD (nmW 6) (fun _ => some .none))
      (fun ρ => ((fun _ => some (.int 1)) ρ).map fun d => .rt d false ρ)
      (fun ρ => some (.nx ρ)))
    (seqS (ifS (opT eqD (op2 ixD (nmW 1) (nmW 6)) (nmW 3))
      (fun ρ => ((op2 subD (op2 subD (nmW 5) (nmW 4)) (fun _ => some (.int 1))) ρ).map fun d => .rt d false ρ)
      (fun ρ => some (.nx ρ)))
    (fun ρ => ((op2 subD (nmW 5) (nmW 4)) ρ).map fun d => .rt d false ρ))))
noncomputable def sem_cost_of_leaf : List D → Option Ou := semR 2 5 g_cost_of_leaf
theorem co_cost_of_leaf : Comes [.ro, .ro] 5 g_cost_of_leaf sem_cost_of_leaf := comes_ro (by decide)
/-! cost_of -/
noncomputable def g_cost_of : Nv → Option SR := (fun ρ => ((callD sumD (cons2 (lcV 2 (fun ρ => ((callO 1 sem_leaves_of (cons2 (nmP 0) (fun _ => some []))) ρ).bind asL) (fun _ => some true) (callS 2 sem_cost_of_leaf (cons2 (nmP 2) (cons2 (nmP 1) (fun _ => some []))))) (fun _ => some []))) ρ).map fun d => .rt d false ρ)
noncomputable def sem_cost_of : List D → Option Ou := semR 2 1 g_cost_of
theorem co_cost_of : Comes [.ro, .ro] 1 g_cost_of sem_cost_of := comes_ro (by decide)
/-! name_told -/
noncomputable def g_name_told : Nv → Option SR := (seqS (ifS (andT (fun ρ => ((fun ρ => ((nmW 0) ρ).map fun d => .bool (isiB "tuple" d)) ρ).bind truD) (andT (opT inTD' (callD lenD (cons2 (nmW 0) (fun _ => some []))) (mkT (cons2 (fun _ => some (.int 3)) (cons2 (fun _ => some (.int 5)) (fun _ => some []))))) (fun ρ => ((callS 1 sem_is_name (cons2 (op2 ixD (nmW 0) (fun _ => some (.int 0))) (fun _ => some []))) ρ).bind truD)))
      (fun ρ => ((op2 ixD (nmW 0) (fun _ => some (.int 0))) ρ).map fun d => .rt d false ρ)
      (fun ρ => some (.nx ρ)))
    (fun ρ => ((fun _ => some .none) ρ).map fun d => .rt d false ρ))
noncomputable def sem_name_told : List D → Option Ou := semR 1 0 g_name_told
theorem co_name_told : Comes [.ro] 0 g_name_told sem_name_told := comes_ro (by decide)
/-! has_rule -/
noncomputable def g_has_rule : Nv → Option SR := (seqS (ifS (fun ρ => ((callS 1 sem_is_fork (cons2 (nmP 1) (fun _ => some []))) ρ).bind truD)
      (fun ρ => ((op2 inD' (mkT (cons2 (op2 ixD (nmW 1) (fun _ => some (.int 0))) (cons2 (callS 1 sem_name_told (cons2 (op2 ixD (nmW 1) (fun _ => some (.int 1))) (fun _ => some []))) (cons2 (callS 1 sem_name_told (cons2 (op2 ixD (nmW 1) (fun _ => some (.int 2))) (fun _ => some []))) (fun _ => some []))))) (nmW 0)) ρ).map fun d => .rt d false ρ)
      (fun ρ => some (.nx ρ)))
    (fun ρ => ((andV (callS 1 sem_is_sign (cons2 (op2 ixD (nmW 1) (fun _ => some (.int 1))) (fun _ => some []))) (op2 inD' (mkT (cons2 (op2 ixD (nmW 1) (fun _ => some (.int 0))) (cons2 (op2 ixD (nmW 1) (fun _ => some (.int 1))) (fun _ => some [])))) (nmW 0))) ρ).map fun d => .rt d false ρ))
noncomputable def sem_has_rule : List D → Option Ou := semR 2 0 g_has_rule
theorem co_has_rule : Comes [.ro, .ro] 0 g_has_rule sem_has_rule := comes_ro (by decide)
/-! lies_from -/
noncomputable def g_lies_from : Nv → Option SR := (seqS (fun ρ => ((nmP 0) ρ).bind fun d => ((toTu 5 (toCons (toNm 2) (toCons (toNm 2) (toCons (toNm 3) (toCons (toNm 4) (toCons (toNm 5) toNil)))))) d ρ).map .nx)
    (seqS (ifS (orT (notT (fun ρ => ((callS 1 sem_is_place (cons2 (nmP 3) (fun _ => some []))) ρ).bind truD)) (orT (notT (fun ρ => ((callS 1 sem_is_place (cons2 (nmP 4) (fun _ => some []))) ρ).bind truD)) (opT neD (nmW 3) (nmW 1))))
      (fun ρ => ((fun _ => some (.bool false)) ρ).map fun d => .rt d false ρ)
      (fun ρ => some (.nx ρ)))
    (seqS (ifS (opT eqD (nmW 3) (nmW 4))
      (fun ρ => ((op2 isD (nmW 5) (fun _ => some .none)) ρ).map fun d => .rt d false ρ)
      (fun ρ => some (.nx ρ)))
    (fun ρ => ((andV (callS 1 sem_is_place (cons2 (nmP 5) (fun _ => some []))) (ch3 leD ltD (nmW 3) (nmW 5) (nmW 4))) ρ).map fun d => .rt d false ρ))))
noncomputable def sem_lies_from : List D → Option Ou := semR 2 4 g_lies_from
theorem co_lies_from : Comes [.ro, .ro] 4 g_lies_from sem_lies_from := comes_ro (by decide)
/-! holds -/
noncomputable def g_holds : Nv → Option SR := (seqS (ifS (opT neD (callS 1 sem_name_told (cons2 (nmP 2) (fun _ => some []))) (callS 1 sem_top_of (cons2 (nmP 0) (fun _ => some []))))
      (fun ρ => ((fun _ => some (.bool false)) ρ).map fun d => .rt d false ρ)
      (fun ρ => some (.nx ρ)))
    (seqS (setS 3 (fun _ => some (.int 0)))
    (seqS (setN 4 (mkL (cons2 (nmP 2) (fun _ => some []))))
    (seqS (whileC (fun ρ => ((nmW 4) ρ).bind truD) (seqS (setX 5 (popX 4))
    (seqS (ifS (notT (fun ρ => ((callS 2 sem_has_rule (cons2 (nmP 0) (cons2 (nmP 5) (fun _ => some [])))) ρ).bind truD))
      (fun ρ => ((fun _ => some (.bool false)) ρ).map fun d => .rt d false ρ)
      (fun ρ => some (.nx ρ)))
    (ifS (fun ρ => ((callS 1 sem_is_fork (cons2 (nmP 5) (fun _ => some []))) ρ).bind truD)
      (extS 4 (mkL (cons2 (op2 ixD (nmW 5) (fun _ => some (.int 2))) (cons2 (op2 ixD (nmW 5) (fun _ => some (.int 1))) (fun _ => some [])))))
      (ifS (fun ρ => ((callS 2 sem_lies_from (cons2 (nmP 5) (cons2 (nmP 3) (fun _ => some [])))) ρ).bind truD)
      (setS 3 (op2 ixD (nmW 5) (fun _ => some (.int 3))))
      (fun ρ => ((fun _ => some (.bool false)) ρ).map fun d => .rt d false ρ))))))
    (fun ρ => ((op2 eqD (nmW 3) (callD lenD (cons2 (nmW 1) (fun _ => some [])))) ρ).map fun d => .rt d false ρ)))))
noncomputable def sem_holds : List D → Option Ou := semR 3 3 g_holds
theorem co_holds : Comes [.ro, .ro, .ro] 3 g_holds sem_holds := comes_ro (by decide)
/-! fork_by -/
noncomputable def g_fork_by : Nv → Option SR := (seqS (fun ρ => ((nmP 0) ρ).bind fun d => ((toTu 3 (toCons (toNm 5) (toCons (toNm 6) (toCons (toNm 7) toNil)))) d ρ).map .nx)
    (seqS (fun ρ => ((fun ρ => ((cons2 (nmP 2) (cons2 (op2 addD (nmW 3) (fun _ => some (.int 1))) (fun _ => some []))) ρ).bind rng2) ρ).bind fun ds => forS (toNm 8) (seqS (setS 9 (mkT (cons2 (nmP 6) (cons2 (nmP 2) (cons2 (nmP 8) (fun _ => some []))))))
    (seqS (setS 10 (mkT (cons2 (nmP 7) (cons2 (nmP 8) (cons2 (nmP 3) (fun _ => some []))))))
    (ifS (opT eqD (op2 addD (fun ρ => ((nmW 1) ρ).bind fun d => ((fun ρ => ((nmP 9) ρ).bind tupK) ρ).bind fun ks => getTD d ks) (fun ρ => ((nmW 1) ρ).bind fun d => ((fun ρ => ((nmP 10) ρ).bind tupK) ρ).bind fun ks => getTD d ks)) (nmW 4))
      (fun ρ => ((mkT (cons2 (nmP 5) (cons2 (nmP 9) (cons2 (nmP 10) (fun _ => some []))))) ρ).map fun d => .rt d false ρ)
      (fun ρ => some (.nx ρ))))) ds ρ)
    (fun ρ => ((fun _ => some .none) ρ).map fun d => .rt d false ρ)))
noncomputable def sem_fork_by : List D → Option Ou := semR 5 6 g_fork_by
theorem co_fork_by : Comes [.ro, .ro, .ro, .ro, .ro] 6 g_fork_by sem_fork_by := comes_ro (by decide)
/-! kept_place -/
noncomputable def g_kept_place : Nv → Option SR := (seqS (ifS (opT eqD (nmW 2) (nmW 3))
      (fun ρ => ((fun _ => some .none) ρ).map fun d => .rt d false ρ)
      (fun ρ => some (.nx ρ)))
    (seqS (setS 4 (op2 findD (slS (nmW 1) (fun ρ => ((nmP 2) ρ).bind fun x => (asI x).map some) (fun ρ => ((nmP 3) ρ).bind fun x => (asI x).map some)) (nmW 0)))
    (fun ρ => ((op2 addD (nmW 2) (callD max2D (cons2 (nmW 4) (cons2 (fun _ => some (.int 0)) (fun _ => some []))))) ρ).map fun d => .rt d false ρ)))
noncomputable def sem_kept_place : List D → Option Ou := semR 4 1 g_kept_place
theorem co_kept_place : Comes [.ro, .ro, .ro, .ro] 1 g_kept_place sem_kept_place := comes_ro (by decide)
/-! step_by -/
noncomputable def g_step_by : Nv → Option SR := (seqS (setS 5 (fun ρ => ((nmW 2) ρ).bind fun d => ((keysV (cons2 (op2 ixD (nmW 0) (fun _ => some (.int 0))) (cons2 (nmP 3) (cons2 (nmP 4) (fun _ => some []))))) ρ).bind fun ks => getTD d ks))
    (seqS (ifS (fun ρ => ((callS 1 sem_is_fork_rule (cons2 (nmP 0) (fun _ => some []))) ρ).bind truD)
      (fun ρ => ((callS 5 sem_fork_by (cons2 (nmP 0) (cons2 (nmP 2) (cons2 (nmP 3) (cons2 (nmP 4) (cons2 (nmP 5) (fun _ => some []))))))) ρ).map fun d => .rt d false ρ)
      (fun ρ => some (.nx ρ)))
    (seqS (fun ρ => ((nmP 0) ρ).bind fun d => ((toTu 2 (toCons (toNm 6) (toCons (toNm 7) toNil))) d ρ).map .nx)
    (seqS (ifS (opT neD (callS 4 sem_leaf_cost (cons2 (nmP 7) (cons2 (nmP 1) (cons2 (nmP 3) (cons2 (nmP 4) (fun _ => some [])))))) (nmW 5))
      (fun ρ => ((fun _ => some .none) ρ).map fun d => .rt d false ρ)
      (fun ρ => some (.nx ρ)))
    (fun ρ => ((mkT (cons2 (nmP 6) (cons2 (nmP 7) (cons2 (nmP 3) (cons2 (nmP 4) (cons2 (callS 4 sem_kept_place (cons2 (nmP 7) (cons2 (nmP 1) (cons2 (nmP 3) (cons2 (nmP 4) (fun _ => some [])))))) (fun _ => some []))))))) ρ).map fun d => .rt d false ρ)))))
noncomputable def sem_step_by : List D → Option Ou := semR 5 3 g_step_by
theorem co_step_by : Comes [.ro, .ro, .ro, .ro, .ro] 3 g_step_by sem_step_by := comes_ro (by decide)
/-! told_step -/
noncomputable def g_told_step : Nv → Option SR := (seqS (fun ρ => ((nmP 3) ρ).bind fun d => ((toTu 3 (toCons (toNm 4) (toCons (toNm 5) (toCons (toNm 6) toNil)))) d ρ).map .nx)
    (seqS (fun ρ => ((fun ρ => ((nmP 0) ρ).bind asL) ρ).bind fun ds => forS (toNm 7) (ifS (opT eqD (op2 ixD (nmW 7) (fun _ => some (.int 0))) (nmW 4))
      (seqS (setS 8 (callS 5 sem_step_by (cons2 (nmP 7) (cons2 (nmP 1) (cons2 (nmP 2) (cons2 (nmP 5) (cons2 (nmP 6) (fun _ => some []))))))))
    (ifS (opT isntD (nmW 8) (fun _ => some .none))
      (fun ρ => ((nmP 8) ρ).map fun d => .rt d false ρ)
      (fun ρ => some (.nx ρ))))
      (fun ρ => some (.nx ρ))) ds ρ)
    (fun ρ => ((fun _ => some .none) ρ).map fun d => .rt d false ρ)))
noncomputable def sem_told_step : List D → Option Ou := semR 4 5 g_told_step
theorem co_told_step : Comes [.ro, .ro, .ro, .ro] 5 g_told_step sem_told_step := comes_ro (by decide)
/-! told_steps -/
noncomputable def g_told_steps : Nv → Option SR := (seqS (setN 4 (fun _ => some (.dict [])))
    (seqS (setN 5 (mkL (cons2 (nmP 3) (fun _ => some []))))
    (seqS (whileC (fun ρ => ((nmW 5) ρ).bind truD) (seqS (setX 6 (popX 5))
    (ifS (fun ρ => (inTS 4 (fun ρ => ((nmP 6) ρ).bind tupK) ρ).map (! ·))
      (seqS (setS 7 (callS 4 sem_told_step (cons2 (nmP 0) (cons2 (nmP 1) (cons2 (nmP 2) (cons2 (nmP 6) (fun _ => some [])))))))
    (seqS (putTS 4 (fun ρ => ((nmP 6) ρ).bind tupK) (nmP 7))
    (ifS (fun ρ => ((callS 1 sem_is_fork (cons2 (nmP 7) (fun _ => some []))) ρ).bind truD)
      (extS 5 (mkL (cons2 (op2 ixD (nmW 7) (fun _ => some (.int 1))) (cons2 (op2 ixD (nmW 7) (fun _ => some (.int 2))) (fun _ => some [])))))
      (fun ρ => some (.nx ρ)))))
      (fun ρ => some (.nx ρ)))))
    (retNm 4))))
noncomputable def sem_told_steps : List D → Option Ou := semR 4 4 g_told_steps
theorem co_told_steps : Comes [.ro, .ro, .ro, .ro] 4 g_told_steps sem_told_steps := comes_ro (by decide)
/-! told_tree -/
noncomputable def g_told_tree : Nv → Option SR := (seqS (setS 4 (callS 4 sem_told_steps (cons2 (nmP 0) (cons2 (nmP 1) (cons2 (nmP 2) (cons2 (nmP 3) (fun _ => some [])))))))
    (seqS (setN 5 (fun _ => some (.dict [])))
    (seqS (fun ρ => ((fun ρ => ((fun ρ => ((nmW 4) ρ).bind fun d => (nmP 2 ρ).bind fun t => sortLD d t) ρ).bind asL) ρ).bind fun ds => forS (toNm 6) (seqS (setS 7 (fun ρ => ((nmW 4) ρ).bind fun d => ((fun ρ => ((nmP 6) ρ).bind tupK) ρ).bind fun ks => getTD d ks))
    (ifS (fun ρ => ((callS 1 sem_is_fork (cons2 (nmP 7) (fun _ => some []))) ρ).bind truD)
      (seqS (fun ρ => ((nmP 7) ρ).bind fun d => ((toTu 3 (toCons (toNm 8) (toCons (toNm 9) (toCons (toNm 10) toNil)))) d ρ).map .nx)
    (putTS 5 (fun ρ => ((nmP 6) ρ).bind tupK) (mkT (cons2 (nmP 8) (cons2 (fun ρ => ((nmW 5) ρ).bind fun d => ((fun ρ => ((nmP 9) ρ).bind tupK) ρ).bind fun ks => getTD d ks) (cons2 (fun ρ => ((nmW 5) ρ).bind fun d => ((fun ρ => ((nmP 10) ρ).bind tupK) ρ).bind fun ks => getTD d ks) (fun _ => some [])))))))
      (putTS 5 (fun ρ => ((nmP 6) ρ).bind tupK) (nmP 7)))) ds ρ)
    (fun ρ => ((fun ρ => ((nmW 5) ρ).bind fun d => ((fun ρ => ((nmP 3) ρ).bind tupK) ρ).bind fun ks => getTD d ks) ρ).map fun d => .rt d false ρ))))
noncomputable def sem_told_tree : List D → Option Ou := semR 4 7 g_told_tree
theorem co_told_tree : Comes [.ro, .ro, .ro, .ro] 7 g_told_tree sem_told_tree := comes_ro (by decide)
/-! mend -/
noncomputable def g_mend : Nv → Option SR := (seqS (setS 2 (callS 2 sem_costs (cons2 (nmP 0) (cons2 (nmP 1) (fun _ => some [])))))
    (seqS (setS 3 (mkT (cons2 (callS 1 sem_top_of (cons2 (nmP 0) (fun _ => some []))) (cons2 (fun _ => some (.int 0)) (cons2 (callD lenD (cons2 (nmW 1) (fun _ => some []))) (fun _ => some []))))))
    (fun ρ => ((mkT (cons2 (callS 4 sem_told_tree (cons2 (nmP 0) (cons2 (nmP 1) (cons2 (nmP 2) (cons2 (nmP 3) (fun _ => some [])))))) (cons2 (fun ρ => ((nmW 2) ρ).bind fun d => ((fun ρ => ((nmP 3) ρ).bind tupK) ρ).bind fun ks => getTD d ks) (fun _ => some [])))) ρ).map fun d => .rt d false ρ)))
noncomputable def sem_mend : List D → Option Ou := semR 2 2 g_mend
theorem co_mend : Comes [.ro, .ro] 2 g_mend sem_mend := comes_ro (by decide)
/-! deeds_of_leaf -/
noncomputable def g_deeds_of_leaf : Nv → Option SR := (seqS (fun ρ => ((nmP 0) ρ).bind fun d => ((toTu 5 (toCons (toNm 2) (toCons (toNm 3) (toCons (toNm 4) (toCons (toNm 5) (toCons (toNm 6) toNil)))))) d ρ).map .nx)
    (seqS (ifS (opT isD (nmW 6) (fun _ => some .none))
      (fun ρ => ((mkL (cons2 (mkT (cons2 (fun _ => some (.str "put")) (cons2 (nmP 4) (cons2 (nmP 3) (fun _ => some []))))) (fun _ => some []))) ρ).map fun d => .rt d true ρ)
      (fun ρ => some (.nx ρ)))
    (seqS (setN 7 (lcV 8 (fun ρ => ((cons2 (nmP 4) (cons2 (nmP 5) (fun _ => some []))) ρ).bind rng2) (fun _ => some true) (mkT (cons2 (fun _ => some (.str "cut")) (cons2 (nmP 8) (fun _ => some []))))))
    (seqS (ifS (opT eqD (op2 ixD (nmW 1) (nmW 6)) (nmW 3))
      (putLS 7 (op2 subD (nmW 6) (nmW 4)) (mkT (cons2 (fun _ => some (.str "keep")) (cons2 (nmP 6) (fun _ => some [])))))
      (putLS 7 (op2 subD (nmW 6) (nmW 4)) (mkT (cons2 (fun _ => some (.str "change")) (cons2 (nmP 6) (cons2 (nmP 3) (fun _ => some [])))))))
    (retNm 7)))))
noncomputable def sem_deeds_of_leaf : List D → Option Ou := semR 2 7 g_deeds_of_leaf
theorem co_deeds_of_leaf : Comes [.ro, .ro] 7 g_deeds_of_leaf sem_deeds_of_leaf := comes_ro (by decide)
/-! deeds_of -/
noncomputable def g_deeds_of : Nv → Option SR := (seqS (setN 2 (mkL (fun _ => some [])))
    (seqS (fun ρ => ((fun ρ => ((callO 1 sem_leaves_of (cons2 (nmP 0) (fun _ => some []))) ρ).bind asL) ρ).bind fun ds => forS (toNm 3) (extS 2 (callO 2 sem_deeds_of_leaf (cons2 (nmP 3) (cons2 (nmP 1) (fun _ => some []))))) ds ρ)
    (retNm 2)))
noncomputable def sem_deeds_of : List D → Option Ou := semR 2 2 g_deeds_of
theorem co_deeds_of : Comes [.ro, .ro] 2 g_deeds_of sem_deeds_of := comes_ro (by decide)
/-! is_deed -/
noncomputable def g_is_deed : Nv → Option SR := (seqS (ifS (orT (notT (fun ρ => ((fun ρ => ((nmW 0) ρ).map fun d => .bool (isiB "tuple" d)) ρ).bind truD)) (opT ninTD' (callD lenD (cons2 (nmW 0) (fun _ => some []))) (mkT (cons2 (fun _ => some (.int 2)) (cons2 (fun _ => some (.int 3)) (fun _ => some []))))))
      (fun ρ => ((fun _ => some (.bool false)) ρ).map fun d => .rt d false ρ)
      (fun ρ => some (.nx ρ)))
    (seqS (ifS (orT (notT (fun ρ => ((fun ρ => ((op2 ixD (nmW 0) (fun _ => some (.int 0))) ρ).map fun d => .bool (isiB "str" d)) ρ).bind truD)) (orT (notT (fun ρ => ((callS 1 sem_is_place (cons2 (op2 ixD (nmW 0) (fun _ => some (.int 1))) (fun _ => some []))) ρ).bind truD)) (opT neD (op2 ixD (nmW 0) (fun _ => some (.int 1))) (nmW 1))))
      (fun ρ => ((fun _ => some (.bool false)) ρ).map fun d => .rt d false ρ)
      (fun ρ => some (.nx ρ)))
    (seqS (ifS (opT eqD (callD lenD (cons2 (nmW 0) (fun _ => some []))) (fun _ => some (.int 2)))
      (fun ρ => ((op2 inTD' (op2 ixD (nmW 0) (fun _ => some (.int 0))) (mkT (cons2 (fun _ => some (.str "keep")) (cons2 (fun _ => some (.str "cut")) (fun _ => some []))))) ρ).map fun d => .rt d false ρ)
      (fun ρ => some (.nx ρ)))
    (fun ρ => ((andV (op2 inTD' (op2 ixD (nmW 0) (fun _ => some (.int 0))) (mkT (cons2 (fun _ => some (.str "put")) (cons2 (fun _ => some (.str "change")) (fun _ => some []))))) (callS 1 sem_is_sign (cons2 (op2 ixD (nmW 0) (fun _ => some (.int 2))) (fun _ => some [])))) ρ).map fun d => .rt d false ρ))))
noncomputable def sem_is_deed : List D → Option Ou := semR 2 0 g_is_deed
theorem co_is_deed : Comes [.ro, .ro] 0 g_is_deed sem_is_deed := comes_ro (by decide)
/-! sign_behind -/
noncomputable def g_sign_behind : Nv → Option SR := (seqS (ifS (opT eqD (op2 ixD (nmW 0) (fun _ => some (.int 0))) (fun _ => some (.str "cut")))
      (fun ρ => ((fun _ => some (.str "")) ρ).map fun d => .rt d false ρ)
      (fun ρ => some (.nx ρ)))
    (seqS (ifS (opT eqD (op2 ixD (nmW 0) (fun _ => some (.int 0))) (fun _ => some (.str "keep")))
      (fun ρ => ((op2 ixD (nmW 1) (op2 ixD (nmW 0) (fun _ => some (.int 1)))) ρ).map fun d => .rt d false ρ)
      (fun ρ => some (.nx ρ)))
    (fun ρ => ((op2 ixD (nmW 0) (fun _ => some (.int 2))) ρ).map fun d => .rt d false ρ)))
noncomputable def sem_sign_behind : List D → Option Ou := semR 2 0 g_sign_behind
theorem co_sign_behind : Comes [.ro, .ro] 0 g_sign_behind sem_sign_behind := comes_ro (by decide)
/-! done -/
noncomputable def g_done : Nv → Option SR := (seqS (setN 2 (mkL (fun _ => some [])))
    (seqS (setS 3 (fun _ => some (.int 0)))
    (seqS (fun ρ => ((fun ρ => ((cons2 (nmP 1) (fun _ => some [])) ρ).bind enumV) ρ).bind fun ds => forS (toTu 2 (toCons (toNm 4) (toCons (toNm 5) toNil))) (seqS (ifS (notT (fun ρ => ((callS 2 sem_is_deed (cons2 (nmP 5) (cons2 (nmP 3) (fun _ => some [])))) ρ).bind truD))
      (fun _ => none)
      (fun ρ => some (.nx ρ)))
    (seqS (ifS (andT (opT neD (op2 ixD (nmW 5) (fun _ => some (.int 0))) (fun _ => some (.str "put"))) (opT eqD (nmW 3) (callD lenD (cons2 (nmW 0) (fun _ => some [])))))
      (fun _ => none)
      (fun ρ => some (.nx ρ)))
    (seqS (appS 2 (callS 2 sem_sign_behind (cons2 (nmP 5) (cons2 (nmP 0) (fun _ => some [])))))
    (ifS (opT neD (op2 ixD (nmW 5) (fun _ => some (.int 0))) (fun _ => some (.str "put")))
      (setS 3 (op2 addI (nmP 3) (fun _ => some (.int 1))))
      (fun ρ => some (.nx ρ)))))) ds ρ)
    (seqS (ifS (opT ltD (nmW 3) (callD lenD (cons2 (nmW 0) (fun _ => some []))))
      (fun _ => none)
      (fun ρ => some (.nx ρ)))
    (fun ρ => ((op2 joinD (fun _ => some (.str "")) (nmW 2)) ρ).map fun d => .rt d false ρ)))))
noncomputable def sem_done : List D → Option Ou := semR 2 4 g_done
theorem co_done : Comes [.ro, .ro] 4 g_done sem_done := comes_ro (by decide)
/-! reads -/
noncomputable def g_reads : Nv → Option SR := (seqS (setS 2 (callS 2 sem_costs (cons2 (nmP 0) (cons2 (nmP 1) (fun _ => some [])))))
    (fun ρ => ((op2 eqD (fun ρ => ((nmW 2) ρ).bind fun d => ((keysV (cons2 (callS 1 sem_top_of (cons2 (nmP 0) (fun _ => some []))) (cons2 (fun _ => some (.int 0)) (cons2 (callD lenD (cons2 (nmW 1) (fun _ => some []))) (fun _ => some []))))) ρ).bind fun ks => getTD d ks) (fun _ => some (.int 0))) ρ).map fun d => .rt d false ρ))
noncomputable def sem_reads : List D → Option Ou := semR 2 1 g_reads
theorem co_reads : Comes [.ro, .ro] 1 g_reads sem_reads := comes_ro (by decide)
end MD

namespace MD
open PySem L2 DS
def okD (d : D) : Prop := ∀ x, d = .str x → x.length ≤ 100000 ∧ PyData.strOk x = true
def sgB (c : Nat) : Bool := decide (32 ≤ c) && decide (c ≤ 126) && !decide (c = 37)
def signB : D → Bool
  | .str x => decide (x.length = 1) && sgB (x.cps.getD 0 0)
  | _ => false
def letB (c : Nat) : Bool := decide (97 ≤ c) && decide (c ≤ 122)
def nameB : D → Bool
  | .str x => decide (1 ≤ x.length) && decide (x.length ≤ 12) && x.cps.toList.all letB
  | _ => false
theorem semR_of {k n : Nat} {g : Nv → Option SR} {ds : List D} {r : Option Ou} (h : ds.length = k) (e : (g (shs ds n)).bind (fin0 k) = r) : semR k n g ds = r := by
  unfold semR
  rw [if_pos h]
  exact e
theorem sq_nx {α : Type} {g g' : Nv → Option SR} {ρ ρ' : Nv} {k : SR → Option α} {r : Option α} (h1 : g ρ = some (.nx ρ')) (h2 : (g' ρ').bind k = r) : (seqS g g' ρ).bind k = r := by
  unfold seqS
  rw [h1]
  exact h2
theorem sq_rt {α : Type} {g g' : Nv → Option SR} {ρ ρ' : Nv} {d : D} {o : Bool} {k : SR → Option α} {r : Option α} (h1 : g ρ = some (.rt d o ρ')) (h2 : k (.rt d o ρ') = r) : (seqS g g' ρ).bind k = r := by
  unfold seqS
  rw [h1]
  exact h2
theorem eqv_int (i j : Int) : PyData.eqv (.int i) (.int j) = decide (i = j) := by
  rw [PyData.eqv]
  rfl
theorem le_nat (a c : Nat) : ((a : Int) ≤ (c : Int)) ↔ a ≤ c := by omega
theorem is_sign_is {d : D} (h : okD d) : sem_is_sign [d] = some (.ret (.bool (signB d)) false []) := by
  cases d with
  | str x =>
    obtain ⟨h1, h2⟩ := h x rfl
    by_cases hl : x.length = 1
    · simp [sem_is_sign, semR, g_is_sign, shs, seqS, ifS, orT, notT, nmW, Cell.got, isiB, truD, opT, op2, callD, cons2, lenD, neD, eqv_int, shaped_int, h1, asB, setS, ordD, hl, andV, ch3, leD, fin0, signB, sgB]
      generalize x.cps[0]?.getD 0 = c
      by_cases a : 32 ≤ c
      · have a' : (32 : Int) ≤ (c : Int) := by omega
        have e1 : decide ((c : Int) ≤ 126) = decide (c ≤ 126) := by
          by_cases b : c ≤ 126
          · rw [decide_eq_true b, decide_eq_true (by omega)]
          · rw [decide_eq_false b, decide_eq_false (by omega)]
        have e2 : decide ((c : Int) = 37) = decide (c = 37) := by
          by_cases b : c = 37
          · rw [decide_eq_true b, decide_eq_true (by omega)]
          · rw [decide_eq_false b, decide_eq_false (by omega)]
        by_cases b : c ≤ 126
        · simp [a', a, e1, e2, b, fin0]
        · simp [a', a, e1, e2, b, fin0]
      · have a' : ¬ (32 : Int) ≤ (c : Int) := by omega
        simp [a', a, fin0]
    · have hl' : (x.length : Int) ≠ 1 := by omega
      simp [sem_is_sign, semR, g_is_sign, shs, seqS, ifS, orT, notT, nmW, Cell.got, isiB, truD, opT, op2, callD, cons2, lenD, neD, eqv_int, shaped_int, h1, asB, hl, fin0, signB, hl']
  | _ => simp [sem_is_sign, semR, g_is_sign, shs, seqS, ifS, orT, notT, nmW, Cell.got, isiB, truD, fin0, signB]
theorem lt0 (c b : Nat) : (([c] : List Nat) < [b]) ↔ c < b := by
  rw [List.cons_lt_cons_iff]
  constructor
  · rintro (h | ⟨_, h⟩)
    · exact h
    · exact absurd h (List.not_lt_nil _)
  · exact .inl
theorem lt1 {c : Nat} {s : Str} {b : Nat} (h : s.cps.toList = [b]) : (!decide (([c] : List Nat) < s.cps.toList)) = decide (b ≤ c) := by
  rw [h]
  by_cases a : c < b
  · rw [decide_eq_true ((lt0 c b).mpr a), decide_eq_false (by omega)]
    rfl
  · rw [decide_eq_false (fun z => a ((lt0 c b).mp z)), decide_eq_true (by omega)]
    rfl
theorem lt2 {c : Nat} {s : Str} {b : Nat} (h : s.cps.toList = [b]) : (!decide (s.cps.toList < ([c] : List Nat))) = decide (c ≤ b) := by
  rw [h]
  by_cases a : b < c
  · rw [decide_eq_true ((lt0 b c).mpr a), decide_eq_false (by omega)]
    rfl
  · rw [decide_eq_false (fun z => a ((lt0 b c).mp z)), decide_eq_true (by omega)]
    rfl
theorem all_let : ∀ cs : List Nat, allD (ch3 leD leD (fun _ => some (.str "a")) (nmW 0) (fun _ => some (.str "z"))) (cs.map fun c => PyData.str ⟨#[c]⟩) = some (cs.all letB)
  | [] => rfl
  | c :: r => by
    have ih := all_let r
    rw [List.map_cons, allD]
    have e1 : ch3 leD leD (fun _ => some (.str "a")) (nmW 0) (fun _ => some (.str "z")) [some (Cell.sh (PyData.str ⟨#[c]⟩))] = some (.bool (letB c)) := by
      have a1 := lt1 (c := c) (s := "a") (b := 97) (by rfl)
      have a2 := lt2 (c := c) (s := "z") (b := 122) (by rfl)
      have f1 : leD (.str "a") (PyData.str ⟨#[c]⟩) = some (.bool (decide (97 ≤ c))) := by
        rw [← a1]
        rfl
      have f2 : leD (PyData.str ⟨#[c]⟩) (.str "z") = some (.bool (decide (c ≤ 122))) := by
        rw [← a2]
        rfl
      unfold ch3 letB
      simp only [Option.bind_some, nmW, Cell.got, List.getElem?_cons_zero, f1, asB]
      show (if decide (97 ≤ c) = true then leD (PyData.str ⟨#[c]⟩) (.str "z") else _) = _
      by_cases b : 97 ≤ c
      · rw [f2]
        simp [b]
      · simp [b]
    rw [e1]
    simp only [Option.bind_some, asB]
    by_cases b : letB c = true
    · rw [if_pos b, ih, List.all_cons, b]
      rfl
    · rw [if_neg b, List.all_cons]
      rw [Bool.eq_false_iff.mpr b]
      rfl
theorem is_name_is {d : D} (h : okD d) : sem_is_name [d] = some (.ret (.bool (nameB d)) false []) := by
  cases d with
  | str x =>
    obtain ⟨h1, h2⟩ := h x rfl
    by_cases hl : x.length < 1
    · have hl' : (x.length : Int) < 1 := by omega
      have hz : x.length = 0 := by omega
      simp [sem_is_name, semR, g_is_name, shs, seqS, ifS, orT, notT, nmW, Cell.got, isiB, truD, opT, op2, callD, cons2, lenD, ltD, gtD, h1, asB, hl, fin0, nameB, hz]
    · have hl' : ¬ (x.length : Int) < 1 := by omega
      have g1 : 1 ≤ x.length := by omega
      by_cases hm : x.length ≤ 12
      · have hm' : ¬ (12 : Int) < x.length := by omega
        have e := all_let x.cps.toList
        have e' : allD (ch3 leD leD (fun _ => some (.str "a")) (nmW 0) (fun _ => some (.str "z"))) (signsD x) = some (x.cps.toList.all letB) := e
        simp [sem_is_name, semR, g_is_name, shs, seqS, ifS, orT, notT, nmW, Cell.got, isiB, truD, opT, op2, callD, cons2, lenD, ltD, gtD, h1, asB, hl', g1, hm, hm', fin0, nameB, asSg]
        rw [e']
        simp [fin0]
      · have hm' : (12 : Int) < x.length := by omega
        simp [sem_is_name, semR, g_is_name, shs, seqS, ifS, orT, notT, nmW, Cell.got, isiB, truD, opT, op2, callD, cons2, lenD, ltD, gtD, h1, asB, hl', g1, hm, hm', fin0, nameB]
  | _ => simp [sem_is_name, semR, g_is_name, shs, seqS, ifS, orT, notT, nmW, Cell.got, isiB, truD, fin0, nameB]
theorem rule_parts (cs : List D) (h : ∀ d ∈ cs, okD d) : allD (callS 1 sem_is_name (cons2 (nmP 0) (fun _ => some []))) cs = some (cs.all nameB) := by
  induction cs with
  | nil => rfl
  | cons d r ih =>
    have e := is_name_is (h d List.mem_cons_self)
    have ih := ih fun d hd => h d (List.mem_cons_of_mem _ hd)
    rw [allD]
    have e1 : callS 1 sem_is_name (cons2 (nmP 0) (fun _ => some [])) [some (Cell.sh d)] = some (.bool (nameB d)) := by
      simp [callS, cons2, nmP, e]
    rw [e1, ih]
    simp only [Option.bind_some, asB, List.all_cons]
    by_cases b : nameB d = true
    · rw [if_pos b, b]
      rfl
    · rw [if_neg b, Bool.eq_false_iff.mpr b]
      rfl
def ruleB : D → Bool
  | .tuple [a, b] => nameB a && signB b
  | .tuple [a, b, c] => nameB a && nameB b && nameB c
  | _ => false
theorem is_rule_is {d : D} (h : ∀ ds, d = .tuple ds → ∀ x ∈ ds, okD x) : sem_is_rule [d] = some (.ret (.bool (ruleB d)) false []) := by
  cases d with
  | tuple ds =>
    have h' := h ds rfl
    match ds, h' with
    | [], _ => simp [sem_is_rule, semR, g_is_rule, shs, seqS, ifS, orT, notT, nmW, nmP, Cell.got, isiB, truD, opT, op2, callD, cons2, lenD, eqD, shaped_int, eqv_int, asB, fin0, andV, ruleB, callS, ixD, atI, ixN, asTu]
    | [_], _ => simp [sem_is_rule, semR, g_is_rule, shs, seqS, ifS, orT, notT, nmW, nmP, Cell.got, isiB, truD, opT, op2, callD, cons2, lenD, eqD, shaped_int, eqv_int, asB, fin0, andV, ruleB, callS, ixD, atI, ixN, asTu]
    | [a, b], h' =>
      have e1 := is_name_is (h' a (by simp))
      have e2 := is_sign_is (h' b (by simp))
      cases q : nameB a <;> rw [q] at e1 <;> simp [sem_is_rule, semR, g_is_rule, shs, seqS, ifS, orT, notT, nmW, nmP, Cell.got, isiB, truD, opT, op2, callD, cons2, lenD, eqD, shaped_int, eqv_int, asB, fin0, andV, ruleB, callS, ixD, atI, ixN, asTu, e1, e2, q]
    | [a, b, c], h' =>
      have e := rule_parts [a, b, c] h'
      unfold sem_is_rule g_is_rule
      refine semR_of rfl (sq_nx (ρ' := [some (Cell.sh (.tuple [a, b, c]))]) ?_ (sq_nx (ρ' := [some (Cell.sh (.tuple [a, b, c]))]) ?_ ?_))
      · simp [sem_is_rule, semR, g_is_rule, shs, seqS, ifS, orT, notT, nmW, nmP, Cell.got, isiB, truD, opT, op2, callD, cons2, lenD, eqD, shaped_int, eqv_int, asB, fin0, andV, ruleB, callS, ixD, atI, ixN, asTu]
      · simp [sem_is_rule, semR, g_is_rule, shs, seqS, ifS, orT, notT, nmW, nmP, Cell.got, isiB, truD, opT, op2, callD, cons2, lenD, eqD, shaped_int, eqv_int, asB, fin0, andV, ruleB, callS, ixD, atI, ixN, asTu]
      · have e2 : (op2 eqD (callD lenD (cons2 (nmW 0) (fun _ => some []))) (fun _ => some (.int 3))) [some (Cell.sh (.tuple [a, b, c]))] = some (.bool true) := by simp [sem_is_rule, semR, g_is_rule, shs, seqS, ifS, orT, notT, nmW, nmP, Cell.got, isiB, truD, opT, op2, callD, cons2, lenD, eqD, shaped_int, eqv_int, asB, fin0, andV, ruleB, callS, ixD, atI, ixN, asTu]
        unfold andV
        rw [e2]
        show Option.bind (Option.map _ (Option.map _ (allD _ [a, b, c]))) _ = _
        rw [e]
        simp [sem_is_rule, semR, g_is_rule, shs, seqS, ifS, orT, notT, nmW, nmP, Cell.got, isiB, truD, opT, op2, callD, cons2, lenD, eqD, shaped_int, eqv_int, asB, fin0, andV, ruleB, callS, ixD, atI, ixN, asTu, Bool.and_assoc]
    | a :: b :: c :: d :: r, _ =>
      have g1 : ¬ ((r.length : Int) + 1 + 1 + 1 + 1 = 2) := by omega
      have g2 : ¬ ((r.length : Int) + 1 + 1 + 1 + 1 = 3) := by omega
      simp [sem_is_rule, semR, g_is_rule, shs, seqS, ifS, orT, notT, nmW, nmP, Cell.got, isiB, truD, opT, op2, callD, cons2, lenD, eqD, shaped_int, eqv_int, asB, fin0, andV, ruleB, callS, ixD, atI, ixN, asTu, g1, g2]
  | _ => simp [sem_is_rule, semR, g_is_rule, shs, seqS, ifS, orT, notT, nmW, nmP, Cell.got, isiB, truD, opT, op2, callD, cons2, lenD, eqD, shaped_int, eqv_int, asB, fin0, andV, ruleB, callS, ixD, atI, ixN, asTu]

/-! ## rules -/
inductive Ru where
  | leaf (n s : Str)
  | fork (n a b : Str)
def Ru.hd : Ru → Str
  | .leaf n _ => n
  | .fork n _ _ => n
def Ru.d : Ru → D
  | .leaf n s => .tuple [.str n, .str s]
  | .fork n a b => .tuple [.str n, .str a, .str b]
def Ru.ok : Ru → Prop
  | .leaf n s => nameB (.str n) = true ∧ signB (.str s) = true
  | .fork n a b => nameB (.str n) = true ∧ nameB (.str a) = true ∧ nameB (.str b) = true
def Ru.isF : Ru → Bool
  | .leaf _ _ => false
  | .fork _ _ _ => true
theorem ok_nm {n : Str} (h : nameB (.str n) = true) : okD (.str n) := fun x e => by
  cases e
  simp only [nameB, Bool.and_eq_true, decide_eq_true_eq] at h
  refine ⟨by omega, strOk_all.mpr fun c hc => ?_⟩
  have := List.all_eq_true.mp h.2 c hc
  simp only [letB, Bool.and_eq_true, decide_eq_true_eq] at this
  omega
theorem ok_sg {n : Str} (h : signB (.str n) = true) : okD (.str n) := fun x e => by
  cases e
  simp only [signB, sgB, Bool.and_eq_true, decide_eq_true_eq] at h
  refine ⟨by omega, strOk_all.mpr fun c hc => ?_⟩
  have hl : n.cps.toList.length = 1 := h.1
  match q : n.cps.toList, hl with
  | [y], _ =>
    rw [q] at hc
    have hy : n.cps.getD 0 0 = y := by
      have h' : n.cps = #[y] := Array.toList_inj.mp q
      rw [h']
      rfl
    rw [hy] at h
    have : c = y := by simpa using hc
    omega
theorem Ru.okx {r : Ru} (h : r.ok) : ∀ ds, r.d = .tuple ds → ∀ x ∈ ds, okD x := fun ds e x hx => by
  cases r with
  | leaf n s =>
    cases e
    rcases List.mem_cons.mp hx with rfl | hx
    · exact ok_nm h.1
    · rcases List.mem_cons.mp hx with rfl | hx
      · exact ok_sg h.2
      · cases hx
  | fork n a b =>
    cases e
    rcases List.mem_cons.mp hx with rfl | hx
    · exact ok_nm h.1
    · rcases List.mem_cons.mp hx with rfl | hx
      · exact ok_nm h.2.1
      · rcases List.mem_cons.mp hx with rfl | hx
        · exact ok_nm h.2.2
        · cases hx
theorem Ru.rule {r : Ru} (h : r.ok) : sem_is_rule [r.d] = some (.ret (.bool true) false []) := by
  have e := is_rule_is (Ru.okx h)
  have : ruleB r.d = true := by
    cases r with
    | leaf n s => simp [Ru.d, ruleB, h.1, h.2]
    | fork n a b => simp [Ru.d, ruleB, h.1, h.2.1, h.2.2]
  rw [this] at e
  exact e
theorem is_fork_is (r : Ru) : sem_is_fork_rule [r.d] = some (.ret (.bool r.isF) false []) := by
  cases r <;> simp [sem_is_fork_rule, semR, g_is_fork_rule, shs, op2, nmW, Cell.got, callD, cons2, lenD, eqD, eqv_int, shaped_int, Ru.d, Ru.isF, fin0]
theorem ix0 (r : Ru) : ixD r.d (.int 0) = some (.str r.hd) := by cases r <;> rfl

/-! ### names_of -/
def addN (acc : List Str) (x : Str) : List Str := if x ∈ acc then acc else acc ++ [x]
def uniq (xs : List Str) : List Str := xs.foldl addN []
def nmE (n : Str) : Key × V := (.inr n, .bl true)
theorem put_nm (acc : List Str) (x : Str) : putK (acc.map nmE) (.inr x) (.bl true) = (addN acc x).map nmE := by
  unfold putK addN
  have e : ((acc.map nmE).any fun kv => decide (kv.1 = (.inr x : Key))) = decide (x ∈ acc) := by
    induction acc with
    | nil => rfl
    | cons y r ih =>
      rw [List.map_cons, List.any_cons, ih]
      by_cases h : y = x
      · simp [nmE, h]
      · have h2 : ¬ x = y := fun z => h z.symm
        simp [nmE, h, h2]
  rw [e]
  by_cases h : x ∈ acc
  · rw [if_pos (by simp [h]), if_pos h, List.map_map]
    refine List.map_congr_left fun y _ => ?_
    show (if (nmE y).1 = _ then _ else _) = _
    split <;> rfl
  · rw [if_neg (by simp [h]), if_neg h, List.map_append]
    rfl
theorem dc_names (x0 : Option Cell) : ∀ (rs : List Ru) (acc : List Str), dcD 1 (fun _ => some true) (op2 ixD (nmW 1) (fun _ => some (.int 0))) (fun _ => some (.bool true)) [x0, none] (rs.map Ru.d) (acc.map nmE) = some (((rs.map Ru.hd).foldl addN acc).map nmE)
  | [], acc => rfl
  | r :: rs, acc => by
    rw [List.map_cons, dcD]
    have e : op2 ixD (nmW 1) (fun _ => some (.int 0)) [x0, some (Cell.sh r.d)] = some (.str r.hd) := ix0 r
    show Option.bind (op2 ixD (nmW 1) (fun _ => some (.int 0)) [x0, some (Cell.sh r.d)]) _ = _
    rw [e]
    show dcD 1 _ _ _ _ _ (putK (acc.map nmE) (.inr r.hd) (.bl true)) = _
    rw [put_nm, dc_names x0 rs]
    rfl
theorem flat_nm (ns : List Str) : ((ns.map nmE).all fun p => flat p.2) = true := by
  rw [List.all_eq_true]
  intro p hp
  obtain ⟨n, _, rfl⟩ := List.mem_map.mp hp
  rfl
theorem names_is {rs : List Ru} (h : rs.length ≤ 1000) : sem_names_of [.list (rs.map Ru.d)] = some (.ret (.list ((uniq (rs.map Ru.hd)).map .str)) true []) := by
  unfold sem_names_of g_names_of
  refine semR_of rfl ?_
  have e1 : dcV 1 (fun ρ => ((nmP 0) ρ).bind asL) (fun _ => some true) (op2 ixD (nmW 1) (fun _ => some (.int 0))) (fun _ => some (.bool true)) [some (Cell.sh (.list (rs.map Ru.d))), none] = some (.dict (((uniq (rs.map Ru.hd)).map nmE).map enK)) := by
    unfold dcV
    show (if _ then _ else _) = _
    rw [if_pos ⟨rfl, by rw [List.length_map]; omega⟩]
    have := dc_names (some (Cell.sh (.list (rs.map Ru.d)))) rs []
    show Option.map _ (dcD 1 _ _ _ _ _ (([] : List Str).map nmE)) = _
    rw [this]
    rfl
  show Option.bind (Option.map _ (callD listKD (cons2 _ _) [some (Cell.sh (.list (rs.map Ru.d))), none])) _ = _
  unfold callD
  rw [cons2_is e1 rfl]
  show Option.bind (Option.map _ ((decK _).map _)) _ = _
  rw [decK_en (flat_nm _)]
  have e3 : (((fun kv => kD kv.1) ∘ nmE) : Str → D) = PyData.str := by
    funext n
    rfl
  show some (Ou.ret (.list (((uniq (rs.map Ru.hd)).map nmE).map fun kv => kD kv.1)) true []) = _
  rw [List.map_map]
  rfl
/-! ### lengths -/
abbrev M := List (Key × V)
def OkM (m : M) : Prop := ∀ p ∈ m, ∃ n i, p = ((.inr n, V.int i) : Key × V) ∧ 1 ≤ i
def look (m : M) (n : Str) : Option Int := match valV m (.inr n) with
  | some (.int i) => some i
  | _ => none
theorem OkM.flat {m : M} (h : OkM m) : (m.all fun p => flat p.2) = true := by
  rw [List.all_eq_true]
  intro p hp
  obtain ⟨n, i, rfl, _⟩ := h p hp
  rfl
theorem OkM.val {m : M} (h : OkM m) {n : Str} {v : V} (e : valV m (.inr n) = some v) : ∃ i, v = .int i ∧ 1 ≤ i ∧ look m n = some i := by
  have e0 := e
  unfold valV at e
  obtain ⟨p, h1, rfl⟩ := Option.map_eq_some_iff.mp e
  obtain ⟨n', i, rfl, hi⟩ := h p (List.mem_of_find?_eq_some h1)
  refine ⟨i, rfl, hi, ?_⟩
  unfold look
  rw [e0]
theorem look_some {m : M} {n : Str} {i : Int} (h : look m n = some i) : valV m (.inr n) = some (.int i) := by
  unfold look at h
  split at h
  · rename_i j e
    cases h
    exact e
  · cases h
theorem OkM.look_none {m : M} (h : OkM m) {n : Str} : look m n = none ↔ valV m (.inr n) = none := by
  constructor
  · intro hl
    cases e : valV m (.inr n) with
    | none => rfl
    | some v =>
      obtain ⟨i, _, _, e2⟩ := h.val e
      rw [hl] at e2
      cases e2
  · intro hv
    unfold look
    rw [hv]
theorem OkM.isSome {m : M} (h : OkM m) (n : Str) : (valV m (.inr n)).isSome = (look m n).isSome := by
  cases e : valV m (.inr n) with
  | none =>
    rw [h.look_none.mpr e]
    rfl
  | some v =>
    obtain ⟨i, _, _, e2⟩ := h.val e
    rw [e2]
    rfl
theorem OkM.pos {m : M} (h : OkM m) {n : Str} {i : Int} (e : look m n = some i) : 1 ≤ i := by
  obtain ⟨j, e1, e2, e3⟩ := h.val (look_some e)
  cases e1
  exact e2
def mD (m : M) : D := .dict (m.map enK)
theorem in_is {m : M} (h : OkM m) (n : Str) : inKD (.str n) (mD m) = some (.bool (look m n).isSome) := by
  show ((decK (m.map enK)).map fun kvs => PyData.bool _) = _
  rw [decK_en h.flat, ← h.isSome]
  rfl
theorem nin_is {m : M} (h : OkM m) (n : Str) : ninKD (.str n) (mD m) = some (.bool (!(look m n).isSome)) := by
  show ((decK (m.map enK)).map fun kvs => PyData.bool _) = _
  rw [decK_en h.flat, ← h.isSome]
  rfl
theorem get_is {m : M} (h : OkM m) {n : Str} {i : Int} (e : look m n = some i) : getKD (mD m) (.str n) = some (.int i) := by
  show (decK (m.map enK)).bind _ = _
  rw [decK_en h.flat]
  show (valV m (.inr n)).map sD = _
  rw [look_some e]
  rfl
def cost (m : M) : Ru → Option Int
  | .leaf _ _ => some 1
  | .fork _ a b => (look m a).bind fun i => (look m b).map fun j => i + j
def optD : Option Int → D
  | none => .none
  | some i => .int i
theorem length_is {m : M} (h : OkM m) (r : Ru) : sem_length_by [r.d, mD m] = some (.ret (optD (cost m r)) false []) := by
  unfold sem_length_by g_length_by
  refine semR_of rfl ?_
  have ef : callS 1 sem_is_fork_rule (cons2 (nmP 0) (fun _ => some [])) [some (Cell.sh r.d), some (Cell.sh (mD m)), none, none, none] = some (.bool r.isF) := callS_is (cons2_is rfl rfl) rfl (is_fork_is r)
  cases r with
  | leaf n s =>
    refine sq_rt (d := .int 1) (o := false) (ρ' := [some (Cell.sh (Ru.leaf n s).d), some (Cell.sh (mD m)), none, none, none]) ?_ rfl
    show ifS _ _ _ [some (Cell.sh (Ru.leaf n s).d), some (Cell.sh (mD m)), none, none, none] = _
    unfold ifS notT
    simp only [ef, Option.bind_some, truD, Option.map_some, Ru.isF]
    rfl
  | fork n a b =>
    refine sq_nx (ρ' := [some (Cell.sh (Ru.fork n a b).d), some (Cell.sh (mD m)), none, none, none]) ?_ ?_
    · show ifS _ _ _ [some (Cell.sh (Ru.fork n a b).d), some (Cell.sh (mD m)), none, none, none] = _
      unfold ifS notT
      simp only [ef, Option.bind_some, truD, Option.map_some, Ru.isF]
      rfl
    refine sq_nx (ρ' := [some (Cell.sh (Ru.fork n a b).d), some (Cell.sh (mD m)), some (.sh (.str n)), some (.sh (.str a)), some (.sh (.str b))]) rfl ?_
    have ta : opT inKD (nmW 3) (nmW 1) [some (Cell.sh (Ru.fork n a b).d), some (Cell.sh (mD m)), some (.sh (.str n)), some (.sh (.str a)), some (.sh (.str b))] = some (look m a).isSome := opT_is rfl rfl (in_is h a)
    have tb : opT inKD (nmW 4) (nmW 1) [some (Cell.sh (Ru.fork n a b).d), some (Cell.sh (mD m)), some (.sh (.str n)), some (.sh (.str a)), some (.sh (.str b))] = some (look m b).isSome := opT_is rfl rfl (in_is h b)
    cases qa : look m a with
    | none =>
      refine sq_nx (ρ' := [some (Cell.sh (Ru.fork n a b).d), some (Cell.sh (mD m)), some (.sh (.str n)), some (.sh (.str a)), some (.sh (.str b))]) ?_ ?_
      · unfold ifS andT
        rw [ta, qa]
        rfl
      · show some (Ou.ret .none false []) = _
        rw [show cost m (Ru.fork n a b) = (look m a).bind fun i => (look m b).map fun j => i + j from rfl, qa]
        rfl
    | some i =>
      cases qb : look m b with
      | none =>
        refine sq_nx (ρ' := [some (Cell.sh (Ru.fork n a b).d), some (Cell.sh (mD m)), some (.sh (.str n)), some (.sh (.str a)), some (.sh (.str b))]) ?_ ?_
        · unfold ifS andT
          rw [ta, qa, tb, qb]
          rfl
        · show some (Ou.ret .none false []) = _
          rw [show cost m (Ru.fork n a b) = (look m a).bind fun i => (look m b).map fun j => i + j from rfl, qa, qb]
          rfl
      | some j =>
        refine sq_rt (d := .int (i + j)) (o := false) (ρ' := [some (Cell.sh (Ru.fork n a b).d), some (Cell.sh (mD m)), some (.sh (.str n)), some (.sh (.str a)), some (.sh (.str b))]) ?_ ?_
        · unfold ifS andT
          rw [ta, qa, tb, qb]
          have e : op2 addD (op2 getKD (nmW 1) (nmW 3)) (op2 getKD (nmW 1) (nmW 4)) [some (Cell.sh (Ru.fork n a b).d), some (Cell.sh (mD m)), some (.sh (.str n)), some (.sh (.str a)), some (.sh (.str b))] = some (.int (i + j)) :=
            op2_is (op2_is rfl rfl (get_is h qa)) (op2_is rfl rfl (get_is h qb)) rfl
          show Option.map _ (op2 addD _ _ _) = _
          rw [e]
          rfl
        · show some (Ou.ret _ false []) = _
          rw [show cost m (Ru.fork n a b) = (look m a).bind fun i => (look m b).map fun j => i + j from rfl, qa, qb]
          rfl
theorem keep_no {m : M} (h : OkM m) {n : Str} {i c : Int} (e : look m n = some i) (hc : i ≤ c) : sem_keep_lesser [mD m, .str n, .int c] = some (.ret (.bool false) false [mD m]) := by
  refine semM_is rfl fun vs hv hio => ?_
  match vs, hv, hio with
  | [.ref a, v1, v2], _, _ =>
    unfold runD g_keep_lesser
    refine sq_rt (d := .bool false) (o := false) (ρ' := [some (Cell.io a (mD m)), some (.sh (.str n)), some (.sh (.int c))]) ?_ (by simp [finD, outsOf])
    have ta : opT inKD (nmW 1) (nmW 0) [some (Cell.io a (mD m)), some (.sh (.str n)), some (.sh (.int c))] = some true := by
      refine opT_is rfl rfl ?_
      show inKD (.str n) (mD m) = _
      rw [in_is h n, e]
      rfl
    have tb : opT leD (op2 getKD (nmW 0) (nmW 1)) (nmW 2) [some (Cell.io a (mD m)), some (.sh (.str n)), some (.sh (.int c))] = some true := by
      refine opT_is (op2_is rfl rfl (get_is h e)) rfl ?_
      show some (PyData.bool (decide (i ≤ c))) = _
      rw [decide_eq_true hc]
    show ifS _ _ _ [some (Cell.io a (mD m)), some (.sh (.str n)), some (.sh (.int c))] = _
    unfold ifS andT
    rw [ta, Option.bind_some, if_pos rfl, tb]
    rfl
theorem keep_yes {m : M} (h : OkM m) {n : Str} {c : Int} (hl : m.length < 100000) (hc : ∀ i, look m n = some i → ¬ i ≤ c) : sem_keep_lesser [mD m, .str n, .int c] = some (.ret (.bool true) false [mD (putK m (.inr n) (.int c))]) := by
  refine semM_is rfl fun vs hv hio => ?_
  match vs, hv, hio with
  | [.ref a, v1, v2], _, _ =>
    unfold runD g_keep_lesser
    have ta : opT inKD (nmW 1) (nmW 0) [some (Cell.io a (mD m)), some (.sh (.str n)), some (.sh (.int c))] = some (look m n).isSome := opT_is rfl rfl (in_is h n)
    refine sq_nx (ρ' := [some (Cell.io a (mD m)), some (.sh (.str n)), some (.sh (.int c))]) ?_ ?_
    · show ifS _ _ _ [some (Cell.io a (mD m)), some (.sh (.str n)), some (.sh (.int c))] = _
      unfold ifS andT
      rw [ta]
      cases e : look m n with
      | none => rfl
      | some i =>
        have tb : opT leD (op2 getKD (nmW 0) (nmW 1)) (nmW 2) [some (Cell.io a (mD m)), some (.sh (.str n)), some (.sh (.int c))] = some false := by
          refine opT_is (op2_is rfl rfl (get_is h e)) rfl ?_
          show some (PyData.bool (decide (i ≤ c))) = _
          rw [decide_eq_false (hc i e)]
        show Option.bind (opT leD (op2 getKD (nmW 0) (nmW 1)) (nmW 2) [some (Cell.io a (mD m)), some (.sh (.str n)), some (.sh (.int c))]) _ = _
        rw [tb]
        rfl
    · refine sq_nx (ρ' := [some (Cell.io a (mD (putK m (.inr n) (.int c)))), some (.sh (.str n)), some (.sh (.int c))]) ?_ (by simp [finD, outsOf])
      have pd : putD (.str n) (.int c) (mD m) = some (mD (putK m (.inr n) (.int c))) := by
        show (decK (m.map enK)).bind _ = _
        rw [decK_en h.flat]
        show (if m.length < 100000 then _ else _) = _
        rw [if_pos hl]
        rfl
      show mutS 0 (putD (.str n) (.int c)) [some (Cell.io a (mD m)), some (.sh (.str n)), some (.sh (.int c))] = _
      unfold mutS
      show (if true = true then (putD (.str n) (.int c) (mD m)).map _ else _) = _
      rw [if_pos rfl, pd]
      rfl
end MD

namespace MD
open PySem L2 DS
/-! ## the lengths are lowered until nothing changes -/
theorem look_put {m : M} {n k : Str} {c : Int} : look (putK m (.inr n) (.int c)) k = if k = n then some c else look m k := by
  unfold look
  rw [valV_put]
  by_cases h : k = n
  · subst h
    rw [if_pos rfl, if_pos rfl]
  · rw [if_neg (fun z => h (Sum.inr.inj z)), if_neg h]
theorem OkM.put {m : M} (h : OkM m) {n : Str} {c : Int} (hc : 1 ≤ c) : OkM (putK m (.inr n) (.int c)) := fun q hq => by
  unfold putK at hq
  split at hq
  · obtain ⟨q0, hq0, rfl⟩ := List.mem_map.mp hq
    split
    · rename_i e
      exact ⟨n, c, by rw [e], hc⟩
    · exact h _ hq0
  · rcases List.mem_append.mp hq with hq | hq
    · exact h _ hq
    · rcases List.mem_cons.mp hq with rfl | hq
      · exact ⟨n, c, rfl, hc⟩
      · cases hq
def missing (rs : List Ru) (m : M) : Nat := (rs.filter fun r => (look m r.hd).isNone).length
def sumR (rs : List Ru) (m : M) : Nat := (rs.map fun r => ((look m r.hd).getD 0).toNat).sum
def LtM (rs : List Ru) (m' m : M) : Prop := missing rs m' < missing rs m ∨ (missing rs m' = missing rs m ∧ sumR rs m' < sumR rs m)
theorem LtM.trans {rs : List Ru} {a b c : M} (h1 : LtM rs a b) (h2 : LtM rs b c) : LtM rs a c := by
  rcases h1 with h1 | ⟨h1, h1'⟩ <;> rcases h2 with h2 | ⟨h2, h2'⟩
  · exact .inl (by omega)
  · exact .inl (by omega)
  · exact .inl (by omega)
  · exact .inr ⟨by omega, by omega⟩
theorem filt_le {α : Type} {p q : α → Bool} : ∀ (l : List α), (∀ x ∈ l, p x = true → q x = true) → (l.filter p).length ≤ (l.filter q).length
  | [], _ => Nat.le_refl _
  | x :: r, h => by
    have ih := filt_le r fun y hy => h y (List.mem_cons_of_mem _ hy)
    have hx := h x List.mem_cons_self
    rw [List.filter_cons, List.filter_cons]
    by_cases hp : p x = true
    · rw [if_pos hp, if_pos (hx hp), List.length_cons, List.length_cons]
      omega
    · rw [if_neg hp]
      split
      · rw [List.length_cons]
        omega
      · exact ih
theorem filt_lt {α : Type} {p q : α → Bool} : ∀ (l : List α), (∀ x ∈ l, p x = true → q x = true) → (∃ x ∈ l, q x = true ∧ ¬ p x = true) → (l.filter p).length < (l.filter q).length
  | [], _, ⟨_, h, _⟩ => by cases h
  | x :: r, h, ⟨y, hy, h1, h2⟩ => by
    have hle := filt_le r fun y hy => h y (List.mem_cons_of_mem _ hy)
    have hx := h x List.mem_cons_self
    rw [List.filter_cons, List.filter_cons]
    rcases List.mem_cons.mp hy with rfl | hy
    · rw [if_neg h2, if_pos h1, List.length_cons]
      omega
    · have ih := filt_lt r (fun y hy => h y (List.mem_cons_of_mem _ hy)) ⟨y, hy, h1, h2⟩
      by_cases hp : p x = true
      · rw [if_pos hp, if_pos (hx hp), List.length_cons, List.length_cons]
        omega
      · rw [if_neg hp]
        split
        · rw [List.length_cons]
          omega
        · exact ih
theorem sum_le {α : Type} {f g : α → Nat} : ∀ (l : List α), (∀ x ∈ l, f x ≤ g x) → (l.map f).sum ≤ (l.map g).sum
  | [], _ => Nat.le_refl _
  | x :: r, h => by
    have ih := sum_le r fun y hy => h y (List.mem_cons_of_mem _ hy)
    have hx := h x List.mem_cons_self
    simp only [List.map_cons, List.sum_cons]
    omega
theorem sum_lt {α : Type} {f g : α → Nat} : ∀ (l : List α), (∀ x ∈ l, f x ≤ g x) → (∃ x ∈ l, f x < g x) → (l.map f).sum < (l.map g).sum
  | [], _, ⟨_, h, _⟩ => by cases h
  | x :: r, h, ⟨y, hy, h1⟩ => by
    have hle := sum_le r fun y hy => h y (List.mem_cons_of_mem _ hy)
    have hx := h x List.mem_cons_self
    simp only [List.map_cons, List.sum_cons]
    rcases List.mem_cons.mp hy with rfl | hy
    · omega
    · have ih := sum_lt r (fun y hy => h y (List.mem_cons_of_mem _ hy)) ⟨y, hy, h1⟩
      omega
theorem nd_put {κ : Type} [DecidableEq κ] {m : List (κ × V)} {k : κ} {v : V} (h : (m.map (·.1)).Nodup) : ((putK m k v).map (·.1)).Nodup := by
  unfold putK
  split
  · rw [List.map_map]
    have e : ((fun x : κ × V => x.1) ∘ fun kv : κ × V => if kv.1 = k then (kv.1, v) else kv) = fun x : κ × V => x.1 := by
      funext x
      show (if x.1 = k then (x.1, v) else x).1 = x.1
      split <;> rfl
    first
      | (rw [e]; exact h)
      | (simpa using h)
  · rename_i hk
    rw [List.map_append, List.nodup_append]
    refine ⟨h, by simp, fun a ha b hb => ?_⟩
    have hb' : b = k := by simpa using hb
    subst hb'
    intro z
    subst z
    obtain ⟨p, hp, rfl⟩ := List.mem_map.mp ha
    exact hk (List.any_eq_true.mpr ⟨p, hp, by simp⟩)
structure InvM (rs : List Ru) (m : M) : Prop where
  ok : OkM m
  nd : (m.map (·.1)).Nodup
  by_ : ∀ n i, look m n = some i → ∃ r ∈ rs, r.hd = n ∧ ∃ c, cost m r = some c ∧ c ≤ i
  len : m.length + missing rs m ≤ rs.length
def Stable (m : M) (r : Ru) : Prop := ∀ c, cost m r = some c → ∃ i, look m r.hd = some i ∧ i ≤ c
theorem cost_pos {m : M} (h : OkM m) {r : Ru} {c : Int} (e : cost m r = some c) : 1 ≤ c := by
  cases r with
  | leaf n s =>
    cases e
    decide
  | fork n a b =>
    obtain ⟨i, h1, e2⟩ := Option.bind_eq_some_iff.mp e
    obtain ⟨j, h2, rfl⟩ := Option.map_eq_some_iff.mp e2
    have := h.pos h1
    have := h.pos h2
    omega
theorem cost_le {m m' : M} (h : ∀ k i, look m k = some i → ∃ j, look m' k = some j ∧ j ≤ i) {r : Ru} {c : Int} (e : cost m r = some c) : ∃ c', cost m' r = some c' ∧ c' ≤ c := by
  cases r with
  | leaf n s => exact ⟨c, e, Int.le_refl _⟩
  | fork n a b =>
    obtain ⟨i, h1, e2⟩ := Option.bind_eq_some_iff.mp e
    obtain ⟨j, h2, rfl⟩ := Option.map_eq_some_iff.mp e2
    obtain ⟨i', g1, g2⟩ := h a i h1
    obtain ⟨j', g3, g4⟩ := h b j h2
    refine ⟨i' + j', ?_, by omega⟩
    show (look m' a).bind _ = _
    rw [g1]
    show (look m' b).map _ = _
    rw [g3]
    rfl
theorem put_step {rs : List Ru} {m : M} (I : InvM rs m) {r : Ru} (hr : r ∈ rs) {c : Int} (e : cost m r = some c) (hc : ∀ i, look m r.hd = some i → ¬ i ≤ c) :
    InvM rs (putK m (.inr r.hd) (.int c)) ∧ LtM rs (putK m (.inr r.hd) (.int c)) m := by
  have c1 := cost_pos I.ok e
  have le : ∀ k i, look m k = some i → ∃ j, look (putK m (.inr r.hd) (.int c)) k = some j ∧ j ≤ i := fun k i h => by
    rw [look_put]
    by_cases hk : k = r.hd
    · subst hk
      rw [if_pos rfl]
      exact ⟨c, rfl, by have := hc i h; omega⟩
    · rw [if_neg hk]
      exact ⟨i, h, Int.le_refl _⟩
  have mono : ∀ x ∈ rs, (look (putK m (.inr r.hd) (.int c)) x.hd).isNone = true → (look m x.hd).isNone = true := fun x _ h => by
    cases q : look m x.hd with
    | none => rfl
    | some i =>
      obtain ⟨j, h1, _⟩ := le _ _ q
      rw [h1] at h
      cases h
  have mle : missing rs (putK m (.inr r.hd) (.int c)) ≤ missing rs m := filt_le rs mono
  cases q : look m r.hd with
  | none =>
    have mlt : missing rs (putK m (.inr r.hd) (.int c)) < missing rs m := filt_lt rs mono ⟨r, hr, by rw [q]; rfl, by rw [look_put, if_pos rfl]; exact Bool.false_ne_true⟩
    refine ⟨⟨I.ok.put c1, nd_put I.nd, fun n i h => ?_, ?_⟩, .inl mlt⟩
    · rw [look_put] at h
      by_cases hn : n = r.hd
      · subst hn
        rw [if_pos rfl] at h
        cases h
        obtain ⟨c', g1, g2⟩ := cost_le le e
        exact ⟨r, hr, rfl, c', g1, g2⟩
      · rw [if_neg hn] at h
        obtain ⟨r', h1, h2, c', h3, h4⟩ := I.by_ n i h
        obtain ⟨c2, g1, g2⟩ := cost_le le h3
        exact ⟨r', h1, h2, c2, g1, by omega⟩
    · have h1 := length_putK m (.inr r.hd) (V.int c)
      have := I.len
      omega
  | some i =>
    have hi := hc i q
    have ipos := I.ok.pos q
    refine ⟨⟨I.ok.put c1, nd_put I.nd, fun n j h => ?_, ?_⟩, ?_⟩
    · rw [look_put] at h
      by_cases hn : n = r.hd
      · subst hn
        rw [if_pos rfl] at h
        cases h
        obtain ⟨c', g1, g2⟩ := cost_le le e
        exact ⟨r, hr, rfl, c', g1, g2⟩
      · rw [if_neg hn] at h
        obtain ⟨r', h1, h2, c', h3, h4⟩ := I.by_ n j h
        obtain ⟨c2, g1, g2⟩ := cost_le le h3
        exact ⟨r', h1, h2, c2, g1, by omega⟩
    · have hl : (putK m (.inr r.hd) (.int c)).length = m.length := by
        unfold putK
        rw [valV_any, look_some q]
        exact List.length_map _
      have := I.len
      omega
    · have meq : missing rs (putK m (.inr r.hd) (.int c)) = missing rs m := by
        refine Nat.le_antisymm mle (filt_le rs fun x _ h => ?_)
        rw [look_put]
        by_cases hx : x.hd = r.hd
        · rw [hx, q] at h
          cases h
        · rw [if_neg hx]
          exact h
      refine .inr ⟨meq, sum_lt rs (fun x _ => ?_) ⟨r, hr, ?_⟩⟩
      · rw [look_put]
        by_cases hx : x.hd = r.hd
        · rw [if_pos hx, hx, q]
          show c.toNat ≤ i.toNat
          omega
        · rw [if_neg hx]
          exact Nat.le_refl _
      · rw [look_put, if_pos rfl, q]
        show c.toNat < i.toNat
        omega
/-! ### a pass -/
noncomputable def bodyL : Nv → Option SR := (seqS (setS 4 (callF 2 sem_length_by (cons2 (nmW 3) (cons2 (nmW 1) (fun _ => some [])))))
    (ifX (andX (opT isntD (nmW 4) (fun _ => some .none)) (fun ρ => ((callX 3 1 sem_keep_lesser (fun ρ => (nmM 1 ρ).bind fun d => ((cons2 (op2 ixD (nmW 3) (fun _ => some (.int 0))) (cons2 (nmP 4) (fun _ => some []))) ρ).bind fun ds => if ds.length = 2 then some (d :: ds) else none)) ρ).bind fun r => (truD r.1).map fun k => (k, r.2)))
      (setS 2 (fun _ => some (.bool true)))
      (fun ρ => some (.nx ρ))))
def stL (rs : List Ru) (m : M) (l : Bool) (x y : Option Cell) : Nv := [some (.sh (.list (rs.map Ru.d))), some (.ow (mD m)), some (.sh (.bool l)), x, y]
theorem body_is {rs : List Ru} {m : M} (I : InvM rs m) (hl : rs.length ≤ 40) {r : Ru} (hr : r ∈ rs) (l : Bool) (y : Option Cell) :
    ∃ m' l' y', bodyL (stL rs m l (some (.sh r.d)) y) = some (.nx (stL rs m' l' (some (.sh r.d)) y')) ∧ InvM rs m' ∧ ((m' = m ∧ l' = l ∧ Stable m r) ∨ (l' = true ∧ LtM rs m' m)) := by
  have e1 : callF 2 sem_length_by (cons2 (nmW 3) (cons2 (nmW 1) (fun _ => some []))) (stL rs m l (some (.sh r.d)) y) = some (optD (cost m r)) := by
    exact callF_is (cons2_is rfl (cons2_is rfl rfl)) rfl (length_is I.ok r) (by cases cost m r <;> rfl)
  have bd : bodyL (stL rs m l (some (.sh r.d)) y) = (ifX (andX (opT isntD (nmW 4) (fun _ => some .none)) (fun ρ => ((callX 3 1 sem_keep_lesser (fun ρ => (nmM 1 ρ).bind fun d => ((cons2 (op2 ixD (nmW 3) (fun _ => some (.int 0))) (cons2 (nmP 4) (fun _ => some []))) ρ).bind fun ds => if ds.length = 2 then some (d :: ds) else none)) ρ).bind fun r => (truD r.1).map fun k => (k, r.2)))
      (setS 2 (fun _ => some (.bool true)))
      (fun ρ => some (.nx ρ))) (stL rs m l (some (.sh r.d)) (some (.sh (optD (cost m r))))) := by
    unfold bodyL seqS
    rw [setS_is e1]
    rfl
  rw [bd]
  cases q : cost m r with
  | none => exact ⟨m, l, _, rfl, I, .inl ⟨rfl, rfl, fun c h => by rw [q] at h; cases h⟩⟩
  | some c =>
    have hlm : m.length < 100000 := by
      have := I.len
      omega
    have fr : (fun ρ => (nmM 1 ρ).bind fun d => ((cons2 (op2 ixD (nmW 3) (fun _ => some (.int 0))) (cons2 (nmP 4) (fun _ => some []))) ρ).bind fun ds => if ds.length = 2 then some (d :: ds) else none) (stL rs m l (some (.sh r.d)) (some (.sh (.int c)))) = some [mD m, .str r.hd, .int c] := by
      have e2 : cons2 (op2 ixD (nmW 3) (fun _ => some (.int 0))) (cons2 (nmP 4) (fun _ => some [])) (stL rs m l (some (.sh r.d)) (some (.sh (.int c)))) = some [.str r.hd, .int c] := cons2_is (ix0 r) rfl
      show Option.bind (some (mD m)) _ = _
      show Option.bind (cons2 _ _ _) _ = _
      rw [e2]
      rfl
    by_cases hk : ∃ i, look m r.hd = some i ∧ i ≤ c
    · obtain ⟨i, h1, h2⟩ := hk
      have ek : callX 3 1 sem_keep_lesser (fun ρ => (nmM 1 ρ).bind fun d => ((cons2 (op2 ixD (nmW 3) (fun _ => some (.int 0))) (cons2 (nmP 4) (fun _ => some []))) ρ).bind fun ds => if ds.length = 2 then some (d :: ds) else none) (stL rs m l (some (.sh r.d)) (some (.sh (.int c)))) = some (.bool false, stL rs m l (some (.sh r.d)) (some (.sh (.int c)))) := by
        exact callX_is (c := .ow (mD m)) fr rfl (keep_no I.ok h1 h2) rfl rfl
      refine ⟨m, l, some (.sh (.int c)), ?_, I, .inl ⟨rfl, rfl, fun c' h => ?_⟩⟩
      · show ifX _ _ _ (stL rs m l (some (.sh r.d)) (some (.sh (.int c)))) = _
        unfold ifX andX
        show Option.bind (Option.bind (callX 3 1 _ _ _) _) _ = _
        rw [ek]
        rfl
      · rw [q] at h
        cases h
        exact ⟨i, h1, h2⟩
    · have hk' : ∀ i, look m r.hd = some i → ¬ i ≤ c := fun i h1 h2 => hk ⟨i, h1, h2⟩
      have ek : callX 3 1 sem_keep_lesser (fun ρ => (nmM 1 ρ).bind fun d => ((cons2 (op2 ixD (nmW 3) (fun _ => some (.int 0))) (cons2 (nmP 4) (fun _ => some []))) ρ).bind fun ds => if ds.length = 2 then some (d :: ds) else none) (stL rs m l (some (.sh r.d)) (some (.sh (.int c)))) = some (.bool true, stL rs (putK m (.inr r.hd) (.int c)) l (some (.sh r.d)) (some (.sh (.int c)))) := by
        exact callX_is (c := .ow (mD m)) fr rfl (keep_yes I.ok hlm hk') rfl rfl
      obtain ⟨I', lt⟩ := put_step I hr q hk'
      refine ⟨putK m (.inr r.hd) (.int c), true, some (.sh (.int c)), ?_, I', .inr ⟨rfl, lt⟩⟩
      show ifX _ _ _ (stL rs m l (some (.sh r.d)) (some (.sh (.int c)))) = _
      unfold ifX andX
      show Option.bind (Option.bind (callX 3 1 _ _ _) _) _ = _
      rw [ek]
      rfl
theorem pass_is {rs : List Ru} (hl : rs.length ≤ 40) : ∀ (rs2 : List Ru), (∀ r ∈ rs2, r ∈ rs) → ∀ (m : M) (l : Bool) (x y : Option Cell), InvM rs m →
    ∃ m' l' x' y', forS (toNm 3) bodyL (rs2.map Ru.d) (stL rs m l x y) = some (.nx (stL rs m' l' x' y')) ∧ InvM rs m' ∧ ((m' = m ∧ l' = l ∧ ∀ r ∈ rs2, Stable m r) ∨ (l' = true ∧ LtM rs m' m))
  | [], _, m, l, x, y, I => ⟨m, l, x, y, rfl, I, .inl ⟨rfl, rfl, fun _ h => by cases h⟩⟩
  | r :: r2, hs, m, l, x, y, I => by
    obtain ⟨m1, l1, y1, e1, I1, h1⟩ := body_is I hl (hs r List.mem_cons_self) l y
    obtain ⟨m2, l2, x2, y2, e2, I2, h2⟩ := pass_is hl r2 (fun z hz => hs z (List.mem_cons_of_mem _ hz)) m1 l1 (some (.sh r.d)) y1 I1
    refine ⟨m2, l2, x2, y2, ?_, I2, ?_⟩
    · rw [List.map_cons, forS]
      show Option.bind (bodyL (stL rs m l (some (.sh r.d)) y)) _ = _
      rw [e1]
      exact e2
    · rcases h1 with ⟨rfl, rfl, s1⟩ | ⟨rfl, lt1⟩
      · rcases h2 with ⟨rfl, rfl, s2⟩ | ⟨rfl, lt2⟩
        · refine .inl ⟨rfl, rfl, fun z hz => ?_⟩
          rcases List.mem_cons.mp hz with rfl | hz
          · exact s1
          · exact s2 z hz
        · exact .inr ⟨rfl, lt2⟩
      · rcases h2 with ⟨rfl, rfl, s2⟩ | ⟨rfl, lt2⟩
        · exact .inr ⟨rfl, lt1⟩
        · exact .inr ⟨rfl, lt2.trans lt1⟩
noncomputable def turnL : Nv → Option SR := (seqS (setS 2 (fun _ => some (.bool false)))
    (fun ρ => ((fun ρ => ((nmP 0) ρ).bind asL) ρ).bind fun ds => forS (toNm 3) bodyL ds ρ))
theorem loop_is {rs : List Ru} (hl : rs.length ≤ 40) : ∀ (a b : Nat) (m : M) (x y : Option Cell), missing rs m = a → sumR rs m = b → InvM rs m →
    ∃ n m' l' x' y', whileS (fun ρ => ((nmW 2) ρ).bind truD) turnL n (stL rs m true x y) = some (.nx (stL rs m' l' x' y')) ∧ InvM rs m' ∧ ∀ r ∈ rs, Stable m' r := by
  intro a
  induction a using Nat.strongRecOn with
  | _ a iha =>
    intro b
    induction b using Nat.strongRecOn with
    | _ b ihb =>
      intro m x y ha hb I
      obtain ⟨m1, l1, x1, y1, e1, I1, h1⟩ := pass_is hl rs (fun _ h => h) m false x y I
      have et : turnL (stL rs m true x y) = some (.nx (stL rs m1 l1 x1 y1)) := e1
      rcases h1 with ⟨rfl, rfl, s1⟩ | ⟨rfl, lt⟩
      · refine ⟨2, m1, false, x1, y1, ?_, I1, s1⟩
        rw [whileS]
        show Option.bind (turnL _) _ = _
        rw [et]
        rfl
      · have step : ∀ {n : Nat} {z : SR}, whileS (fun ρ => ((nmW 2) ρ).bind truD) turnL n (stL rs m1 true x1 y1) = some z → whileS (fun ρ => ((nmW 2) ρ).bind truD) turnL (n + 1) (stL rs m true x y) = some z := fun {n z} h => by
          rw [whileS]
          show Option.bind (turnL _) _ = _
          rw [et]
          exact h
        rcases lt with lt | ⟨eq, lt⟩
        · obtain ⟨n, m2, l2, x2, y2, e2, I2, s2⟩ := iha _ (by omega) _ m1 x1 y1 rfl rfl I1
          exact ⟨n + 1, m2, l2, x2, y2, step e2, I2, s2⟩
        · obtain ⟨n, m2, l2, x2, y2, e2, I2, s2⟩ := ihb _ (by omega) m1 x1 y1 (by omega) rfl I1
          exact ⟨n + 1, m2, l2, x2, y2, step e2, I2, s2⟩
theorem inv_nil (rs : List Ru) : InvM rs [] := by
  refine ⟨fun _ h => (by cases h), List.nodup_nil, fun n i h => (by cases h), ?_⟩
  show 0 + (rs.filter _).length ≤ _
  have := List.length_filter_le (fun r => (look [] r.hd).isNone) rs
  omega
theorem lengths_is {rs : List Ru} (hl : rs.length ≤ 40) : ∃ m, sem_lengths_of [.list (rs.map Ru.d)] = some (.ret (mD m) true []) ∧ InvM rs m ∧ ∀ r ∈ rs, Stable m r := by
  obtain ⟨n, m, l, x, y, e, I, s⟩ := loop_is hl _ _ [] none none rfl rfl (inv_nil rs)
  refine ⟨m, ?_, I, s⟩
  unfold sem_lengths_of g_lengths_of
  refine semR_of rfl ?_
  refine sq_nx (ρ' := [some (.sh (.list (rs.map Ru.d))), some (.ow (mD [])), none, none, none]) rfl ?_
  refine sq_nx (ρ' := stL rs [] true none none) rfl ?_
  refine sq_nx (ρ' := stL rs m l x y) (whileC_is e) ?_
  rfl
end MD

namespace MD
open PySem L2 DS
/-! ## grammars that are good -/
structure Good (rs : List Ru) : Prop where
  ne : 1 ≤ rs.length
  le : rs.length ≤ 40
  ok : ∀ r ∈ rs, r.ok
  known : ∀ n a b, Ru.fork n a b ∈ rs → a ∈ rs.map Ru.hd ∧ b ∈ rs.map Ru.hd
  rank : ∃ rk : Str → Nat, (∀ n, rk n ≤ 12) ∧ ∀ n ∈ rs.map Ru.hd, ∃ r ∈ rs, r.hd = n ∧ ∀ a b, r = .fork n a b → rk a < rk n ∧ rk b < rk n
theorem all_in {rs : List Ru} (G : Good rs) {m : M} (S : ∀ r ∈ rs, Stable m r) : ∀ n ∈ rs.map Ru.hd, ∃ i, look m n = some i := by
  obtain ⟨rk, _, hrk⟩ := G.rank
  have key : ∀ k n, n ∈ rs.map Ru.hd → rk n < k → ∃ i, look m n = some i := by
    intro k
    induction k with
    | zero =>
      intro n _ h
      omega
    | succ k ih =>
      intro n hn hk
      obtain ⟨r, hr, rfl, h3⟩ := hrk n hn
      cases r with
      | leaf n s =>
        obtain ⟨i, h1, _⟩ := S _ hr 1 rfl
        exact ⟨i, h1⟩
      | fork n a b =>
        obtain ⟨ha, hb⟩ := h3 a b rfl
        obtain ⟨ka, kb⟩ := G.known n a b hr
        obtain ⟨i, h1⟩ := ih a ka (by have : rk (Ru.fork n a b).hd < k + 1 := hk; omega)
        obtain ⟨j, h2⟩ := ih b kb (by have : rk (Ru.fork n a b).hd < k + 1 := hk; omega)
        obtain ⟨c, h4, _⟩ := S _ hr (i + j) (by
          show (look m a).bind _ = _
          rw [h1]
          show (look m b).map _ = _
          rw [h2]
          rfl)
        exact ⟨c, h4⟩
  exact fun n hn => key (rk n + 1) n hn (Nat.lt_succ_self _)
theorem mem_addN {acc : List Str} {x y : Str} : y ∈ addN acc x ↔ y ∈ acc ∨ y = x := by
  unfold addN
  split
  · rename_i h
    constructor
    · exact .inl
    · rintro (h1 | rfl)
      · exact h1
      · exact h
  · simp
theorem mem_fold : ∀ (xs acc : List Str) (y : Str), y ∈ xs.foldl addN acc ↔ y ∈ acc ∨ y ∈ xs
  | [], acc, y => by simp
  | x :: r, acc, y => by
    rw [List.foldl_cons, mem_fold r, mem_addN, List.mem_cons, or_assoc]
theorem mem_uniq {xs : List Str} {y : Str} : y ∈ uniq xs ↔ y ∈ xs := by
  unfold uniq
  rw [mem_fold]
  simp
theorem nodup_fold : ∀ (xs acc : List Str), acc.Nodup → (xs.foldl addN acc).Nodup
  | [], acc, h => h
  | x :: r, acc, h => by
    rw [List.foldl_cons]
    refine nodup_fold r _ ?_
    unfold addN
    split
    · exact h
    · rename_i hx
      rw [List.nodup_append]
      refine ⟨h, by simp, fun a ha b hb => ?_⟩
      rw [List.mem_singleton] at hb
      rintro rfl
      exact hx (hb ▸ ha)
theorem nodup_uniq (xs : List Str) : (uniq xs).Nodup := nodup_fold xs [] List.nodup_nil
theorem len_fold : ∀ (xs acc : List Str), (xs.foldl addN acc).length ≤ acc.length + xs.length
  | [], acc => by simp
  | x :: r, acc => by
    rw [List.foldl_cons]
    have := len_fold r (addN acc x)
    have h2 : (addN acc x).length ≤ acc.length + 1 := by
      unfold addN
      split
      · omega
      · simp
    rw [List.length_cons]
    omega
theorem len_uniq (xs : List Str) : (uniq xs).length ≤ xs.length := by
  have := len_fold xs []
  unfold uniq
  simpa using this
theorem eqvAll_self : ∀ xs : List D, (∀ x ∈ xs, PyData.eqv x x = true) → PyData.eqvAll xs xs = true
  | [], _ => rfl
  | x :: r, h => by
    rw [PyData.eqvAll, h x List.mem_cons_self, eqvAll_self r fun y hy => h y (List.mem_cons_of_mem _ hy)]
    rfl
theorem eqv_str (x y : Str) : PyData.eqv (.str x) (.str y) = decide (x = y) := by
  rw [PyData.eqv]
  rfl
theorem eqv_strs (ns : List Str) : PyData.eqv (.list (ns.map .str)) (.list (ns.map .str)) = true := by
  rw [PyData.eqv]
  refine eqvAll_self _ fun x hx => ?_
  obtain ⟨n, _, rfl⟩ := List.mem_map.mp hx
  rw [eqv_str]
  exact decide_eq_true rfl
theorem eqv_rules (rs : List Ru) : PyData.eqv (.list (rs.map Ru.d)) (.list (rs.map Ru.d)) = true := by
  rw [PyData.eqv]
  refine eqvAll_self _ fun x hx => ?_
  obtain ⟨r, _, rfl⟩ := List.mem_map.mp hx
  cases r with
  | leaf n s =>
    unfold Ru.d
    rw [PyData.eqv]
    simp [PyData.eqvAll, eqv_str]
  | fork n a b =>
    unfold Ru.d
    rw [PyData.eqv]
    simp [PyData.eqvAll, eqv_str]
def okN (n : Str) : Prop := nameB (.str n) = true
theorem fine_nm {n : Str} {k : Nat} (h : okD (.str n)) : fine k (.str n) = true := by
  obtain ⟨h1, h2⟩ := h n rfl
  exact fine_str h1 (strOk_all.mp h2)
theorem shaped_nm {n : Str} (h : okN n) : SeqAt.shaped (.str n) = true := shaped_fine (n := 0) (fine_nm (ok_nm h)) (by decide)
theorem shaped_nms {ns : List Str} (h : ∀ n ∈ ns, okN n) : SeqAt.shaped (.list (ns.map .str)) = true := by
  refine shaped_fine (n := 1) ?_ (by decide)
  show List.all _ (fine 0) = true
  rw [List.all_eq_true]
  intro x hx
  obtain ⟨n, hn, rfl⟩ := List.mem_map.mp hx
  exact fine_nm (ok_nm (h n hn))
theorem shaped_rules {rs : List Ru} (h : ∀ r ∈ rs, r.ok) : SeqAt.shaped (.list (rs.map Ru.d)) = true := by
  refine shaped_fine (n := 2) ?_ (by decide)
  show List.all _ (fine 1) = true
  rw [List.all_eq_true]
  intro x hx
  obtain ⟨r, hr, rfl⟩ := List.mem_map.mp hx
  have hk := h r hr
  cases r with
  | leaf n s =>
    show List.all _ (fine 0) = true
    simp [fine_nm (ok_nm hk.1), fine_nm (ok_sg hk.2)]
  | fork n a b =>
    show List.all _ (fine 0) = true
    simp [fine_nm (ok_nm hk.1), fine_nm (ok_nm hk.2.1), fine_nm (ok_nm hk.2.2)]
theorem Ru.okhd {r : Ru} (h : r.ok) : okN r.hd := by
  cases r with
  | leaf n s => exact h.1
  | fork n a b => exact h.1
theorem any_nm (ns : List Str) (x : Str) : ((ns.map PyData.str).any fun z => PyData.eqv z (.str x)) = decide (x ∈ ns) := by
  induction ns with
  | nil => rfl
  | cons y r ih =>
    rw [List.map_cons, List.any_cons, ih, eqv_str]
    by_cases h : y = x
    · simp [h]
    · have h2 : ¬ x = y := fun z => h z.symm
      simp [h, h2]
theorem nin_nm {ns : List Str} {x : Str} (h1 : okN x) (h2 : ∀ n ∈ ns, okN n) : ninD' (.str x) (.list (ns.map .str)) = some (.bool (!decide (x ∈ ns))) := by
  show (Option.map _ (if _ then _ else _)) = _
  rw [if_pos ⟨shaped_nm h1, shaped_nms h2⟩, any_nm]
  rfl
theorem enum_mem {xs : List D} {d : D} (h : d ∈ enumD xs) : ∃ (i : Nat) (x : D), i < xs.length ∧ d = .tuple [.int i, x] ∧ x ∈ xs := by
  unfold enumD at h
  obtain ⟨i, hi, rfl⟩ := List.mem_map.mp h
  rw [List.mem_range] at hi
  refine ⟨i, xs.getD i .none, hi, rfl, ?_⟩
  rw [List.getD_eq_getElem?_getD, List.getElem?_eq_getElem hi]
  exact List.getElem_mem hi
theorem semR_nx {k n : Nat} {g : Nv → Option SR} {ds : List D} {ρ' : Nv} (h : ds.length = k) (e : g (shs ds n) = some (.nx ρ')) (hk : k ≤ ρ'.length) : semR k n g ds = some (.ret .none false []) := by
  unfold semR
  rw [if_pos h, e]
  show (if _ then _ else _) = _
  rw [if_pos hk]
theorem seqS_is {g g' : Nv → Option SR} {ρ ρ' : Nv} (h : g ρ = some (.nx ρ')) : seqS g g' ρ = g' ρ' := by
  unfold seqS
  rw [h]
  rfl
theorem ifS_no {t : Nv → Option Bool} {g g' : Nv → Option SR} {ρ : Nv} (h : t ρ = some false) : ifS t g g' ρ = g' ρ := by
  unfold ifS
  rw [h]
  rfl
theorem ifS_yes {t : Nv → Option Bool} {g g' : Nv → Option SR} {ρ : Nv} (h : t ρ = some true) : ifS t g g' ρ = g ρ := by
  unfold ifS
  rw [h]
  rfl
theorem notT_is {f : Nv → Option D} {ρ : Nv} {b : Bool} (h : f ρ = some (.bool b)) : notT (fun ρ => (f ρ).bind truD) ρ = some (!b) := by
  unfold notT
  show Option.map _ ((f ρ).bind truD) = _
  rw [h]
  rfl
theorem only_is {rs : List Ru} (G : Good rs) : sem_need_only_rules [.list (rs.map Ru.d)] = some (.ret .none false []) := by
  unfold sem_need_only_rules g_need_only_rules
  obtain ⟨ρ', e, x, y, rfl⟩ : ∃ ρ', _ ∧ ∃ x y, ρ' = [some (Cell.sh (.list (rs.map Ru.d))), x, y] := forS_all (a := toTu 2 (toCons (toNm 1) (toCons (toNm 2) toNil)))
    (g := seqS (ifS (opT geD (nmW 1) (fun _ => some (.int 40)))
      (fun _ => none)
      (fun ρ => some (.nx ρ)))
    (ifS (notT (fun ρ => ((callS 1 sem_is_rule (cons2 (nmP 2) (fun _ => some []))) ρ).bind truD))
      (fun _ => none)
      (fun ρ => some (.nx ρ)))) (I := fun ρ => ∃ x y, ρ = [some (Cell.sh (.list (rs.map Ru.d))), x, y]) (enumD (rs.map Ru.d)) [some (Cell.sh (.list (rs.map Ru.d))), none, none] ⟨none, none, rfl⟩ (fun d hd ρ ⟨x, y, e⟩ => by
      subst e
      obtain ⟨i, z, hi, rfl, hz⟩ := enum_mem hd
      obtain ⟨r, hr, rfl⟩ := List.mem_map.mp hz
      rw [List.length_map] at hi
      have := G.le
      refine ⟨[some (Cell.sh (.list (rs.map Ru.d))), some (.sh (.int i)), some (.sh r.d)], [some (Cell.sh (.list (rs.map Ru.d))), some (.sh (.int i)), some (.sh r.d)], rfl, ?_, _, _, rfl⟩
      rw [seqS_is (ρ' := [some (Cell.sh (.list (rs.map Ru.d))), some (.sh (.int i)), some (.sh r.d)])]
      · rw [ifS_no]
        exact notT_is (b := true) (callS_is (cons2_is rfl rfl) rfl (Ru.rule (G.ok r hr)))
      · rw [ifS_no]
        refine opT_is (x := .int i) (y := .int 40) rfl rfl ?_
        show some (PyData.bool (decide ((40 : Int) ≤ i))) = _
        rw [decide_eq_false (by omega)])
  refine semR_nx (ρ' := [some (Cell.sh (.list (rs.map Ru.d))), x, y]) rfl ?_ (by show 1 ≤ 3; decide)
  rw [seqS_is (ρ' := [some (Cell.sh (.list (rs.map Ru.d))), none, none])]
  · exact e
  · rw [ifS_no]
    · rfl
    · refine opT_is (x := .int (rs.map Ru.d).length) (y := .int 0) rfl rfl ?_
      unfold eqD
      rw [if_pos ⟨shaped_int, shaped_int⟩, eqv_int, decide_eq_false (by rw [List.length_map]; have := G.ne; omega)]
theorem heads_ok {rs : List Ru} (G : Good rs) : ∀ n ∈ uniq (rs.map Ru.hd), okN n := fun n hn => by
  obtain ⟨r, hr, rfl⟩ := List.mem_map.mp (mem_uniq.mp hn)
  exact Ru.okhd (G.ok r hr)
theorem known_is {rs : List Ru} (G : Good rs) : sem_need_known_names [.list (rs.map Ru.d)] = some (.ret .none false []) := by
  have hn := names_is (rs := rs) (by have := G.le; omega)
  unfold sem_need_known_names g_need_known_names
  obtain ⟨ρ', e, x, y, z, rfl⟩ : ∃ ρ', _ ∧ ∃ x y z, ρ' = [some (Cell.sh (.list (rs.map Ru.d))), some (.sh (.list ((uniq (rs.map Ru.hd)).map .str))), x, y, z] := forS_all (a := toTu 2 (toCons (toNm 2) (toCons (toNm 3) toNil)))
    (g := ifS (fun ρ => ((callS 1 sem_is_fork_rule (cons2 (nmP 3) (fun _ => some []))) ρ).bind truD)
      (fun ρ => ((fun ρ => ((slS (nmW 3) (fun ρ => ((fun _ => some (.int 1)) ρ).bind fun x => (asI x).map some) (fun _ => some none)) ρ).bind asTu) ρ).bind fun ds => forS (toNm 4) (ifS (opT ninD' (nmW 4) (nmW 1))
      (fun _ => none)
      (fun ρ => some (.nx ρ))) ds ρ)
      (fun ρ => some (.nx ρ))) (I := fun ρ => ∃ x y z, ρ = [some (Cell.sh (.list (rs.map Ru.d))), some (.sh (.list ((uniq (rs.map Ru.hd)).map .str))), x, y, z]) (enumD (rs.map Ru.d)) [some (Cell.sh (.list (rs.map Ru.d))), some (.sh (.list ((uniq (rs.map Ru.hd)).map .str))), none, none, none] ⟨none, none, none, rfl⟩ (fun d hd ρ ⟨x, y, z, e⟩ => by
      subst e
      obtain ⟨i, w, hi, rfl, hw⟩ := enum_mem hd
      obtain ⟨r, hr, rfl⟩ := List.mem_map.mp hw
      have ef : callS 1 sem_is_fork_rule (cons2 (nmP 3) (fun _ => some [])) [some (Cell.sh (.list (rs.map Ru.d))), some (.sh (.list ((uniq (rs.map Ru.hd)).map .str))), some (.sh (.int i)), some (.sh r.d), z] = some (.bool r.isF) := callS_is (cons2_is rfl rfl) rfl (is_fork_is r)
      cases r with
      | leaf n s =>
        refine ⟨[some (Cell.sh (.list (rs.map Ru.d))), some (.sh (.list ((uniq (rs.map Ru.hd)).map .str))), some (.sh (.int i)), some (.sh (Ru.leaf n s).d), z], [some (Cell.sh (.list (rs.map Ru.d))), some (.sh (.list ((uniq (rs.map Ru.hd)).map .str))), some (.sh (.int i)), some (.sh (Ru.leaf n s).d), z], rfl, ?_, _, _, _, rfl⟩
        rw [ifS_no]
        show Option.bind _ _ = _
        rw [ef]
        rfl
      | fork n a b =>
        obtain ⟨ka, kb⟩ := G.known n a b hr
        have ho := G.ok _ hr
        have inn : ∀ q, q ∈ rs.map Ru.hd → okN q → (ifS (opT ninD' (nmW 4) (nmW 1)) (fun _ => none) (fun ρ => some (.nx ρ))) [some (Cell.sh (.list (rs.map Ru.d))), some (.sh (.list ((uniq (rs.map Ru.hd)).map .str))), some (.sh (.int i)), some (.sh (Ru.fork n a b).d), some (.sh (.str q))] = some (.nx [some (Cell.sh (.list (rs.map Ru.d))), some (.sh (.list ((uniq (rs.map Ru.hd)).map .str))), some (.sh (.int i)), some (.sh (Ru.fork n a b).d), some (.sh (.str q))]) := fun q hq hk => by
          rw [ifS_no]
          refine opT_is (x := .str q) (y := .list ((uniq (rs.map Ru.hd)).map .str)) rfl rfl ?_
          rw [nin_nm hk (heads_ok G), decide_eq_true (mem_uniq.mpr hq)]
          rfl
        refine ⟨[some (Cell.sh (.list (rs.map Ru.d))), some (.sh (.list ((uniq (rs.map Ru.hd)).map .str))), some (.sh (.int i)), some (.sh (Ru.fork n a b).d), z], [some (Cell.sh (.list (rs.map Ru.d))), some (.sh (.list ((uniq (rs.map Ru.hd)).map .str))), some (.sh (.int i)), some (.sh (Ru.fork n a b).d), some (.sh (.str b))], rfl, ?_, _, _, _, rfl⟩
        rw [ifS_yes]
        · show forS (toNm 4) _ [.str a, .str b] _ = _
          rw [forS]
          show Option.bind ((ifS _ _ _) [some (Cell.sh (.list (rs.map Ru.d))), some (.sh (.list ((uniq (rs.map Ru.hd)).map .str))), some (.sh (.int i)), some (.sh (Ru.fork n a b).d), some (.sh (.str a))]) _ = _
          rw [inn a ka ho.2.1]
          show forS (toNm 4) _ [.str b] [some (Cell.sh (.list (rs.map Ru.d))), some (.sh (.list ((uniq (rs.map Ru.hd)).map .str))), some (.sh (.int i)), some (.sh (Ru.fork n a b).d), some (.sh (.str a))] = _
          rw [forS]
          show Option.bind ((ifS _ _ _) [some (Cell.sh (.list (rs.map Ru.d))), some (.sh (.list ((uniq (rs.map Ru.hd)).map .str))), some (.sh (.int i)), some (.sh (Ru.fork n a b).d), some (.sh (.str b))]) _ = _
          rw [inn b kb ho.2.2]
          rfl
        · show Option.bind _ _ = _
          rw [ef]
          rfl)
  refine semR_nx (ρ' := [some (Cell.sh (.list (rs.map Ru.d))), some (.sh (.list ((uniq (rs.map Ru.hd)).map .str))), x, y, z]) rfl ?_ (by show 1 ≤ 5; decide)
  rw [seqS_is (ρ' := [some (Cell.sh (.list (rs.map Ru.d))), some (.sh (.list ((uniq (rs.map Ru.hd)).map .str))), none, none, none])]
  · exact e
  · exact setS_is (callS_is (cons2_is rfl rfl) rfl hn)
end MD

namespace MD
open PySem L2 DS
theorem ends_is {rs : List Ru} (G : Good rs) : sem_need_ends [.list (rs.map Ru.d)] = some (.ret .none false []) := by
  have hn := names_is (rs := rs) (by have := G.le; omega)
  obtain ⟨m, hm, I, S⟩ := lengths_is (rs := rs) G.le
  have al := all_in G S
  unfold sem_need_ends g_need_ends
  obtain ⟨ρ', e, x, rfl⟩ : ∃ ρ', _ ∧ ∃ x, ρ' = [some (Cell.sh (.list (rs.map Ru.d))), some (.sh (mD m)), x] := forS_all (a := toNm 2) (g := ifS (opT ninKD (nmW 2) (nmW 1))
      (fun _ => none)
      (fun ρ => some (.nx ρ))) (I := fun ρ => ∃ x, ρ = [some (Cell.sh (.list (rs.map Ru.d))), some (.sh (mD m)), x]) ((uniq (rs.map Ru.hd)).map .str) [some (Cell.sh (.list (rs.map Ru.d))), some (.sh (mD m)), none] ⟨none, rfl⟩ (fun d hd ρ ⟨x, e⟩ => by
      subst e
      obtain ⟨n, hn2, rfl⟩ := List.mem_map.mp hd
      obtain ⟨i, hi⟩ := al n (mem_uniq.mp hn2)
      refine ⟨[some (Cell.sh (.list (rs.map Ru.d))), some (.sh (mD m)), some (.sh (.str n))], [some (Cell.sh (.list (rs.map Ru.d))), some (.sh (mD m)), some (.sh (.str n))], rfl, ?_, _, rfl⟩
      rw [ifS_no]
      refine opT_is (x := .str n) (y := mD m) rfl rfl ?_
      rw [nin_is I.ok, hi]
      rfl)
  refine semR_nx (ρ' := [some (Cell.sh (.list (rs.map Ru.d))), some (.sh (mD m)), x]) rfl ?_ (by show 1 ≤ 3; decide)
  rw [seqS_is (ρ' := [some (Cell.sh (.list (rs.map Ru.d))), some (.sh (mD m)), none])]
  · have e2 : callS 1 sem_names_of (cons2 (nmP 0) (fun _ => some [])) [some (Cell.sh (.list (rs.map Ru.d))), some (.sh (mD m)), none] = some (.list ((uniq (rs.map Ru.hd)).map .str)) := callS_is (cons2_is rfl rfl) rfl hn
    show Option.bind (Option.bind (callS 1 _ _ _) asL) _ = _
    rw [e2]
    exact e
  · exact setS_is (callS_is (cons2_is rfl rfl) rfl hm)
theorem need_is {rs : List Ru} (G : Good rs) : sem_need_rules [.list (rs.map Ru.d)] = some (.ret (.list (rs.map Ru.d)) true []) := by
  unfold sem_need_rules g_need_rules
  refine semR_of rfl ?_
  have e1 : callS 1 sem_need_only_rules (cons2 (nmP 0) (fun _ => some [])) [some (Cell.sh (.list (rs.map Ru.d)))] = some .none := callS_is (cons2_is rfl rfl) rfl (only_is G)
  have e2 : callS 1 sem_need_known_names (cons2 (nmP 0) (fun _ => some [])) [some (Cell.sh (.list (rs.map Ru.d)))] = some .none := callS_is (cons2_is rfl rfl) rfl (known_is G)
  have e3 : callS 1 sem_need_ends (cons2 (nmP 0) (fun _ => some [])) [some (Cell.sh (.list (rs.map Ru.d)))] = some .none := callS_is (cons2_is rfl rfl) rfl (ends_is G)
  refine sq_nx (ρ' := [some (Cell.sh (.list (rs.map Ru.d)))]) (by show Option.map _ (callS 1 _ _ _) = _; rw [show shs [PyData.list (rs.map Ru.d)] 0 = [some (Cell.sh (.list (rs.map Ru.d)))] from rfl, e1]; rfl) ?_
  refine sq_nx (ρ' := [some (Cell.sh (.list (rs.map Ru.d)))]) (by show Option.map _ (callS 1 _ _ _) = _; rw [e2]; rfl) ?_
  refine sq_nx (ρ' := [some (Cell.sh (.list (rs.map Ru.d)))]) (by show Option.map _ (callS 1 _ _ _) = _; rw [e3]; rfl) ?_
  rfl
/-! ### shortest -/
end MD

namespace MD
open PySem L2 DS
/-! ## texts, leaves -/
def txt (cs : List Nat) : Str := ⟨cs.toArray⟩
theorem txt_list (cs : List Nat) : (txt cs).cps.toList = cs := rfl
theorem txt_len (cs : List Nat) : (txt cs).length = cs.length := rfl
theorem txt_of {t : Str} {cs : List Nat} (h : t.cps.toList = cs) : t = txt cs := str_ext h
def sc (s : Str) : Nat := s.cps.getD 0 0
def seg (cs : List Nat) (b e : Nat) : List Nat := (cs.drop b).take (e - b)
def lc (cs : List Nat) (s : Str) (b e : Nat) : Int := if b = e then 1 else if sc s ∈ seg cs b e then (e : Int) - b - 1 else (e : Int) - b
theorem cut_txt {cs : List Nat} {b e : Nat} (hb : b ≤ e) (he : e ≤ cs.length) : cutS (txt cs) (some (b : Nat)) (some (e : Nat)) = txt (seg cs b e) := by
  unfold cutS
  rw [HT.sIx_nat, HT.sIx_nat, txt_len, txt_list]
  have h1 : min b cs.length = b := by omega
  have h2 : min e cs.length = e := by omega
  rw [h1, h2]
  rfl
theorem slS_txt {cs : List Nat} {b e : Nat} (hb : b ≤ e) (he : e ≤ cs.length) (hl : cs.length ≤ 1000) {fa fb fe : Nv → Option D} {ρ : Nv} (h1 : fa ρ = some (.str (txt cs))) (h2 : fb ρ = some (.int (b : Nat))) (h3 : fe ρ = some (.int (e : Nat))) :
    slS fa (fun ρ => (fb ρ).bind fun x => (asI x).map some) (fun ρ => (fe ρ).bind fun x => (asI x).map some) ρ = some (.str (txt (seg cs b e))) := by
  unfold slS
  dsimp only
  rw [h1, h2, h3]
  show (if (txt cs).length ≤ 100000 then some (PyData.str (cutS (txt cs) (some (b : Nat)) (some (e : Nat)))) else none) = _
  rw [if_pos (by rw [txt_len]; omega), cut_txt hb he]
theorem in_txt {s : Str} (hs : s.length = 1) (cs : List Nat) : inD' (.str s) (.str (txt cs)) = some (.bool (decide (sc s ∈ cs))) := by
  unfold inD' inD
  dsimp only
  rw [if_pos hs]
  rfl
theorem eqT_int {f g : Nv → Option D} {ρ : Nv} {i j : Nat} (h1 : f ρ = some (.int (i : Nat))) (h2 : g ρ = some (.int (j : Nat))) : opT eqD f g ρ = some (decide (i = j)) := by
  refine opT_is h1 h2 ?_
  rw [eqD_int]
  have : ((i : Int) = (j : Int)) ↔ i = j := by omega
  simp only [this]
theorem leaf_cost_is {s : Str} (hs : s.length = 1) {cs : List Nat} {b e : Nat} (hb : b ≤ e) (he : e ≤ cs.length) (hl : cs.length ≤ 1000) :
    sem_leaf_cost [.str s, .str (txt cs), .int (b : Nat), .int (e : Nat)] = some (.ret (.int (lc cs s b e)) false []) := by
  unfold sem_leaf_cost g_leaf_cost
  refine sem_eq rfl ?_
  refine rs_if (b := decide (b = e)) (eqT_int rfl rfl) (fun hq => ?_) fun hq => ?_
  · refine run_ret (d := .int 1) rfl (thn_rt (ret_ok (Nat.le_of_ble_eq_true rfl) ?_))
    unfold lc
    rw [if_pos (of_decide_eq_true hq)]
  · have hne := of_decide_eq_false hq
    refine rs_if (b := decide (sc s ∈ seg cs b e)) (opT_is rfl (slS_txt hb he hl rfl rfl rfl) (in_txt hs _)) (fun hq => ?_) fun hq => ?_
    · refine run_ret (d := .int ((e : Int) - b - 1)) rfl (thn_rt (ret_ok (Nat.le_of_ble_eq_true rfl) ?_))
      unfold lc
      rw [if_neg hne, if_pos (of_decide_eq_true hq)]
    · refine run_ret (d := .int ((e : Int) - b)) rfl (ret_ok (Nat.le_of_ble_eq_true rfl) ?_)
      unfold lc
      rw [if_neg hne, if_neg (of_decide_eq_false hq)]
/-- the first place that has it -/
def firstIn (c : Nat) : List Nat → Option Nat
  | [] => none
  | x :: r => if x = c then some 0 else (firstIn c r).map (· + 1)
def keptAt (cs : List Nat) (s : Str) (b e : Nat) : Option Nat := if b = e then none else some (b + ((firstIn (sc s) (seg cs b e)).getD 0))
theorem firstIn_none {c : Nat} : ∀ {l : List Nat}, firstIn c l = none ↔ c ∉ l
  | [] => by simp [firstIn]
  | x :: r => by
    unfold firstIn
    by_cases h : x = c
    · simp [h]
    · rw [if_neg h, Option.map_eq_none_iff, firstIn_none]
      simp [Ne.symm h]
theorem firstIn_some {c : Nat} : ∀ {l : List Nat} {k : Nat}, firstIn c l = some k ↔ l[k]? = some c ∧ ∀ j, j < k → l[j]? ≠ some c
  | [], k => by simp [firstIn]
  | x :: r, k => by
    unfold firstIn
    by_cases h : x = c
    · rw [if_pos h]
      constructor
      · intro e
        cases e
        exact ⟨by rw [h]; rfl, fun j hj => absurd hj (Nat.not_lt_zero _)⟩
      · intro ⟨h1, h2⟩
        cases k with
        | zero => rfl
        | succ k => exact absurd (by rw [h]; rfl) (h2 0 (Nat.succ_pos _))
    · rw [if_neg h]
      constructor
      · intro e
        obtain ⟨k', h1, rfl⟩ := Option.map_eq_some_iff.mp e
        obtain ⟨h2, h3⟩ := firstIn_some.mp h1
        refine ⟨h2, fun j hj => ?_⟩
        cases j with
        | zero => intro z; exact h (Option.some.inj z)
        | succ j => exact h3 j (Nat.lt_of_succ_lt_succ hj)
      · intro ⟨h1, h2⟩
        cases k with
        | zero => exact absurd (Option.some.inj h1) h
        | succ k =>
          have : firstIn c r = some k := firstIn_some.mpr ⟨h1, fun j hj => h2 (j + 1) (Nat.succ_lt_succ hj)⟩
          rw [this]
          rfl
theorem find_txt {s : Str} (hs : s.length = 1) (l : List Nat) : Txt.find (txt l) s = match firstIn (sc s) l with
    | some k => ((k : Nat) : Int)
    | none => -1 := by
  have es : s = (⟨#[sc s]⟩ : Str) := by
    obtain ⟨⟨z⟩⟩ := s
    match z, hs with
    | [c], _ => rfl
  have at_ : ∀ i, StrLaws.At (txt l) s (txt l).length i ↔ l[i]? = some (sc s) := fun i => by
    have := StrLaws.subAt_one (txt l) (sc s) i
    rw [← es] at this
    exact this
  rcases PyProof.Rows.find_whole (txt l) s with ⟨h1, h2⟩ | ⟨i, h1, h2, h3⟩
  · have : firstIn (sc s) l = none := by
      rw [firstIn_none]
      intro hm
      obtain ⟨i, hi⟩ := List.mem_iff_getElem?.mp hm
      exact h2 i ((at_ i).mpr hi)
    rw [this, h1]
  · have : firstIn (sc s) l = some i := firstIn_some.mpr ⟨(at_ i).mp h2, fun j hj hz => h3 j hj ((at_ j).mpr hz)⟩
    rw [this, h1]
def natO : Option Nat → D
  | none => .none
  | some k => .int (k : Nat)
theorem kept_is {s : Str} (hs : s.length = 1) {cs : List Nat} {b e : Nat} (hb : b ≤ e) (he : e ≤ cs.length) (hl : cs.length ≤ 1000) :
    sem_kept_place [.str s, .str (txt cs), .int (b : Nat), .int (e : Nat)] = some (.ret (natO (keptAt cs s b e)) false []) := by
  unfold sem_kept_place g_kept_place
  refine sem_eq rfl ?_
  refine rs_if (b := decide (b = e)) (eqT_int rfl rfl) (fun hq => ?_) fun hq => ?_
  · refine run_ret (d := .none) rfl (thn_rt (ret_ok (Nat.le_of_ble_eq_true rfl) ?_))
    unfold keptAt
    rw [if_pos (of_decide_eq_true hq)]
    rfl
  · refine rs_set (d := .int (Txt.find (txt (seg cs b e)) s)) (op2_is (slS_txt hb he hl rfl rfl rfl) rfl rfl) ?_
    refine run_ret (d := .int ((b : Int) + (if (0 : Int) > Txt.find (txt (seg cs b e)) s then 0 else Txt.find (txt (seg cs b e)) s))) rfl (ret_ok (Nat.le_of_ble_eq_true rfl) ?_)
    unfold keptAt
    rw [if_neg (of_decide_eq_false hq), find_txt hs]
    cases firstIn (sc s) (seg cs b e) with
    | none => rfl
    | some k =>
      show PyData.int _ = PyData.int _
      dsimp only
      rw [if_neg (show ¬ (0 : Int) > (k : Nat) by omega)]
      rfl
end MD

namespace MD
open PySem L2 DS
/-! ## names with costs from nought on -/
def OkZ (m : M) : Prop := ∀ p ∈ m, ∃ n i, p = ((.inr n, V.int i) : Key × V) ∧ 0 ≤ i
theorem OkZ.flat {m : M} (h : OkZ m) : (m.all fun p => flat p.2) = true := by
  rw [List.all_eq_true]
  intro p hp
  obtain ⟨n, i, rfl, _⟩ := h p hp
  rfl
theorem OkZ.val {m : M} (h : OkZ m) {n : Str} {v : V} (e : valV m (.inr n) = some v) : ∃ i, v = .int i ∧ 0 ≤ i ∧ look m n = some i := by
  have e0 := e
  unfold valV at e
  obtain ⟨p, h1, rfl⟩ := Option.map_eq_some_iff.mp e
  obtain ⟨n', i, rfl, hi⟩ := h p (List.mem_of_find?_eq_some h1)
  refine ⟨i, rfl, hi, ?_⟩
  unfold look
  rw [e0]
theorem OkZ.look_none {m : M} (h : OkZ m) {n : Str} : look m n = none ↔ valV m (.inr n) = none := by
  constructor
  · intro hl
    cases e : valV m (.inr n) with
    | none => rfl
    | some v =>
      obtain ⟨i, _, _, e2⟩ := h.val e
      rw [hl] at e2
      cases e2
  · intro hv
    unfold look
    rw [hv]
theorem OkZ.isSome {m : M} (h : OkZ m) (n : Str) : (valV m (.inr n)).isSome = (look m n).isSome := by
  cases e : valV m (.inr n) with
  | none =>
    rw [h.look_none.mpr e]
    rfl
  | some v =>
    obtain ⟨i, _, _, e2⟩ := h.val e
    rw [e2]
    rfl
theorem OkZ.pos {m : M} (h : OkZ m) {n : Str} {i : Int} (e : look m n = some i) : 0 ≤ i := by
  obtain ⟨j, e1, e2, e3⟩ := h.val (look_some e)
  cases e1
  exact e2
theorem in_isZ {m : M} (h : OkZ m) (n : Str) : inKD (.str n) (mD m) = some (.bool (look m n).isSome) := by
  show ((decK (m.map enK)).map fun kvs => PyData.bool _) = _
  rw [decK_en h.flat, ← h.isSome]
  rfl
theorem nin_isZ {m : M} (h : OkZ m) (n : Str) : ninKD (.str n) (mD m) = some (.bool (!(look m n).isSome)) := by
  show ((decK (m.map enK)).map fun kvs => PyData.bool _) = _
  rw [decK_en h.flat, ← h.isSome]
  rfl
theorem get_isZ {m : M} (h : OkZ m) {n : Str} {i : Int} (e : look m n = some i) : getKD (mD m) (.str n) = some (.int i) := by
  show (decK (m.map enK)).bind _ = _
  rw [decK_en h.flat]
  show (valV m (.inr n)).map sD = _
  rw [look_some e]
  rfl
theorem keep_noZ {m : M} (h : OkZ m) {n : Str} {i c : Int} (e : look m n = some i) (hc : i ≤ c) : sem_keep_lesser [mD m, .str n, .int c] = some (.ret (.bool false) false [mD m]) := by
  refine semM_is rfl fun vs hv hio => ?_
  match vs, hv, hio with
  | [.ref a, v1, v2], _, _ =>
    unfold runD g_keep_lesser
    refine sq_rt (d := .bool false) (o := false) (ρ' := [some (Cell.io a (mD m)), some (.sh (.str n)), some (.sh (.int c))]) ?_ (by simp [finD, outsOf])
    have ta : opT inKD (nmW 1) (nmW 0) [some (Cell.io a (mD m)), some (.sh (.str n)), some (.sh (.int c))] = some true := by
      refine opT_is rfl rfl ?_
      show inKD (.str n) (mD m) = _
      rw [in_isZ h n, e]
      rfl
    have tb : opT leD (op2 getKD (nmW 0) (nmW 1)) (nmW 2) [some (Cell.io a (mD m)), some (.sh (.str n)), some (.sh (.int c))] = some true := by
      refine opT_is (op2_is rfl rfl (get_isZ h e)) rfl ?_
      show some (PyData.bool (decide (i ≤ c))) = _
      rw [decide_eq_true hc]
    show ifS _ _ _ [some (Cell.io a (mD m)), some (.sh (.str n)), some (.sh (.int c))] = _
    unfold ifS andT
    rw [ta, Option.bind_some, if_pos rfl, tb]
    rfl
theorem keep_yesZ {m : M} (h : OkZ m) {n : Str} {c : Int} (hl : m.length < 100000) (hc : ∀ i, look m n = some i → ¬ i ≤ c) : sem_keep_lesser [mD m, .str n, .int c] = some (.ret (.bool true) false [mD (putK m (.inr n) (.int c))]) := by
  refine semM_is rfl fun vs hv hio => ?_
  match vs, hv, hio with
  | [.ref a, v1, v2], _, _ =>
    unfold runD g_keep_lesser
    have ta : opT inKD (nmW 1) (nmW 0) [some (Cell.io a (mD m)), some (.sh (.str n)), some (.sh (.int c))] = some (look m n).isSome := opT_is rfl rfl (in_isZ h n)
    refine sq_nx (ρ' := [some (Cell.io a (mD m)), some (.sh (.str n)), some (.sh (.int c))]) ?_ ?_
    · show ifS _ _ _ [some (Cell.io a (mD m)), some (.sh (.str n)), some (.sh (.int c))] = _
      unfold ifS andT
      rw [ta]
      cases e : look m n with
      | none => rfl
      | some i =>
        have tb : opT leD (op2 getKD (nmW 0) (nmW 1)) (nmW 2) [some (Cell.io a (mD m)), some (.sh (.str n)), some (.sh (.int c))] = some false := by
          refine opT_is (op2_is rfl rfl (get_isZ h e)) rfl ?_
          show some (PyData.bool (decide (i ≤ c))) = _
          rw [decide_eq_false (hc i e)]
        show Option.bind (opT leD (op2 getKD (nmW 0) (nmW 1)) (nmW 2) [some (Cell.io a (mD m)), some (.sh (.str n)), some (.sh (.int c))]) _ = _
        rw [tb]
        rfl
    · refine sq_nx (ρ' := [some (Cell.io a (mD (putK m (.inr n) (.int c)))), some (.sh (.str n)), some (.sh (.int c))]) ?_ (by simp [finD, outsOf])
      have pd : putD (.str n) (.int c) (mD m) = some (mD (putK m (.inr n) (.int c))) := by
        show (decK (m.map enK)).bind _ = _
        rw [decK_en h.flat]
        show (if m.length < 100000 then _ else _) = _
        rw [if_pos hl]
        rfl
      show mutS 0 (putD (.str n) (.int c)) [some (Cell.io a (mD m)), some (.sh (.str n)), some (.sh (.int c))] = _
      unfold mutS
      show (if true = true then (putD (.str n) (.int c) (mD m)).map _ else _) = _
      rw [if_pos rfl, pd]
      rfl
theorem OkM.z {m : M} (h : OkM m) : OkZ m := fun p hp => by
  obtain ⟨n, i, e, q⟩ := h p hp
  exact ⟨n, i, e, by omega⟩
theorem OkZ.put {m : M} (h : OkZ m) {n : Str} {c : Int} (hc : 0 ≤ c) : OkZ (putK m (.inr n) (.int c)) := fun q hq => by
  unfold putK at hq
  split at hq
  · obtain ⟨q0, hq0, rfl⟩ := List.mem_map.mp hq
    split
    · rename_i e
      exact ⟨n, c, by rw [e], hc⟩
    · exact h _ hq0
  · rcases List.mem_append.mp hq with hq | hq
    · exact h _ hq
    · rcases List.mem_cons.mp hq with rfl | hq
      · exact ⟨n, c, rfl, hc⟩
      · cases hq
/-- what a rule comes to, by what is known -/
abbrev Rel := M → Ru → Int → Prop
structure InvG (R : Rel) (rs : List Ru) (m : M) : Prop where
  ok : OkZ m
  nd : (m.map (·.1)).Nodup
  by_ : ∀ n i, look m n = some i → ∃ r ∈ rs, r.hd = n ∧ ∃ c, R m r c ∧ c ≤ i
  len : m.length + missing rs m ≤ rs.length
def LeM (m' m : M) : Prop := ∀ k i, look m k = some i → ∃ j, look m' k = some j ∧ j ≤ i
theorem LeM.refl (m : M) : LeM m m := fun k i h => ⟨i, h, Int.le_refl _⟩
theorem LeM.trans {a b c : M} (h1 : LeM a b) (h2 : LeM b c) : LeM a c := fun k i h => by
  obtain ⟨j, g1, g2⟩ := h2 k i h
  obtain ⟨l, g3, g4⟩ := h1 k j g1
  exact ⟨l, g3, by omega⟩
def Mono (R : Rel) : Prop := ∀ m m' r c, LeM m' m → R m r c → ∃ c', R m' r c' ∧ c' ≤ c
def Has (m : M) (r : Ru) (c : Int) : Prop := ∃ i, look m r.hd = some i ∧ i ≤ c
theorem Has.le {m m' : M} {r : Ru} {c : Int} (h : Has m r c) (l : LeM m' m) : Has m' r c := by
  obtain ⟨i, h1, h2⟩ := h
  obtain ⟨j, g1, g2⟩ := l _ _ h1
  exact ⟨j, g1, by omega⟩
theorem put_stepG {R : Rel} (hR : Mono R) {rs : List Ru} {m : M} (I : InvG R rs m) {r : Ru} (hr : r ∈ rs) {c : Int} (e : R m r c) (h0 : 0 ≤ c) (hc : ∀ i, look m r.hd = some i → ¬ i ≤ c) :
    InvG R rs (putK m (.inr r.hd) (.int c)) ∧ LtM rs (putK m (.inr r.hd) (.int c)) m ∧ LeM (putK m (.inr r.hd) (.int c)) m := by
  have le : LeM (putK m (.inr r.hd) (.int c)) m := fun k i h => by
    rw [look_put]
    by_cases hk : k = r.hd
    · subst hk
      rw [if_pos rfl]
      exact ⟨c, rfl, by have := hc i h; omega⟩
    · rw [if_neg hk]
      exact ⟨i, h, Int.le_refl _⟩
  have by2 : ∀ n j, look (putK m (.inr r.hd) (.int c)) n = some j → ∃ r' ∈ rs, r'.hd = n ∧ ∃ c', R (putK m (.inr r.hd) (.int c)) r' c' ∧ c' ≤ j := fun n j h => by
    rw [look_put] at h
    by_cases hn : n = r.hd
    · subst hn
      rw [if_pos rfl] at h
      cases h
      obtain ⟨c', g1, g2⟩ := hR _ _ _ _ le e
      exact ⟨r, hr, rfl, c', g1, g2⟩
    · rw [if_neg hn] at h
      obtain ⟨r', h1, h2, c', h3, h4⟩ := I.by_ n j h
      obtain ⟨c2, g1, g2⟩ := hR _ _ _ _ le h3
      exact ⟨r', h1, h2, c2, g1, by omega⟩
  have mono : ∀ x ∈ rs, (look (putK m (.inr r.hd) (.int c)) x.hd).isNone = true → (look m x.hd).isNone = true := fun x _ h => by
    cases q : look m x.hd with
    | none => rfl
    | some i =>
      obtain ⟨j, h1, _⟩ := le _ _ q
      rw [h1] at h
      cases h
  have mle : missing rs (putK m (.inr r.hd) (.int c)) ≤ missing rs m := filt_le rs mono
  cases q : look m r.hd with
  | none =>
    have mlt : missing rs (putK m (.inr r.hd) (.int c)) < missing rs m := filt_lt rs mono ⟨r, hr, by rw [q]; rfl, by rw [look_put, if_pos rfl]; exact Bool.false_ne_true⟩
    refine ⟨⟨I.ok.put h0, nd_put I.nd, by2, ?_⟩, .inl mlt, le⟩
    have h1 := length_putK m (.inr r.hd) (V.int c)
    have := I.len
    omega
  | some i =>
    have hi := hc i q
    have ipos := I.ok.pos q
    refine ⟨⟨I.ok.put h0, nd_put I.nd, by2, ?_⟩, ?_, le⟩
    · have hl : (putK m (.inr r.hd) (.int c)).length = m.length := by
        unfold putK
        rw [valV_any, look_some q]
        exact List.length_map _
      have := I.len
      omega
    · have meq : missing rs (putK m (.inr r.hd) (.int c)) = missing rs m := by
        refine Nat.le_antisymm mle (filt_le rs fun x _ h => ?_)
        rw [look_put]
        by_cases hx : x.hd = r.hd
        · rw [hx, q] at h
          cases h
        · rw [if_neg hx]
          exact h
      refine .inr ⟨meq, sum_lt rs (fun x _ => ?_) ⟨r, hr, ?_⟩⟩
      · rw [look_put]
        by_cases hx : x.hd = r.hd
        · rw [if_pos hx, hx, q]
          show c.toNat ≤ i.toNat
          omega
        · rw [if_neg hx]
          exact Nat.le_refl _
      · rw [look_put, if_pos rfl, q]
        show c.toNat < i.toNat
        omega
theorem inv_nilG (R : Rel) (rs : List Ru) : InvG R rs [] := by
  refine ⟨fun _ h => (by cases h), List.nodup_nil, fun n i h => (by cases h), ?_⟩
  show 0 + (rs.filter _).length ≤ _
  have := List.length_filter_le (fun r => (look [] r.hd).isNone) rs
  omega
/-! ## edges -/
def val (m : M) (n : Str) : Int := (look m n).getD 0
def edges (lm m : M) : Ru → List Int
  | .leaf _ _ => []
  | .fork _ a d => (match look m d with | some j => [val lm a + j] | none => []) ++ (match look m a with | some i => [i + val lm d] | none => [])
theorem edges_mono {lm m m' : M} (l : LeM m' m) {r : Ru} {c : Int} (h : c ∈ edges lm m r) : ∃ c', c' ∈ edges lm m' r ∧ c' ≤ c := by
  cases r with
  | leaf n s => cases h
  | fork n a d =>
    rcases List.mem_append.mp h with h | h
    · cases q : look m d with
      | none =>
        rw [q] at h
        cases h
      | some j =>
        rw [q] at h
        rcases List.mem_singleton.mp h with rfl
        obtain ⟨j', g1, g2⟩ := l d j q
        refine ⟨val lm a + j', ?_, by omega⟩
        show _ ∈ _ ++ _
        rw [g1]
        exact List.mem_append_left _ (List.mem_singleton.mpr rfl)
    · cases q : look m a with
      | none =>
        rw [q] at h
        cases h
      | some j =>
        rw [q] at h
        rcases List.mem_singleton.mp h with rfl
        obtain ⟨j', g1, g2⟩ := l a j q
        refine ⟨j' + val lm d, ?_, by omega⟩
        show _ ∈ _ ++ _
        rw [g1]
        exact List.mem_append_right _ (List.mem_singleton.mpr rfl)

theorem mD_val {lm : M} {n : Str} (h : ∃ i, look lm n = some i) : look lm n = some (val lm n) := by
  obtain ⟨i, h⟩ := h
  unfold val
  rw [h]
  rfl
theorem intsD_of : ∀ ns : List Int, intsD (ns.map .int) = some ns
  | [] => rfl
  | n :: r => by
    show (intsD (r.map PyData.int)).map _ = _
    rw [intsD_of r]
    rfl
theorem minDD_of (ns : List Int) : minDD (.list (ns.map .int)) .none = some (optD (leastD ns)) := by
  show (intsD (ns.map PyData.int)).map _ = _
  rw [intsD_of]
  rw [Option.map_some]
  unfold optD
  cases leastD ns <;> rfl
theorem edge_is {lm m : M} (hl : OkZ lm) (hm : OkZ m) (r : Ru) (hk : ∀ n a d, r = .fork n a d → (∃ i, look lm a = some i) ∧ ∃ i, look lm d = some i) :
    sem_edge_cost [r.d, mD lm, mD m] = some (.ret (optD (leastD (edges lm m r))) false []) := by
  unfold sem_edge_cost g_edge_cost
  refine sem_eq rfl ?_
  refine rs_if (b := !r.isF) (notT_of (trT_of (callS_is (cons2_is rfl rfl) rfl (is_fork_is r)) rfl)) (fun hq => ?_) fun hq => ?_
  · refine run_ret (d := .none) rfl (thn_rt (ret_ok (Nat.le_of_ble_eq_true rfl) ?_))
    cases r with
    | leaf n s => rfl
    | fork n a d => cases hq
  · cases r with
    | leaf n s => cases hq
    | fork n a d =>
      obtain ⟨ha, hd⟩ := hk n a d rfl
      refine rs_asg (d := (Ru.fork n a d).d) (ρ' := [some (.sh (Ru.fork n a d).d), some (.sh (mD lm)), some (.sh (mD m)), some (.sh (.str n)), some (.sh (.str a)), some (.sh (.str d)), none]) rfl rfl ?_
      refine rs_setN (d := .list []) rfl ?_
      have fin : ∀ ns : List Int, Run ((op2 minDD (nmW 6) (fun _ => some .none) [some (.sh (Ru.fork n a d).d), some (.sh (mD lm)), some (.sh (mD m)), some (.sh (.str n)), some (.sh (.str a)), some (.sh (.str d)), some (.ow (.list (ns.map .int)))]).map fun x => SR.rt x false [some (.sh (Ru.fork n a d).d), some (.sh (mD lm)), some (.sh (mD m)), some (.sh (.str n)), some (.sh (.str a)), some (.sh (.str d)), some (.ow (.list (ns.map .int)))]) (Ret 3 false (· = optD (leastD ns))) := fun ns =>
        run_ret (op2_is rfl rfl (minDD_of ns)) (ret_ok (Nat.le_of_ble_eq_true rfl) rfl)
      have va := get_isZ hl (mD_val ha)
      have vd := get_isZ hl (mD_val hd)
      cases qd : look m d with
      | none =>
        refine rs_if (b := false) (opT_is rfl rfl (show inKD (.str d) (mD m) = _ by rw [in_isZ hm d, qd]; rfl)) (fun z => by cases z) fun _ => ?_
        cases qa : look m a with
        | none =>
          refine rs_if (b := false) (opT_is rfl rfl (show inKD (.str a) (mD m) = _ by rw [in_isZ hm a, qa]; rfl)) (fun z => by cases z) fun _ => ?_
          have : edges lm m (.fork n a d) = [] := by
            show _ ++ _ = _
            rw [qd, qa]
            rfl
          rw [this]
          exact fin []
        | some i =>
          refine rs_if (b := true) (opT_is rfl rfl (show inKD (.str a) (mD m) = _ by rw [in_isZ hm a, qa]; rfl)) (fun _ => ?_) fun z => by cases z
          refine run_app (c := .ow (.list [])) (xs := []) (d := .int (i + val lm d)) (op2_is (op2_is rfl rfl (get_isZ hm qa)) (op2_is rfl rfl vd) rfl) rfl rfl rfl (by decide) ?_
          have : edges lm m (.fork n a d) = [i + val lm d] := by
            show _ ++ _ = _
            rw [qd, qa]
            rfl
          rw [this]
          exact fin [i + val lm d]
      | some j =>
        refine rs_if (b := true) (opT_is rfl rfl (show inKD (.str d) (mD m) = _ by rw [in_isZ hm d, qd]; rfl)) (fun _ => ?_) fun z => by cases z
        refine run_app (c := .ow (.list [])) (xs := []) (d := .int (val lm a + j)) (op2_is (op2_is rfl rfl va) (op2_is rfl rfl (get_isZ hm qd)) rfl) rfl rfl rfl (by decide) ?_
        show Run (seqS _ _ _) _
        cases qa : look m a with
        | none =>
          refine rs_if (b := false) (opT_is rfl rfl (show inKD (.str a) (mD m) = _ by rw [in_isZ hm a, qa]; rfl)) (fun z => by cases z) fun _ => ?_
          have : edges lm m (.fork n a d) = [val lm a + j] := by
            show _ ++ _ = _
            rw [qd, qa]
            rfl
          rw [this]
          exact fin [val lm a + j]
        | some i =>
          refine rs_if (b := true) (opT_is rfl rfl (show inKD (.str a) (mD m) = _ by rw [in_isZ hm a, qa]; rfl)) (fun _ => ?_) fun z => by cases z
          refine run_app (c := .ow (.list [.int (val lm a + j)])) (xs := [.int (val lm a + j)]) (d := .int (i + val lm d)) (op2_is (op2_is rfl rfl (get_isZ hm qa)) (op2_is rfl rfl vd) rfl) rfl rfl rfl (Nat.le_of_ble_eq_true rfl) ?_
          have : edges lm m (.fork n a d) = [val lm a + j, i + val lm d] := by
            show _ ++ _ = _
            rw [qd, qa]
            rfl
          rw [this]
          exact fin [val lm a + j, i + val lm d]
end MD

namespace MD
open PySem L2 DS
/-! ## the costs inside, and lowered by edges -/
def R0 (base : Ru → Option Int) : Rel := fun _ r c => base r = some c
def RS (base : Ru → Option Int) (lm : M) : Rel := fun m r c => base r = some c ∨ c ∈ edges lm m r
theorem mono0 (base : Ru → Option Int) : Mono (R0 base) := fun _ _ _ c _ h => ⟨c, h, Int.le_refl _⟩
theorem monoS (base : Ru → Option Int) (lm : M) : Mono (RS base lm) := fun _ _ _ c l h => by
  rcases h with h | h
  · exact ⟨c, .inl h, Int.le_refl _⟩
  · obtain ⟨c', g1, g2⟩ := edges_mono l h
    exact ⟨c', .inr g1, g2⟩
theorem run_X {k j : Nat} {sem : List D → Option Ou} {fr : Nv → Option (List D)} {ρ ρ' : Nv} {d : D} {φ : SR → Prop} (h : callX k j sem fr ρ = some (d, ρ')) (q : φ (.nx ρ')) : Run ((fun ρ => (callX k j sem fr ρ).map fun r => .nx r.2) ρ) φ := ⟨_, by show (callX k j sem fr ρ).map _ = _; rw [h]; rfl, q⟩
theorem isnt_optD (o : Option Int) : isntD (optD o) .none = some (.bool o.isSome) := by cases o <;> rfl
theorem inside_costs_is {rs : List Ru} (hl : rs.length ≤ 40) {t tb b e : D} {base : Ru → Option Int} (hb : ∀ r ∈ rs, sem_inside_cost [r.d, t, tb, b, e] = some (.ret (optD (base r)) false [])) (h0 : ∀ r ∈ rs, ∀ c, base r = some c → 0 ≤ c) :
    ∃ m, sem_inside_costs [.list (rs.map Ru.d), t, tb, b, e] = some (.ret (mD m) true []) ∧ InvG (R0 base) rs m ∧ ∀ r ∈ rs, ∀ c, base r = some c → Has m r c := by
  have key := sem_of (o := true) (ψ := fun d => ∃ m, d = mD m ∧ InvG (R0 base) rs m ∧ ∀ r ∈ rs, ∀ c, base r = some c → Has m r c) (ds := [.list (rs.map Ru.d), t, tb, b, e]) (k := 5) (m := 3) (g := g_inside_costs) rfl ?_
  · obtain ⟨d, h1, m, rfl, h2, h3⟩ := key
    exact ⟨m, h1, h2, h3⟩
  unfold g_inside_costs
  refine rs_setN (d := .dict []) rfl ?_
  refine rs_forOf rs Ru.d (fun ys ρ => ∃ m x6 x7, ρ = [some (.sh (.list (rs.map Ru.d))), some (.sh t), some (.sh tb), some (.sh b), some (.sh e), some (.ow (mD m)), x6, x7] ∧ InvG (R0 base) rs m ∧ ∀ r ∈ ys, ∀ c, base r = some c → Has m r c) rfl ⟨[], none, none, rfl, inv_nilG _ _, fun _ h => by cases h⟩ ?_ ?_
  · rintro ys r rest ρ hxs ⟨m, x6, x7, rfl, I, low⟩
    have hr : r ∈ rs := by rw [hxs]; exact List.mem_append_right _ List.mem_cons_self
    refine ⟨_, rfl, rs_set (d := optD (base r)) (callS_of (cons2_is rfl (cons2_is rfl (cons2_is rfl (cons2_is rfl (cons2_is rfl rfl))))) (hb r hr)) ?_⟩
    have hlm : m.length < 100000 := by
      have := I.len
      omega
    refine run_if (b := (base r).isSome) (opT_is rfl rfl (isnt_optD _)) (fun hq => ?_) fun hq => ?_
    · obtain ⟨c, hc⟩ := Option.isSome_iff_exists.mp hq
      rw [hc]
      have fr : (fun ρ => (nmM 5 ρ).bind fun d => ((cons2 (op2 ixD (nmW 6) (fun _ => some (.int 0))) (cons2 (nmP 7) (fun _ => some []))) ρ).bind fun ds => if ds.length = 2 then some (d :: ds) else none) [some (.sh (.list (rs.map Ru.d))), some (.sh t), some (.sh tb), some (.sh b), some (.sh e), some (.ow (mD m)), some (.sh r.d), some (.sh (.int c))] = some [mD m, .str r.hd, .int c] := by
        have e2 : cons2 (op2 ixD (nmW 6) (fun _ => some (.int 0))) (cons2 (nmP 7) (fun _ => some [])) [some (.sh (.list (rs.map Ru.d))), some (.sh t), some (.sh tb), some (.sh b), some (.sh e), some (.ow (mD m)), some (.sh r.d), some (.sh (.int c))] = some [.str r.hd, .int c] := cons2_is (ix0 r) rfl
        show Option.bind (some (mD m)) _ = _
        show Option.bind (cons2 _ _ _) _ = _
        rw [e2]
        rfl
      by_cases hk : Has m r c
      · obtain ⟨i, h1, h2⟩ := hk
        refine run_X (callX_is (c := .ow (mD m)) fr rfl (keep_noZ I.ok h1 h2) rfl rfl) ⟨m, _, _, rfl, I, fun r' hr' c' hc' => ?_⟩
        rcases List.mem_append.mp hr' with hr' | hr'
        · exact low r' hr' c' hc'
        · rcases List.mem_singleton.mp hr' with rfl
          rw [hc] at hc'
          cases hc'
          exact ⟨i, h1, h2⟩
      · obtain ⟨I', _, le⟩ := put_stepG (mono0 base) I hr hc (h0 r hr c hc) fun i h1 h2 => hk ⟨i, h1, h2⟩
        refine run_X (callX_is (c := .ow (mD m)) fr rfl (keep_yesZ I.ok hlm fun i h1 h2 => hk ⟨i, h1, h2⟩) rfl rfl) ⟨putK m (.inr r.hd) (.int c), _, _, rfl, I', fun r' hr' c' hc' => ?_⟩
        rcases List.mem_append.mp hr' with hr' | hr'
        · exact (low r' hr' c' hc').le le
        · rcases List.mem_singleton.mp hr' with rfl
          rw [hc] at hc'
          cases hc'
          exact ⟨c, by rw [look_put, if_pos rfl], Int.le_refl _⟩
    · refine run_nx ⟨m, _, _, rfl, I, fun r' hr' c' hc' => ?_⟩
      rcases List.mem_append.mp hr' with hr' | hr'
      · exact low r' hr' c' hc'
      · rcases List.mem_singleton.mp hr' with rfl
        rw [hc'] at hq
        cases hq
  · rintro ρ ⟨m, x6, x7, rfl, I, low⟩
    exact run_retNm (d := mD m) (o := true) rfl (ret_ok (Nat.le_of_ble_eq_true rfl) ⟨m, rfl, I, low⟩)
/-! ### settling -/
theorem leastD_none {ns : List Int} (h : leastD ns = none) : ns = [] := by
  cases ns with
  | nil => rfl
  | cons a r => cases h
noncomputable def bodyS : Nv → Option SR := (seqS (setS 5 (callF 3 sem_edge_cost (cons2 (nmW 4) (cons2 (nmW 1) (cons2 (nmW 2) (fun _ => some []))))))
    (ifX (andX (opT isntD (nmW 5) (fun _ => some .none)) (fun ρ => ((callX 3 2 sem_keep_lesser (fun ρ => (nmM 2 ρ).bind fun d => ((cons2 (op2 ixD (nmW 4) (fun _ => some (.int 0))) (cons2 (nmP 5) (fun _ => some []))) ρ).bind fun ds => if ds.length = 2 then some (d :: ds) else none)) ρ).bind fun r => (truD r.1).map fun k => (k, r.2)))
      (setS 3 (fun _ => some (.bool true)))
      (fun ρ => some (.nx ρ))))
def stS (rs : List Ru) (lm : M) (a : Addr) (m : M) (l : Bool) (x y : Option Cell) : Nv := [some (.sh (.list (rs.map Ru.d))), some (.sh (mD lm)), some (.io a (mD m)), some (.sh (.bool l)), x, y]
def StabS (lm m : M) (r : Ru) : Prop := ∀ c, c ∈ edges lm m r → Has m r c
/-- what is known of the lengths, and of the least costs -/
structure Lens (rs : List Ru) (lm : M) : Prop where
  ok : OkM lm
  all : ∀ n a d, Ru.fork n a d ∈ rs → (∃ i, look lm a = some i) ∧ ∃ i, look lm d = some i
structure InvS (base : Ru → Option Int) (lm : M) (rs : List Ru) (m : M) : Prop extends InvG (RS base lm) rs m where
  low : ∀ r ∈ rs, ∀ c, base r = some c → Has m r c
theorem val_pos {lm : M} (h : OkM lm) {n : Str} (hn : ∃ i, look lm n = some i) : 1 ≤ val lm n := h.pos (mD_val hn)
theorem edges_pos {rs : List Ru} {lm m : M} (L : Lens rs lm) (h : OkZ m) {r : Ru} (hr : r ∈ rs) {c : Int} (hc : c ∈ edges lm m r) : 1 ≤ c := by
  cases r with
  | leaf n s => cases hc
  | fork n a d =>
    obtain ⟨la, ld⟩ := L.all n a d hr
    have va := val_pos L.ok la
    have vd := val_pos L.ok ld
    rcases List.mem_append.mp hc with hc | hc
    · cases q : look m d with
      | none =>
        rw [q] at hc
        cases hc
      | some j =>
        rw [q] at hc
        rcases List.mem_singleton.mp hc with rfl
        have := h.pos q
        omega
    · cases q : look m a with
      | none =>
        rw [q] at hc
        cases hc
      | some j =>
        rw [q] at hc
        rcases List.mem_singleton.mp hc with rfl
        have := h.pos q
        omega
theorem bodyS_is {rs : List Ru} {lm : M} (L : Lens rs lm) {base : Ru → Option Int} {m : M} (I : InvS base lm rs m) (hl : rs.length ≤ 40) {r : Ru} (hr : r ∈ rs) (l : Bool) (y : Option Cell) :
    ∃ m' l' y', (∀ a, bodyS (stS rs lm a m l (some (.sh r.d)) y) = some (.nx (stS rs lm a m' l' (some (.sh r.d)) y'))) ∧ InvS base lm rs m' ∧ ((m' = m ∧ l' = l ∧ StabS lm m r) ∨ (l' = true ∧ LtM rs m' m)) := by
  have hkn : ∀ n a d, r = .fork n a d → (∃ i, look lm a = some i) ∧ ∃ i, look lm d = some i := fun n a d e => L.all n a d (e ▸ hr)
  have e1 : ∀ a, callF 3 sem_edge_cost (cons2 (nmW 4) (cons2 (nmW 1) (cons2 (nmW 2) (fun _ => some [])))) (stS rs lm a m l (some (.sh r.d)) y) = some (optD (leastD (edges lm m r))) := by
    exact fun a => callF_is (cons2_is rfl (cons2_is rfl (cons2_is rfl rfl))) rfl (edge_is L.ok.z I.ok r hkn) (by cases leastD (edges lm m r) <;> rfl)
  have bd : ∀ a, bodyS (stS rs lm a m l (some (.sh r.d)) y) = (ifX (andX (opT isntD (nmW 5) (fun _ => some .none)) (fun ρ => ((callX 3 2 sem_keep_lesser (fun ρ => (nmM 2 ρ).bind fun d => ((cons2 (op2 ixD (nmW 4) (fun _ => some (.int 0))) (cons2 (nmP 5) (fun _ => some []))) ρ).bind fun ds => if ds.length = 2 then some (d :: ds) else none)) ρ).bind fun r => (truD r.1).map fun k => (k, r.2)))
      (setS 3 (fun _ => some (.bool true)))
      (fun ρ => some (.nx ρ))) (stS rs lm a m l (some (.sh r.d)) (some (.sh (optD (leastD (edges lm m r)))))) := by
    intro a
    unfold bodyS seqS
    rw [setS_is (e1 a)]
    rfl
  cases q : leastD (edges lm m r) with
  | none =>
    refine ⟨m, l, _, fun a => (by rw [bd, q]; rfl), I, .inl ⟨rfl, rfl, fun c h => by rw [leastD_none q] at h; cases h⟩⟩
  | some c =>
    obtain ⟨hmem, hmin⟩ := leastD_is q
    have hlm : m.length < 100000 := by
      have := I.len
      omega
    have fr : ∀ a, (fun ρ => (nmM 2 ρ).bind fun d => ((cons2 (op2 ixD (nmW 4) (fun _ => some (.int 0))) (cons2 (nmP 5) (fun _ => some []))) ρ).bind fun ds => if ds.length = 2 then some (d :: ds) else none) (stS rs lm a m l (some (.sh r.d)) (some (.sh (.int c)))) = some [mD m, .str r.hd, .int c] := by
      intro a
      have e2 : cons2 (op2 ixD (nmW 4) (fun _ => some (.int 0))) (cons2 (nmP 5) (fun _ => some [])) (stS rs lm a m l (some (.sh r.d)) (some (.sh (.int c)))) = some [.str r.hd, .int c] := cons2_is (ix0 r) rfl
      show Option.bind (some (mD m)) _ = _
      show Option.bind (cons2 _ _ _) _ = _
      rw [e2]
      rfl
    by_cases hk : Has m r c
    · obtain ⟨i, h1, h2⟩ := hk
      have ek : ∀ a, callX 3 2 sem_keep_lesser (fun ρ => (nmM 2 ρ).bind fun d => ((cons2 (op2 ixD (nmW 4) (fun _ => some (.int 0))) (cons2 (nmP 5) (fun _ => some []))) ρ).bind fun ds => if ds.length = 2 then some (d :: ds) else none) (stS rs lm a m l (some (.sh r.d)) (some (.sh (.int c)))) = some (.bool false, stS rs lm a m l (some (.sh r.d)) (some (.sh (.int c)))) := by
        exact fun a => callX_is (c := .io a (mD m)) (fr a) rfl (keep_noZ I.ok h1 h2) rfl rfl
      refine ⟨m, l, some (.sh (.int c)), ?_, I, .inl ⟨rfl, rfl, fun c' h => ?_⟩⟩
      · intro a
        rw [bd, q]
        show ifX _ _ _ (stS rs lm a m l (some (.sh r.d)) (some (.sh (.int c)))) = _
        unfold ifX andX
        show Option.bind (Option.bind (callX 3 2 _ _ _) _) _ = _
        rw [ek]
        rfl
      · have := hmin c' h
        exact ⟨i, h1, by omega⟩
    · have hk' : ∀ i, look m r.hd = some i → ¬ i ≤ c := fun i h1 h2 => hk ⟨i, h1, h2⟩
      have ek : ∀ a, callX 3 2 sem_keep_lesser (fun ρ => (nmM 2 ρ).bind fun d => ((cons2 (op2 ixD (nmW 4) (fun _ => some (.int 0))) (cons2 (nmP 5) (fun _ => some []))) ρ).bind fun ds => if ds.length = 2 then some (d :: ds) else none) (stS rs lm a m l (some (.sh r.d)) (some (.sh (.int c)))) = some (.bool true, stS rs lm a (putK m (.inr r.hd) (.int c)) l (some (.sh r.d)) (some (.sh (.int c)))) := by
        exact fun a => callX_is (c := .io a (mD m)) (fr a) rfl (keep_yesZ I.ok hlm hk') rfl rfl
      obtain ⟨I', lt, le⟩ := put_stepG (monoS base lm) I.toInvG hr (.inr hmem) (by have := edges_pos L I.ok hr hmem; omega) hk'
      refine ⟨putK m (.inr r.hd) (.int c), true, some (.sh (.int c)), ?_, ⟨I', fun r' hr' c' hc' => (I.low r' hr' c' hc').le le⟩, .inr ⟨rfl, lt⟩⟩
      intro a
      rw [bd, q]
      show ifX _ _ _ (stS rs lm a m l (some (.sh r.d)) (some (.sh (.int c)))) = _
      unfold ifX andX
      show Option.bind (Option.bind (callX 3 2 _ _ _) _) _ = _
      rw [ek]
      rfl
theorem passS_is {rs : List Ru} {lm : M} (L : Lens rs lm) {base : Ru → Option Int} (hl : rs.length ≤ 40) : ∀ (rs2 : List Ru), (∀ r ∈ rs2, r ∈ rs) → ∀ (m : M) (l : Bool) (x y : Option Cell), InvS base lm rs m →
    ∃ m' l' x' y', (∀ a, forS (toNm 4) bodyS (rs2.map Ru.d) (stS rs lm a m l x y) = some (.nx (stS rs lm a m' l' x' y'))) ∧ InvS base lm rs m' ∧ ((m' = m ∧ l' = l ∧ ∀ r ∈ rs2, StabS lm m r) ∨ (l' = true ∧ LtM rs m' m))
  | [], _, m, l, x, y, I => ⟨m, l, x, y, fun _ => rfl, I, .inl ⟨rfl, rfl, fun _ h => by cases h⟩⟩
  | r :: r2, hs, m, l, x, y, I => by
    obtain ⟨m1, l1, y1, e1, I1, h1⟩ := bodyS_is L I hl (hs r List.mem_cons_self) l y
    obtain ⟨m2, l2, x2, y2, e2, I2, h2⟩ := passS_is L hl r2 (fun z hz => hs z (List.mem_cons_of_mem _ hz)) m1 l1 (some (.sh r.d)) y1 I1
    refine ⟨m2, l2, x2, y2, ?_, I2, ?_⟩
    · intro a
      rw [List.map_cons, forS]
      show Option.bind (bodyS (stS rs lm a m l (some (.sh r.d)) y)) _ = _
      rw [e1]
      exact e2 a
    · rcases h1 with ⟨rfl, rfl, s1⟩ | ⟨rfl, lt1⟩
      · rcases h2 with ⟨rfl, rfl, s2⟩ | ⟨rfl, lt2⟩
        · refine .inl ⟨rfl, rfl, fun z hz => ?_⟩
          rcases List.mem_cons.mp hz with rfl | hz
          · exact s1
          · exact s2 z hz
        · exact .inr ⟨rfl, lt2⟩
      · rcases h2 with ⟨rfl, rfl, s2⟩ | ⟨rfl, lt2⟩
        · exact .inr ⟨rfl, lt1⟩
        · exact .inr ⟨rfl, lt2.trans lt1⟩
noncomputable def turnS : Nv → Option SR := (seqS (setS 3 (fun _ => some (.bool false)))
    (fun ρ => ((fun ρ => ((nmP 0) ρ).bind asL) ρ).bind fun ds => forS (toNm 4) bodyS ds ρ))
theorem loopS_is {rs : List Ru} {lm : M} (L : Lens rs lm) {base : Ru → Option Int} (hl : rs.length ≤ 40) : ∀ (a b : Nat) (m : M) (x y : Option Cell), missing rs m = a → sumR rs m = b → InvS base lm rs m →
    ∃ n m' l' x' y', (∀ ad, whileS (fun ρ => ((nmW 3) ρ).bind truD) turnS n (stS rs lm ad m true x y) = some (.nx (stS rs lm ad m' l' x' y'))) ∧ InvS base lm rs m' ∧ ∀ r ∈ rs, StabS lm m' r := by
  intro a
  induction a using Nat.strongRecOn with
  | _ a iha =>
    intro b
    induction b using Nat.strongRecOn with
    | _ b ihb =>
      intro m x y ha hb I
      obtain ⟨m1, l1, x1, y1, e1, I1, h1⟩ := passS_is L hl rs (fun _ h => h) m false x y I
      have et : ∀ ad, turnS (stS rs lm ad m true x y) = some (.nx (stS rs lm ad m1 l1 x1 y1)) := fun ad => e1 ad
      rcases h1 with ⟨rfl, rfl, s1⟩ | ⟨rfl, lt⟩
      · refine ⟨2, m1, false, x1, y1, ?_, I1, s1⟩
        intro ad
        rw [whileS]
        show Option.bind (turnS _) _ = _
        rw [et]
        rfl
      · have step : ∀ {n : Nat} {z : Addr → SR}, (∀ ad, whileS (fun ρ => ((nmW 3) ρ).bind truD) turnS n (stS rs lm ad m1 true x1 y1) = some (z ad)) → ∀ ad, whileS (fun ρ => ((nmW 3) ρ).bind truD) turnS (n + 1) (stS rs lm ad m true x y) = some (z ad) := fun {n z} h ad => by
          rw [whileS]
          show Option.bind (turnS _) _ = _
          rw [et]
          exact h ad
        rcases lt with lt | ⟨eq, lt⟩
        · obtain ⟨n, m2, l2, x2, y2, e2, I2, s2⟩ := iha _ (by omega) _ m1 x1 y1 rfl rfl I1
          exact ⟨n + 1, m2, l2, x2, y2, step e2, I2, s2⟩
        · obtain ⟨n, m2, l2, x2, y2, e2, I2, s2⟩ := ihb _ (by omega) m1 x1 y1 (by omega) rfl I1
          exact ⟨n + 1, m2, l2, x2, y2, step e2, I2, s2⟩
/-- what it comes to does not hang on the address: the least costs, settled -/
theorem settle_is {rs : List Ru} {lm : M} (L : Lens rs lm) {base : Ru → Option Int} (hl : rs.length ≤ 40) {m : M} (I : InvS base lm rs m) :
    ∃ m', sem_settle [.list (rs.map Ru.d), mD lm, mD m] = some (.ret .none false [mD m']) ∧ InvS base lm rs m' ∧ ∀ r ∈ rs, StabS lm m' r := by
  obtain ⟨n, m', l, x, y, e, I', s⟩ := loopS_is L hl _ _ m none none rfl rfl I
  refine ⟨m', ?_, I', s⟩
  refine semM_is rfl fun vs hv hio => ?_
  match vs, hv, hio with
  | [v0, v1, .ref a], _, _ =>
    unfold runD g_settle
    refine sq_nx (ρ' := stS rs lm a m true none none) rfl ?_
    show Option.bind (whileC _ turnS _) _ = _
    rw [whileC_is (e a)]
    simp [finD, outsOf, stS]
end MD

namespace MD
open PySem L2 DS
/-! ## good texts -/
theorem bind_of {α β : Type} {x : Option α} {f : α → Option β} {a : α} {r : Option β} (h : x = some a) (e : f a = r) : x.bind f = r := by
  rw [h]
  exact e
theorem rng1_nat {n : Nat} (h : n ≤ 1000) : rng1 [.int (n : Nat)] = some ((List.range n).map fun i => .int (i : Nat)) := by
  have hb : (-(2 ^ 62) : Int) ≤ (n : Nat) ∧ ((n : Nat) : Int) < 2 ^ 62 := by constructor <;> omega
  unfold rng1
  dsimp only
  rw [if_pos hb]
  unfold rngD
  rw [show ((n : Int)).toNat = n from by omega]
  refine congrArg some (List.map_congr_left fun k _ => ?_)
  show PyData.int _ = PyData.int _
  rw [Int.zero_add]
theorem rng2_nat {a n : Nat} (h : a ≤ n) (h2 : n ≤ 1000) : rng2 [.int (a : Nat), .int (n : Nat)] = some ((List.range (n - a)).map fun i => .int ((a + i : Nat) : Int)) := by
  have hb : ((-(2 ^ 62) : Int) ≤ (a : Nat) ∧ ((a : Nat) : Int) < 2 ^ 62) ∧ (-(2 ^ 62) : Int) ≤ (n : Nat) ∧ ((n : Nat) : Int) < 2 ^ 62 := by constructor <;> constructor <;> omega
  unfold rng2
  dsimp only
  rw [if_pos hb]
  unfold rngD
  rw [show ((n : Int) - (a : Int)).toNat = n - a from by omega]
  refine congrArg some (List.map_congr_left fun k _ => ?_)
  show PyData.int _ = PyData.int _
  rw [Int.natCast_add]
theorem need_text_is {cs : List Nat} (hl : cs.length ≤ 40) (hs : ∀ c ∈ cs, sgB c = true) : sem_need_text [.str (txt cs)] = some (.ret (.str (txt cs)) false []) := by
  unfold sem_need_text g_need_text
  refine sem_eq rfl ?_
  refine rs_if (b := false) rfl (fun z => by cases z) fun _ => ?_
  refine rs_if (b := false) (opT_is (x := .int (cs.length : Nat)) (y := .int 40) ?_ rfl ?_) (fun z => by cases z) fun _ => ?_
  · show (if (txt cs).length ≤ 100000 then some (PyData.int (txt cs).length) else none) = _
    rw [if_pos (by rw [txt_len]; omega), txt_len]
  · show some (PyData.bool (decide ((cs.length : Int) > 40))) = _
    rw [decide_eq_false (by omega)]
  refine rs_for (fun _ ρ => ∃ x y, ρ = [some (.sh (.str (txt cs))), x, y]) rfl ⟨none, none, rfl⟩ ?_ ?_
  · rintro j d ρ hd ⟨x, y, rfl⟩
    obtain ⟨i, v, _, rfl, hv⟩ := enum_mem (List.mem_of_getElem? hd)
    obtain ⟨c, hc, rfl⟩ := List.mem_map.mp hv
    have hc' : sgB c = true := hs c hc
    have h1 : okD (.str ⟨#[c]⟩) := ok_sg (by
      show (decide ((⟨#[c]⟩ : Str).length = 1) && sgB ((#[c] : Array Nat).getD 0 0)) = true
      exact hc')
    refine ⟨_, rfl, ?_⟩
    refine run_if (b := !true) (notT_of (trT_of (callS_of (cons2_is rfl rfl) (is_sign_is h1)) ?_)) (fun z => by cases z) fun _ => run_nx ⟨_, _, rfl⟩
    show some (decide ((⟨#[c]⟩ : Str).length = 1) && sgB ((#[c] : Array Nat).getD 0 0)) = _
    exact congrArg some hc'
  · rintro ρ ⟨x, y, rfl⟩
    exact run_ret (d := .str (txt cs)) rfl (ret_ok (Nat.le_of_ble_eq_true rfl) rfl)
/-! ## the table -/
def ky (n : Str) (b e : Nat) : List Key := [.inr n, .inl (b : Int), .inl (e : Int)]
abbrev TB := List (List Key × D)
def tbD (T : TB) : D := .dict (T.map enTD)
def ct (T : TB) (n : Str) (b e : Nat) : Int := match lookD T (ky n b e) with
  | some (.int c) => c
  | _ => 0
theorem ky_inj {n n' : Str} {b e b' e' : Nat} (h : ky n b e = ky n' b' e') : n = n' ∧ b = b' ∧ e = e' := by
  unfold ky at h
  injection h with h1 h2
  injection h2 with h3 h4
  injection h4 with h5 _
  injection h1 with h1
  injection h3 with h3
  injection h5 with h5
  exact ⟨h1, by omega, by omega⟩
theorem get_ky (T : TB) (k : List Key) : getTD (tbD T) k = lookD T k := by
  show (decT (T.map enTD)).bind _ = _
  rw [decT_en]
  rfl
theorem keys_ky {f1 f2 f3 : Nv → Option D} {ρ : Nv} {n : Str} {b e : Nat} (h1 : f1 ρ = some (.str n)) (h2 : f2 ρ = some (.int (b : Nat))) (h3 : f3 ρ = some (.int (e : Nat))) :
    keysV (cons2 f1 (cons2 f2 (cons2 f3 (fun _ => some [])))) ρ = some (ky n b e) := by
  unfold keysV
  rw [cons2_is h1 (cons2_is h2 (cons2_is h3 rfl))]
  rfl
theorem getT_of {fd : Nv → Option D} {fk : Nv → Option (List Key)} {ρ : Nv} {T : TB} {k : List Key} {d : D} (h1 : fd ρ = some (tbD T)) (h2 : fk ρ = some k) (h3 : lookD T k = some d) :
    ((fd ρ).bind fun d => (fk ρ).bind fun ks => getTD d ks) = some d := by
  rw [h1, h2]
  show getTD (tbD T) k = _
  rw [get_ky, h3]
theorem lookD_cons (p : List Key × D) (r : TB) (k : List Key) : lookD (p :: r) k = if p.1 = k then some p.2 else lookD r k := by
  unfold lookD
  by_cases h : p.1 = k
  · rw [List.find?_cons_of_pos (by simpa using h), if_pos h]
    rfl
  · rw [List.find?_cons_of_neg (by simpa using h), if_neg h]
theorem lookD_app : ∀ (T U : TB) (k : List Key), lookD (T ++ U) k = (lookD T k).or (lookD U k)
  | [], U, k => rfl
  | p :: r, U, k => by
    rw [List.cons_append, lookD_cons, lookD_cons, lookD_app r U k]
    split <;> rfl
theorem lookD_none {T : TB} {k : List Key} : lookD T k = none ↔ ∀ p ∈ T, p.1 ≠ k := by
  unfold lookD
  rw [Option.map_eq_none_iff, List.find?_eq_none]
  constructor
  · intro h p hp
    simpa using h p hp
  · intro h p hp
    simpa using h p hp
theorem lookD_mem {T : TB} {k : List Key} {d : D} (h : lookD T k = some d) : (k, d) ∈ T := by
  unfold lookD at h
  obtain ⟨p, h1, rfl⟩ := Option.map_eq_some_iff.mp h
  have h2 := List.find?_some h1
  have h3 : p.1 = k := by simpa using h2
  subst h3
  exact List.mem_of_find?_eq_some h1
theorem put_new {T : TB} {k : List Key} {d : D} (h : ∀ p ∈ T, p.1 ≠ k) : putKD T k d = T ++ [(k, d)] := by
  unfold putKD
  rw [if_neg]
  intro z
  obtain ⟨p, hp, q⟩ := List.any_eq_true.mp z
  exact h p hp (by simpa using q)
def entD (T : TB) (m : M) (b e : Nat) : TB := m.foldl (fun T p => putKD T [p.1, .inl (b : Int), .inl (e : Int)] (sD p.2)) T
theorem ent_app {b e : Nat} : ∀ (m : M) (T : TB), (m.map (·.1)).Nodup → (∀ p ∈ m, ∀ q ∈ T, q.1 ≠ [p.1, .inl (b : Int), .inl (e : Int)]) →
    entD T m b e = T ++ m.map fun p => ([p.1, .inl (b : Int), .inl (e : Int)], sD p.2)
  | [], T, _, _ => by simp [entD]
  | p :: r, T, nd, h => by
    have nd' := List.nodup_cons.mp nd
    have ih := ent_app r (T ++ [([p.1, .inl (b : Int), .inl (e : Int)], sD p.2)]) nd'.2 (fun p' hp' q hq => by
      rcases List.mem_append.mp hq with hq | hq
      · exact h p' (List.mem_cons_of_mem _ hp') q hq
      · rcases List.mem_singleton.mp hq with rfl
        intro z
        injection z with z _
        exact nd'.1 (List.mem_map.mpr ⟨p', hp', z.symm⟩))
    show entD (putKD T _ _) r b e = _
    rw [put_new (h p List.mem_cons_self), ih, List.map_cons, List.append_assoc]
    rfl
theorem put_len (T : TB) (k : List Key) (d : D) : (putKD T k d).length ≤ T.length + 1 := by
  unfold putKD
  split
  · rw [List.length_map]
    omega
  · rw [List.length_append]
    exact Nat.le_refl _
theorem putTD_is {T : TB} {k : List Key} {v : D} (h : T.length < 100000) : putTD k v (tbD T) = some (tbD (putKD T k v)) := by
  show (decT (T.map enTD)).bind _ = _
  rw [decT_en]
  show (if _ then _ else _) = _
  rw [if_pos h]
  rfl
theorem putTS_of {i : Nat} {fk : Nv → Option (List Key)} {fv : Nv → Option D} {ρ : Nv} {T : TB} {k : List Key} {v : D} {c : Cell} (h1 : fk ρ = some k) (h2 : fv ρ = some v) (hc : ρ[i]? = some (some c)) (hm : c.mine = true) (hg : c.got = tbD T) (hl : T.length < 100000) :
    putTS i fk fv ρ = some (.nx (ρ.set i (some (c.put (tbD (putKD T k v)))))) := by
  unfold putTS
  rw [h2, Option.bind_some, h1, Option.bind_some]
  unfold mutS
  rw [hc]
  show (if _ then _ else _) = _
  rw [if_pos hm, hg, putTD_is hl]
  rfl
theorem enter_loop {a : Addr} {md : D} {b e : Nat} : ∀ (m : M) (T : TB) (x y : Option Cell), OkZ m → T.length + m.length ≤ 100000 →
    ∃ x' y', forS (toTu 2 (toCons (toNm 4) (toCons (toNm 5) toNil))) (putTS 0 (keysV (cons2 (nmP 4) (cons2 (nmP 2) (cons2 (nmP 3) (fun _ => some []))))) (nmP 5)) (itemsD m)
      [some (.io a (tbD T)), some (.sh md), some (.sh (.int (b : Nat))), some (.sh (.int (e : Nat))), x, y] = some (.nx [some (.io a (tbD (entD T m b e))), some (.sh md), some (.sh (.int (b : Nat))), some (.sh (.int (e : Nat))), x', y'])
  | [], T, x, y, _, _ => ⟨x, y, rfl⟩
  | p :: r, T, x, y, ok, hl => by
    obtain ⟨n, i, rfl, _⟩ := ok p List.mem_cons_self
    rw [List.length_cons] at hl
    have hl2 := put_len T (ky n b e) (.int i)
    obtain ⟨x', y', ih⟩ := enter_loop r (putKD T (ky n b e) (.int i)) (some (.sh (.str n))) (some (.sh (.int i))) (fun q hq => ok q (List.mem_cons_of_mem _ hq)) (by omega)
    refine ⟨x', y', ?_⟩
    show forS _ _ (PyData.tuple [.str n, .int i] :: itemsD r) _ = _
    rw [forS]
    show Option.bind (putTS 0 _ _ [some (.io a (tbD T)), some (.sh md), some (.sh (.int (b : Nat))), some (.sh (.int (e : Nat))), some (.sh (.str n)), some (.sh (.int i))]) _ = _
    have e1 := putTS_of (i := 0) (ρ := [some (.io a (tbD T)), some (.sh md), some (.sh (.int (b : Nat))), some (.sh (.int (e : Nat))), some (.sh (.str n)), some (.sh (.int i))]) (c := .io a (tbD T)) (keys_ky (f1 := nmP 4) (f2 := nmP 2) (f3 := nmP 3) rfl rfl rfl) (show nmP 5 _ = some (.int i) from rfl) rfl rfl rfl (show T.length < 100000 by omega)
    rw [e1]
    exact ih
theorem enter_is {m : M} {T : TB} {b e : Nat} (ok : OkZ m) (hl : T.length + m.length ≤ 100000) : sem_enter [tbD T, mD m, .int (b : Nat), .int (e : Nat)] = some (.ret .none false [tbD (entD T m b e)]) := by
  refine semM_is rfl fun vs hv hio => ?_
  match vs, hv, hio with
  | [.ref a, v1, v2, v3], _, _ =>
    unfold runD g_enter
    obtain ⟨x, y, h⟩ := enter_loop (a := a) (md := mD m) (b := b) (e := e) m T none none ok hl
    show Option.bind (itemsS 1 _ _ [some (.io a (tbD T)), some (.sh (mD m)), some (.sh (.int (b : Nat))), some (.sh (.int (e : Nat))), none, none]) _ = _
    unfold itemsS
    show Option.bind ((decK (m.map enK)).bind _) _ = _
    rw [decK_en ok.flat]
    show Option.bind (Option.bind (forS _ _ (itemsD m) _) noExc) _ = _
    rw [h]
    simp [noExc, finD, outsOf]
/-! ## the costs inside -/
def inC (cs : List Nat) (C : Str → Nat → Nat → Int) (b e : Nat) : Ru → Option Int
  | .leaf _ s => some (lc cs s b e)
  | .fork _ x y => leastD ((List.range (e - (b + 1))).map fun k => C x b (b + 1 + k) + C y (b + 1 + k) e)
theorem inside_is {cs : List Nat} {T : TB} {b e : Nat} (hb : b < e) (he : e ≤ cs.length) (hl : cs.length ≤ 1000) {r : Ru} (hs : ∀ n s, r = .leaf n s → s.length = 1)
    (hT : ∀ n x y, r = .fork n x y → ∀ p, b < p → p < e → (∃ c, lookD T (ky x b p) = some (.int c)) ∧ ∃ c, lookD T (ky y p e) = some (.int c)) :
    sem_inside_cost [r.d, .str (txt cs), tbD T, .int (b : Nat), .int (e : Nat)] = some (.ret (optD (inC cs (ct T) b e r)) false []) := by
  unfold sem_inside_cost g_inside_cost
  refine sem_eq rfl ?_
  refine rs_if (b := !r.isF) (notT_of (trT_of (callS_is (cons2_is rfl rfl) rfl (is_fork_is r)) rfl)) (fun hq => ?_) fun hq => ?_
  · cases r with
    | fork n x y => cases hq
    | leaf n s =>
      exact run_ret (callS_of (cons2_is (op2_is rfl rfl rfl) (cons2_is rfl (cons2_is rfl (cons2_is rfl rfl)))) (leaf_cost_is (hs n s rfl) (Nat.le_of_lt hb) he hl)) (thn_rt (ret_ok (Nat.le_of_ble_eq_true rfl) rfl))
  · cases r with
    | leaf n s => cases hq
    | fork n x y =>
      refine rs_asg (d := (Ru.fork n x y).d) (ρ' := [some (.sh (Ru.fork n x y).d), some (.sh (.str (txt cs))), some (.sh (tbD T)), some (.sh (.int (b : Nat))), some (.sh (.int (e : Nat))), some (.sh (.str n)), some (.sh (.str x)), some (.sh (.str y)), none]) rfl rfl ?_
      have h1 : ∀ k ∈ List.range (e - (b + 1)), lookD T (ky x b (b + 1 + k)) = some (.int (ct T x b (b + 1 + k))) ∧ lookD T (ky y (b + 1 + k) e) = some (.int (ct T y (b + 1 + k) e)) := fun k hk => by
        have := List.mem_range.mp hk
        obtain ⟨⟨c1, q1⟩, c2, q2⟩ := hT n x y rfl (b + 1 + k) (by omega) (by omega)
        unfold ct
        rw [q1, q2]
        exact ⟨rfl, rfl⟩
      refine run_ret (op2_is (lcV_to (List.range (e - (b + 1))) (fun k => .int ((b + 1 + k : Nat) : Int)) (fun k => .int (ct T x b (b + 1 + k) + ct T y (b + 1 + k) e)) ?_ rfl (by rw [List.length_range]; omega) fun k hk => ?_) rfl (?_ : minDD _ _ = some (optD (inC cs (ct T) b e (.fork n x y))))) (ret_ok (Nat.le_of_ble_eq_true rfl) rfl)
      · exact bind_of (cons2_is (op2_is rfl rfl rfl) (cons2_is rfl rfl)) (rng2_nat (a := b + 1) (n := e) (by omega) (by omega))
      · obtain ⟨q1, q2⟩ := h1 k hk
        exact op2_is (getT_of rfl (keys_ky rfl rfl rfl) q1) (getT_of rfl (keys_ky rfl rfl rfl) q2) rfl
      · rw [show (List.range (e - (b + 1))).map (fun k => PyData.int (ct T x b (b + 1 + k) + ct T y (b + 1 + k) e)) = ((List.range (e - (b + 1))).map fun k => ct T x b (b + 1 + k) + ct T y (b + 1 + k) e).map .int from by rw [List.map_map]; rfl]
        exact minDD_of _
end MD

namespace MD
open PySem L2 DS
/-! ## the whole table -/
abbrev CF := Str → Nat → Nat → Int
/-- what a rule may come to over a stretch -/
def opt (cs : List Nat) (C : CF) : Ru → Nat → Nat → Int → Prop
  | .leaf _ s, b, e, c => c = lc cs s b e
  | .fork _ x y, b, e, c => ∃ p, b ≤ p ∧ p ≤ e ∧ c = C x b p + C y p e
structure CI (rs : List Ru) (cs : List Nat) (Dn : Nat → Nat → Prop) (T : TB) : Prop where
  keys : ∀ p ∈ T, ∃ n b e c, n ∈ rs.map Ru.hd ∧ Dn b e ∧ p = (ky n b e, PyData.int c)
  all : ∀ n ∈ rs.map Ru.hd, ∀ b e, Dn b e → lookD T (ky n b e) = some (.int (ct T n b e))
  nd : (T.map (·.1)).Nodup
  nn : ∀ n ∈ rs.map Ru.hd, ∀ b e, Dn b e → 0 ≤ ct T n b e
  low : ∀ r ∈ rs, ∀ b e, Dn b e → ∀ c, opt cs (ct T) r b e c → ct T r.hd b e ≤ c
  att : ∀ n ∈ rs.map Ru.hd, ∀ b e, Dn b e → ∃ r ∈ rs, r.hd = n ∧ opt cs (ct T) r b e (ct T n b e)
def Closed (Dn : Nat → Nat → Prop) : Prop := ∀ b e p, Dn b e → b ≤ p → p ≤ e → Dn b p ∧ Dn p e
theorem look_row {m : M} (ok : OkZ m) (n : Str) (b e : Nat) : lookD (m.map fun p => ([p.1, .inl (b : Int), .inl (e : Int)], sD p.2)) (ky n b e) = (look m n).map .int := by
  induction m with
  | nil => rfl
  | cons p r ih =>
    obtain ⟨n', i, rfl, _⟩ := ok p List.mem_cons_self
    have ih := ih fun q hq => ok q (List.mem_cons_of_mem _ hq)
    rw [List.map_cons, lookD_cons, ih]
    by_cases h : n' = n
    · subst h
      have e1 : look ((Sum.inr n', V.int i) :: r) n' = some i := by
        unfold look
        rw [valV_pos rfl]
      exact (if_pos rfl).trans (by rw [e1]; rfl)
    · have e1 : look ((Sum.inr n', V.int i) :: r) n = look r n := by
        unfold look
        rw [valV_neg (by intro z; exact h (Sum.inr.inj z))]
      exact (if_neg (by intro z; injection z with z _; exact h (Sum.inr.inj z))).trans (by rw [e1])
theorem row_other {m : M} (ok : OkZ m) {n : Str} {b e x y : Nat} (h : ¬ (x = b ∧ y = e)) : lookD (m.map fun p => ([p.1, .inl (b : Int), .inl (e : Int)], sD p.2)) (ky n x y) = none := by
  rw [lookD_none]
  intro p hp z
  obtain ⟨q, hq, rfl⟩ := List.mem_map.mp hp
  obtain ⟨n', i, rfl, _⟩ := ok q hq
  have := ky_inj (show ky n' b e = ky n x y from z)
  omega
section
variable {rs : List Ru} {cs : List Nat} {Dn : Nat → Nat → Prop} {T : TB} {m : M} {b e : Nat}
theorem ent_is (I : CI rs cs Dn T) (new : ¬ Dn b e) (ok : OkZ m) (nd : (m.map (·.1)).Nodup) : entD T m b e = T ++ m.map fun p => ([p.1, .inl (b : Int), .inl (e : Int)], sD p.2) := by
  refine ent_app m T nd fun p hp q hq z => ?_
  obtain ⟨n', i, rfl, _⟩ := ok p hp
  obtain ⟨n, b', e', c, _, h2, rfl⟩ := I.keys q hq
  have := ky_inj (show ky n b' e' = ky n' b e from z)
  obtain ⟨_, rfl, rfl⟩ := this
  exact new h2
theorem ct_ent (I : CI rs cs Dn T) (new : ¬ Dn b e) (ok : OkZ m) (nd : (m.map (·.1)).Nodup) : ct (entD T m b e) = fun n x y => if x = b ∧ y = e then val m n else ct T n x y := by
  funext n x y
  unfold ct
  rw [ent_is I new ok nd, lookD_app]
  by_cases h : x = b ∧ y = e
  · obtain ⟨rfl, rfl⟩ := h
    have e1 : lookD T (ky n x y) = none := by
      rw [lookD_none]
      intro q hq z
      obtain ⟨n', b', e', c, _, h2, rfl⟩ := I.keys q hq
      obtain ⟨_, rfl, rfl⟩ := ky_inj (show ky n' b' e' = ky n x y from z)
      exact new h2
    rw [e1, if_pos ⟨rfl, rfl⟩, look_row ok]
    unfold val
    cases look m n <;> rfl
  · rw [if_neg h, row_other ok h]
    cases lookD T (ky n x y) <;> rfl
theorem opt_old {C : CF} (cl : Closed Dn) (new : ¬ Dn b e) {r : Ru} {x y : Nat} (h : Dn x y) (c : Int) : opt cs (fun n x y => if x = b ∧ y = e then val m n else C n x y) r x y c ↔ opt cs C r x y c := by
  cases r with
  | leaf n s => exact Iff.rfl
  | fork n u v =>
    have key : ∀ p, x ≤ p → p ≤ y → ¬ (x = b ∧ p = e) ∧ ¬ (p = b ∧ y = e) := fun p h1 h2 => by
      obtain ⟨q1, q2⟩ := cl x y p h h1 h2
      refine ⟨fun ⟨z1, z2⟩ => new (z1 ▸ z2 ▸ q1), fun ⟨z1, z2⟩ => new (z1 ▸ z2 ▸ q2)⟩
    constructor
    · rintro ⟨p, h1, h2, h3⟩
      obtain ⟨k1, k2⟩ := key p h1 h2
      dsimp only at h3
      rw [if_neg k1, if_neg k2] at h3
      exact ⟨p, h1, h2, h3⟩
    · rintro ⟨p, h1, h2, h3⟩
      obtain ⟨k1, k2⟩ := key p h1 h2
      refine ⟨p, h1, h2, ?_⟩
      dsimp only
      rw [if_neg k1, if_neg k2]
      exact h3
theorem ci_enter (I : CI rs cs Dn T) (cl : Closed Dn) (new : ¬ Dn b e) (ok : OkZ m) (nd : (m.map (·.1)).Nodup) (hm : ∀ n, n ∈ rs.map Ru.hd ↔ ∃ i, look m n = some i)
    (hlow : ∀ r ∈ rs, ∀ c, opt cs (fun n x y => if x = b ∧ y = e then val m n else ct T n x y) r b e c → val m r.hd ≤ c)
    (hatt : ∀ n ∈ rs.map Ru.hd, ∃ r ∈ rs, r.hd = n ∧ opt cs (fun n x y => if x = b ∧ y = e then val m n else ct T n x y) r b e (val m n)) :
    CI rs cs (fun x y => Dn x y ∨ (x = b ∧ y = e)) (entD T m b e) := by
  have ec := ct_ent I new ok nd
  have ee := ent_is I new ok nd
  have ne : ∀ x y, Dn x y → ¬ (x = b ∧ y = e) := fun x y h z => new (z.1 ▸ z.2 ▸ h)
  refine ⟨fun p hp => ?_, fun n hn x y h => ?_, ?_, fun n hn x y h => ?_, fun r hr x y h c ho => ?_, fun n hn x y h => ?_⟩
  · rw [ee] at hp
    rcases List.mem_append.mp hp with hp | hp
    · obtain ⟨n, b', e', c, h1, h2, h3⟩ := I.keys p hp
      exact ⟨n, b', e', c, h1, .inl h2, h3⟩
    · obtain ⟨q, hq, rfl⟩ := List.mem_map.mp hp
      obtain ⟨n', i, rfl, _⟩ := ok q hq
      refine ⟨n', b, e, i, (hm n').mpr ?_, .inr ⟨rfl, rfl⟩, rfl⟩
      cases q2 : look m n' with
      | some j => exact ⟨j, rfl⟩
      | none =>
        have := ok.look_none.mp q2
        unfold valV at this
        rw [Option.map_eq_none_iff, List.find?_eq_none] at this
        exact absurd (by simp) (this _ hq)
  · rw [ec]
    dsimp only
    rw [ee, lookD_app]
    by_cases hxy : x = b ∧ y = e
    · obtain ⟨rfl, rfl⟩ := hxy
      have e1 : lookD T (ky n x y) = none := by
        rw [lookD_none]
        intro q hq z
        obtain ⟨n', b', e', c, _, h2, rfl⟩ := I.keys q hq
        obtain ⟨_, rfl, rfl⟩ := ky_inj (show ky n' b' e' = ky n x y from z)
        exact new h2
      obtain ⟨i, hi⟩ := (hm n).mp hn
      rw [e1, if_pos ⟨rfl, rfl⟩, look_row ok, hi]
      unfold val
      rw [hi]
      rfl
    · rcases h with h | h
      · rw [if_neg hxy, I.all n hn x y h]
        rfl
      · exact absurd h hxy
  · rw [ee, List.map_append, List.nodup_append]
    refine ⟨I.nd, ?_, fun a ha c hc => ?_⟩
    · rw [List.map_map]
      have : (List.map ((fun x : List Key × D => x.1) ∘ fun p : Key × V => ([p.1, .inl (b : Int), .inl (e : Int)], sD p.2)) m) = (m.map (·.1)).map fun k => [k, .inl (b : Int), .inl (e : Int)] := by
        rw [List.map_map]
        rfl
      rw [this]
      refine List.Pairwise.map _ (fun a c hac z => hac ?_) nd
      injection z
    · intro z
      subst z
      obtain ⟨p, hp, rfl⟩ := List.mem_map.mp ha
      obtain ⟨q, hq, hq2⟩ := List.mem_map.mp hc
      obtain ⟨q', hq', rfl⟩ := List.mem_map.mp hq
      obtain ⟨n', i, rfl, _⟩ := ok q' hq'
      obtain ⟨n, b', e', c, _, h2, rfl⟩ := I.keys p hp
      obtain ⟨_, rfl, rfl⟩ := ky_inj (show ky n' b e = ky n b' e' from hq2)
      exact new h2
  · rw [ec]
    dsimp only
    by_cases hxy : x = b ∧ y = e
    · rw [if_pos hxy]
      obtain ⟨i, hi⟩ := (hm n).mp hn
      unfold val
      rw [hi]
      exact ok.pos hi
    · rcases h with h | h
      · rw [if_neg hxy]
        exact I.nn n hn x y h
      · exact absurd h hxy
  · rw [ec] at ho ⊢
    dsimp only
    rcases h with h | ⟨rfl, rfl⟩
    · rw [if_neg (ne x y h)]
      exact I.low r hr x y h c ((opt_old cl new h c).mp ho)
    · rw [if_pos ⟨rfl, rfl⟩]
      exact hlow r hr c ho
  · rw [ec]
    dsimp only
    rcases h with h | ⟨rfl, rfl⟩
    · rw [if_neg (ne x y h)]
      obtain ⟨r, h1, h2, h3⟩ := I.att n hn x y h
      exact ⟨r, h1, h2, (opt_old cl new h _).mpr h3⟩
    · rw [if_pos ⟨rfl, rfl⟩]
      exact hatt n hn
end
/-! ### over no sign -/
theorem has_val {m : M} {r : Ru} {c : Int} (h : ∃ i, look m r.hd = some i ∧ i ≤ c) : val m r.hd ≤ c := by
  obtain ⟨i, h1, h2⟩ := h
  unfold val
  rw [h1]
  exact h2
section
variable {rs : List Ru} {cs : List Nat} {lm : M}
theorem lens_of (G : Good rs) (I : InvM rs lm) (S : ∀ r ∈ rs, Stable lm r) : Lens rs lm := ⟨I.ok, fun n a d h => ⟨all_in G S a (G.known n a d h).1, all_in G S d (G.known n a d h).2⟩⟩
theorem known_lm (G : Good rs) (I : InvM rs lm) (S : ∀ r ∈ rs, Stable lm r) (n : Str) : n ∈ rs.map Ru.hd ↔ ∃ i, look lm n = some i := by
  constructor
  · exact all_in G S n
  · rintro ⟨i, h⟩
    obtain ⟨r, h1, rfl, _⟩ := I.by_ n i h
    exact List.mem_map.mpr ⟨r, h1, rfl⟩
theorem empty_low (G : Good rs) (I : InvM rs lm) (S : ∀ r ∈ rs, Stable lm r) {C : CF} {p : Nat} {r : Ru} (hr : r ∈ rs) {c : Int} (h : opt cs (fun n x y => if x = p ∧ y = p then val lm n else C n x y) r p p c) : val lm r.hd ≤ c := by
  cases r with
  | leaf n s =>
    have : c = 1 := by
      rw [show c = lc cs s p p from h]
      unfold lc
      rw [if_pos rfl]
    subst this
    exact has_val (S _ hr 1 rfl)
  | fork n x y =>
    obtain ⟨q, h1, h2, h3⟩ := h
    have : q = p := by omega
    subst this
    dsimp only at h3
    rw [if_pos ⟨rfl, rfl⟩, if_pos ⟨rfl, rfl⟩] at h3
    subst h3
    obtain ⟨la, ld⟩ := (lens_of G I S).all n x y hr
    refine has_val (S _ hr _ ?_)
    show (look lm x).bind _ = _
    rw [mD_val la]
    show (look lm y).map _ = _
    rw [mD_val ld]
    rfl
theorem empty_att (G : Good rs) (I : InvM rs lm) (S : ∀ r ∈ rs, Stable lm r) {C : CF} {p : Nat} {n : Str} (hn : n ∈ rs.map Ru.hd) : ∃ r ∈ rs, r.hd = n ∧ opt cs (fun n x y => if x = p ∧ y = p then val lm n else C n x y) r p p (val lm n) := by
  obtain ⟨i, hi⟩ := all_in G S n hn
  obtain ⟨r, hr, rfl, c, hc, hci⟩ := I.by_ n i hi
  obtain ⟨j, hj, hjc⟩ := S r hr c hc
  have : i = c := by
    rw [hi] at hj
    cases hj
    omega
  subst this
  refine ⟨r, hr, rfl, ?_⟩
  have ev : val lm r.hd = i := by
    unfold val
    rw [hi]
    rfl
  rw [ev]
  cases r with
  | leaf n s =>
    cases hc
    show (1 : Int) = lc cs s p p
    unfold lc
    rw [if_pos rfl]
  | fork n x y =>
    refine ⟨p, Nat.le_refl _, Nat.le_refl _, ?_⟩
    dsimp only
    rw [if_pos ⟨rfl, rfl⟩, if_pos ⟨rfl, rfl⟩]
    obtain ⟨a, ha, h2⟩ := Option.bind_eq_some_iff.mp (show (look lm x).bind _ = some i from hc)
    obtain ⟨d, hd, h3⟩ := Option.map_eq_some_iff.mp h2
    unfold val
    rw [ha, hd]
    exact h3.symm
end
/-! ### over a stretch with signs -/
theorem leastD_ne {ns : List Int} {c : Int} (h : c ∈ ns) : ∃ m, leastD ns = some m ∧ m ≤ c := by
  cases q : leastD ns with
  | none =>
    rw [leastD_none q] at h
    cases h
  | some m => exact ⟨m, rfl, (leastD_is q).2 c h⟩
section
variable {rs : List Ru} {cs : List Nat} {lm m : M} {C : CF} {b e : Nat}
theorem all_m (G : Good rs) (L : Lens rs lm) (I : InvS (inC cs C b e) lm rs m) (St : ∀ r ∈ rs, StabS lm m r) (n : Str) : n ∈ rs.map Ru.hd ↔ ∃ i, look m n = some i := by
  constructor
  · intro hn
    obtain ⟨rk, _, hrk⟩ := G.rank
    have key : ∀ k n, n ∈ rs.map Ru.hd → rk n < k → ∃ i, look m n = some i := by
      intro k
      induction k with
      | zero =>
        intro n _ h
        omega
      | succ k ih =>
        intro n hn hk
        obtain ⟨r, hr, rfl, h3⟩ := hrk n hn
        cases r with
        | leaf n s =>
          obtain ⟨i, h1, _⟩ := I.low _ hr _ rfl
          exact ⟨i, h1⟩
        | fork n a d =>
          obtain ⟨ha, hb⟩ := h3 a d rfl
          obtain ⟨ka, kb⟩ := G.known n a d hr
          obtain ⟨i, h1⟩ := ih a ka (by have : rk (Ru.fork n a d).hd < k + 1 := hk; omega)
          obtain ⟨c, h4, _⟩ := St _ hr (i + val lm d) (by
            show _ ∈ _ ++ _
            rw [h1]
            exact List.mem_append_right _ (List.mem_singleton.mpr rfl))
          exact ⟨c, h4⟩
    exact key (rk n + 1) n hn (Nat.lt_succ_self _)
  · rintro ⟨i, h⟩
    obtain ⟨r, h1, rfl, _⟩ := I.by_ n i h
    exact List.mem_map.mpr ⟨r, h1, rfl⟩
theorem full_low (G : Good rs) (L : Lens rs lm) (I : InvS (inC cs C b e) lm rs m) (St : ∀ r ∈ rs, StabS lm m r) (hb : b < e) (em : ∀ n p, b ≤ p → p ≤ e → C n p p = val lm n) {r : Ru} (hr : r ∈ rs) {c : Int}
    (h : opt cs (fun n x y => if x = b ∧ y = e then val m n else C n x y) r b e c) : val m r.hd ≤ c := by
  cases r with
  | leaf n s => exact has_val (I.low _ hr c (congrArg some (show c = lc cs s b e from h).symm))
  | fork n x y =>
    obtain ⟨p, h1, h2, h3⟩ := h
    obtain ⟨kx, ky⟩ := G.known n x y hr
    obtain ⟨i, hi⟩ := (all_m G L I St x).mp kx
    obtain ⟨j, hj⟩ := (all_m G L I St y).mp ky
    have vi : val m x = i := by unfold val; rw [hi]; rfl
    have vj : val m y = j := by unfold val; rw [hj]; rfl
    by_cases q1 : p = b
    · subst q1
      dsimp only at h3
      rw [if_neg (by omega), if_pos ⟨rfl, rfl⟩, em x p (Nat.le_refl _) (by omega), vj] at h3
      refine has_val (St _ hr c ?_)
      show _ ∈ _ ++ _
      rw [hj]
      exact List.mem_append_left _ (List.mem_singleton.mpr h3)
    · by_cases q2 : p = e
      · subst q2
        dsimp only at h3
        rw [if_pos ⟨rfl, rfl⟩, if_neg (by omega), em y p (by omega) (Nat.le_refl _), vi] at h3
        refine has_val (St _ hr c ?_)
        show _ ∈ _ ++ _
        rw [hi]
        exact List.mem_append_right _ (List.mem_singleton.mpr h3)
      · dsimp only at h3
        rw [if_neg (by omega), if_neg (by omega)] at h3
        have hmem : c ∈ (List.range (e - (b + 1))).map fun k => C x b (b + 1 + k) + C y (b + 1 + k) e := by
          refine List.mem_map.mpr ⟨p - (b + 1), List.mem_range.mpr (by omega), ?_⟩
          have : b + 1 + (p - (b + 1)) = p := by omega
          rw [this, h3]
        obtain ⟨c0, g1, g2⟩ := leastD_ne hmem
        have := has_val (I.low _ hr c0 g1)
        omega
theorem full_att (G : Good rs) (L : Lens rs lm) (I : InvS (inC cs C b e) lm rs m) (St : ∀ r ∈ rs, StabS lm m r) (hb : b < e) (em : ∀ n p, b ≤ p → p ≤ e → C n p p = val lm n) {n : Str} (hn : n ∈ rs.map Ru.hd) :
    ∃ r ∈ rs, r.hd = n ∧ opt cs (fun n x y => if x = b ∧ y = e then val m n else C n x y) r b e (val m n) := by
  obtain ⟨i, hi⟩ := (all_m G L I St n).mp hn
  obtain ⟨r, hr, rfl, c, hc, hci⟩ := I.by_ n i hi
  have hh : Has m r c := by
    rcases hc with hc | hc
    · exact I.low r hr c hc
    · exact St r hr c hc
  obtain ⟨j, hj, hjc⟩ := hh
  have : i = c := by
    rw [hi] at hj
    cases hj
    omega
  subst this
  have ev : val m r.hd = i := by unfold val; rw [hi]; rfl
  refine ⟨r, hr, rfl, ?_⟩
  rw [ev]
  cases r with
  | leaf n s =>
    rcases hc with hc | hc
    · exact (Option.some.inj hc).symm
    · cases hc
  | fork n x y =>
    rcases hc with hc | hc
    · obtain ⟨hmem, _⟩ := leastD_is (show leastD _ = some i from hc)
      obtain ⟨k, hk, e2⟩ := List.mem_map.mp hmem
      have := List.mem_range.mp hk
      refine ⟨b + 1 + k, by omega, by omega, ?_⟩
      dsimp only
      rw [if_neg (by omega), if_neg (by omega)]
      exact e2.symm
    · rcases List.mem_append.mp hc with hc | hc
      · cases q : look m y with
        | none =>
          rw [q] at hc
          cases hc
        | some j =>
          rw [q] at hc
          refine ⟨b, Nat.le_refl _, by omega, ?_⟩
          dsimp only
          rw [if_neg (by omega), if_pos ⟨rfl, rfl⟩, em x b (Nat.le_refl _) (by omega), List.mem_singleton.mp hc]
          unfold val
          rw [q]
          rfl
      · cases q : look m x with
        | none =>
          rw [q] at hc
          cases hc
        | some j =>
          rw [q] at hc
          refine ⟨e, by omega, Nat.le_refl _, ?_⟩
          dsimp only
          rw [if_pos ⟨rfl, rfl⟩, if_neg (by omega), em y e (by omega) (Nat.le_refl _), List.mem_singleton.mp hc]
          unfold val
          rw [q]
          rfl
end
end MD

namespace MD
open PySem L2 DS
theorem rs_call {f : Nv → Option D} {g' : Nv → Option SR} {ρ : Nv} {φ : SR → Prop} {d : D} (h : f ρ = some d) (q : Run (g' ρ) φ) : Run (seqS (fun ρ => (f ρ).map fun _ => .nx ρ) g' ρ) φ :=
  run_seq ⟨.nx ρ, by show (f ρ).map _ = _; rw [h]; rfl, q⟩
theorem range_at {n : Nat} {ys r : List Nat} {x : Nat} (h : List.range n = ys ++ x :: r) : x = ys.length ∧ ys.length < n := by
  have h1 : (List.range n)[ys.length]? = some x := by
    rw [h, List.getElem?_append_right (Nat.le_refl _), Nat.sub_self]
    rfl
  obtain ⟨h2, h3⟩ := List.getElem?_eq_some_iff.mp h1
  rw [List.getElem_range] at h3
  rw [List.length_range] at h2
  exact ⟨h3.symm, h2⟩
theorem CI.congr {rs : List Ru} {cs : List Nat} {Dn Dn' : Nat → Nat → Prop} {T : TB} (h : ∀ b e, Dn b e ↔ Dn' b e) (I : CI rs cs Dn T) : CI rs cs Dn' T := by
  have : Dn = Dn' := by
    funext b e
    exact propext (h b e)
  subst this
  exact I
theorem len_m {rs : List Ru} {m : M} {R : Rel} (I : InvG R rs m) (hl : rs.length ≤ 40) : m.length ≤ 40 := by
  have := I.len
  omega
theorem ent_len {b e : Nat} : ∀ (m : M) (T : TB), (entD T m b e).length ≤ T.length + m.length
  | [], T => Nat.le_refl _
  | p :: r, T => by
    have h1 := ent_len (b := b) (e := e) r (putKD T [p.1, .inl (b : Int), .inl (e : Int)] (sD p.2))
    have h2 := put_len T [p.1, .inl (b : Int), .inl (e : Int)] (sD p.2)
    rw [List.length_cons]
    show (entD (putKD T _ _) r b e).length ≤ _
    omega
theorem len_txt {cs : List Nat} (h : cs.length ≤ 1000) {f : Nv → Option D} {ρ : Nv} (hf : f ρ = some (.str (txt cs))) : callD lenD (cons2 f (fun _ => some [])) ρ = some (.int (cs.length : Nat)) := by
  unfold callD
  rw [cons2_is hf rfl]
  show (if (txt cs).length ≤ 100000 then some (PyData.int (txt cs).length) else none) = _
  rw [if_pos (by rw [txt_len]; omega), txt_len]
theorem Ru.sign1 {r : Ru} (h : r.ok) : ∀ n s, r = .leaf n s → s.length = 1 := fun n s e => by
  subst e
  have h2 : (decide (s.length = 1) && sgB (s.cps.getD 0 0)) = true := h.2
  rw [Bool.and_eq_true] at h2
  exact of_decide_eq_true h2.1
def stC (rs : List Ru) (cs : List Nat) (lm : M) (T : TB) (x4 x5 x6 x7 x8 : Option Cell) : Nv := [some (.sh (.list (rs.map Ru.d))), some (.sh (.str (txt cs))), some (.sh (mD lm)), some (.ow (tbD T)), x4, x5, x6, x7, x8]
def whole (cs : List Nat) : Nat → Nat → Prop := fun b e => b ≤ e ∧ e ≤ cs.length
theorem inC_nn {rs : List Ru} {cs : List Nat} {Dn : Nat → Nat → Prop} {T : TB} (G : Good rs) (I : CI rs cs Dn T) {b e : Nat} (hb : b < e) (hD : ∀ p, b < p → p < e → Dn b p ∧ Dn p e) : ∀ r ∈ rs, ∀ c, inC cs (ct T) b e r = some c → 0 ≤ c := by
  intro r hr c h
  cases r with
  | leaf n s =>
    cases h
    unfold lc
    rw [if_neg (by omega)]
    split <;> omega
  | fork n x y =>
    obtain ⟨hmem, _⟩ := leastD_is (show leastD _ = some c from h)
    obtain ⟨k, hk, rfl⟩ := List.mem_map.mp hmem
    have := List.mem_range.mp hk
    obtain ⟨kx, ky⟩ := G.known n x y hr
    obtain ⟨d1, d2⟩ := hD (b + 1 + k) (by omega) (by omega)
    have := I.nn x kx _ _ d1
    have := I.nn y ky _ _ d2
    omega
theorem costs_is {rs : List Ru} {cs : List Nat} (G : Good rs) (hl : cs.length ≤ 40) (hs : ∀ c ∈ cs, sgB c = true) :
    ∃ T, sem_costs [.list (rs.map Ru.d), .str (txt cs)] = some (.ret (tbD T) true []) ∧ CI rs cs (whole cs) T ∧ ∀ n ∈ rs.map Ru.hd, ∀ p, p ≤ cs.length → 1 ≤ ct T n p p := by
  have key := sem_of (o := true) (ψ := fun d => ∃ T, d = tbD T ∧ CI rs cs (whole cs) T ∧ ∀ n ∈ rs.map Ru.hd, ∀ p, p ≤ cs.length → 1 ≤ ct T n p p) (ds := [.list (rs.map Ru.d), .str (txt cs)]) (k := 2) (m := 7) (g := g_costs) rfl ?_
  · obtain ⟨d, h1, T, rfl, h2⟩ := key
    exact ⟨T, h1, h2⟩
  unfold g_costs
  refine rs_call (d := .list (rs.map Ru.d)) (callS_of (cons2_is rfl rfl) (need_is G)) ?_
  refine rs_call (d := .str (txt cs)) (callS_of (cons2_is rfl rfl) (need_text_is hl hs)) ?_
  obtain ⟨lm, hlm, I, S⟩ := lengths_is G.le
  have L := lens_of G I S
  have hml : lm.length ≤ 40 := by have := I.len; have := G.le; omega
  refine rs_set (d := mD lm) (callS_of (cons2_is rfl rfl) hlm) ?_
  refine rs_setN (d := .dict []) rfl ?_
  refine rs_forOf (List.range (cs.length + 1)) (fun i => .int (i : Nat)) (fun ys ρ => ∃ T x4, ρ = stC rs cs lm T x4 none none none none ∧ CI rs cs (fun b e => b = e ∧ b < ys.length) T ∧ T.length ≤ 40 * ys.length ∧ ∀ n p, p < ys.length → ct T n p p = val lm n) ?_ ?_ ?_ ?_
  · have e1 : (cons2 (op2 addD (callD lenD (cons2 (nmW 1) (fun _ => some []))) (fun _ => some (.int 1))) (fun _ => some [])) (stC rs cs lm [] none none none none none) = some [.int ((cs.length + 1 : Nat) : Int)] := cons2_is (op2_is (len_txt (by omega) rfl) rfl rfl) rfl
    exact bind_of e1 (rng1_nat (by omega))
  · refine ⟨[], none, rfl, ⟨fun _ h => (by cases h), fun _ _ b e h => absurd h.2 (Nat.not_lt_zero _), List.nodup_nil, fun _ _ b e h => absurd h.2 (Nat.not_lt_zero _), fun _ _ b e h => absurd h.2 (Nat.not_lt_zero _), fun _ _ b e h => absurd h.2 (Nat.not_lt_zero _)⟩, Nat.le_refl _, fun n p h => absurd h (Nat.not_lt_zero _)⟩
  · rintro ys p rest ρ hxs ⟨T, x4, rfl, CT, lT, em⟩
    obtain ⟨rfl, hlt⟩ := range_at hxs
    refine ⟨_, rfl, ?_⟩
    have new : ¬ ((fun b e => b = e ∧ b < ys.length) ys.length ys.length) := fun z => Nat.lt_irrefl _ z.2
    have ok := I.ok.z
    have CT2 := ci_enter (m := lm) CT (fun b e p h h1 h2 => ⟨⟨by omega, by omega⟩, ⟨by omega, by omega⟩⟩) new ok I.nd (known_lm G I S) (fun r hr c h => empty_low G I S hr h) (fun n hn => empty_att G I S hn)
    refine run_X (callX_is (c := .ow (tbD T)) (ds := [tbD T, mD lm, .int (ys.length : Nat), .int (ys.length : Nat)]) rfl rfl (enter_is ok (by omega)) rfl rfl) ⟨entD T lm ys.length ys.length, some (.sh (.int (ys.length : Nat))), rfl, CT2.congr fun b e => ?_, ?_, ?_⟩
    · rw [List.length_append]
      show (b = e ∧ b < ys.length) ∨ (b = ys.length ∧ e = ys.length) ↔ b = e ∧ b < ys.length + 1
      omega
    · have := ent_len (b := ys.length) (e := ys.length) lm T
      rw [List.length_append]
      show _ ≤ 40 * (ys.length + 1)
      omega
    · intro n p hp
      rw [List.length_append] at hp
      have hp : p < ys.length + 1 := hp
      rw [ct_ent CT new ok I.nd]
      dsimp only
      by_cases q : p = ys.length
      · rw [if_pos ⟨q, q⟩]
      · rw [if_neg (by omega)]
        exact em n p (by omega)
  rintro ρ ⟨T, x4, rfl, CT, lT, em⟩
  rw [List.length_range] at CT lT em
  refine rs_forOf (List.range cs.length) (fun i => .int ((1 + i : Nat) : Int)) (fun ys ρ => ∃ T x4 x5 x6 x7 x8, ρ = stC rs cs lm T x4 x5 x6 x7 x8 ∧ CI rs cs (fun b e => b ≤ e ∧ e ≤ cs.length ∧ e - b ≤ ys.length) T ∧ T.length ≤ 1640 + 1600 * ys.length ∧ ∀ n p, p ≤ cs.length → ct T n p p = val lm n) ?_ ?_ ?_ ?_
  · have e1 : (cons2 (fun _ => some (PyData.int 1)) (cons2 (op2 addD (callD lenD (cons2 (nmW 1) (fun _ => some []))) (fun _ => some (.int 1))) (fun _ => some []))) (stC rs cs lm T x4 none none none none) = some [.int ((1 : Nat) : Int), .int ((cs.length + 1 : Nat) : Int)] := cons2_is rfl (cons2_is (op2_is (len_txt (by omega) rfl) rfl rfl) rfl)
    exact bind_of e1 (rng2_nat (a := 1) (n := cs.length + 1) (by omega) (by omega))
  · exact ⟨T, x4, none, none, none, none, rfl, CT.congr fun b e => (by show (b = e ∧ b < cs.length + 1) ↔ (b ≤ e ∧ e ≤ cs.length ∧ e - b ≤ 0); omega), by show T.length ≤ 1640 + 1600 * 0; omega, fun n p h => em n p (by omega)⟩
  · clear em lT CT
    rintro ys k rest ρ hxs ⟨T, x4, x5, x6, x7, x8, rfl, CT, lT, em⟩
    obtain ⟨rfl, hlt⟩ := range_at hxs
    refine ⟨_, rfl, ?_⟩
    refine run_forOf (List.range (cs.length - ys.length)) (fun i => .int (i : Nat)) (fun zs ρ => ∃ T x4 x6 x7 x8, ρ = stC rs cs lm T x4 (some (.sh (.int ((1 + ys.length : Nat) : Int)))) x6 x7 x8 ∧ CI rs cs (fun b e => b ≤ e ∧ e ≤ cs.length ∧ (e - b ≤ ys.length ∨ (e - b = ys.length + 1 ∧ b < zs.length))) T ∧ T.length ≤ 1640 + 1600 * ys.length + 40 * zs.length ∧ ∀ n p, p ≤ cs.length → ct T n p p = val lm n) ?_ ?_ ?_ ?_
    · have e1 : (cons2 (op2 addD (op2 subD (callD lenD (cons2 (nmW 1) (fun _ => some []))) (nmW 5)) (fun _ => some (.int 1))) (fun _ => some [])) (stC rs cs lm T x4 (some (.sh (.int ((1 + ys.length : Nat) : Int)))) x6 x7 x8) = some [.int ((cs.length - ys.length : Nat) : Int)] := by
        refine cons2_is (op2_is (op2_is (len_txt (by omega) rfl) rfl rfl) rfl ?_) rfl
        show some (PyData.int _) = some (PyData.int _)
        congr 2
        omega
      exact bind_of e1 (rng1_nat (by omega))
    · exact ⟨T, x4, x6, x7, x8, rfl, CT.congr fun b e => (by show _ ↔ (b ≤ e ∧ e ≤ cs.length ∧ (e - b ≤ ys.length ∨ (e - b = ys.length + 1 ∧ b < 0))); omega), by show T.length ≤ 1640 + 1600 * ys.length + 40 * 0; omega, em⟩
    · clear em lT CT
      rintro zs b rest2 ρ hzs ⟨T, x4, x6, x7, x8, rfl, CT, lT, em⟩
      obtain ⟨rfl, hlt2⟩ := range_at hzs
      refine ⟨_, rfl, ?_⟩
      have he : zs.length + (1 + ys.length) ≤ cs.length := by omega
      have hbe : zs.length < zs.length + (1 + ys.length) := by omega
      have hD : ∀ p, zs.length < p → p < zs.length + (1 + ys.length) → (zs.length ≤ p ∧ p ≤ cs.length ∧ (p - zs.length ≤ ys.length ∨ (p - zs.length = ys.length + 1 ∧ zs.length < zs.length))) ∧ (p ≤ zs.length + (1 + ys.length) ∧ zs.length + (1 + ys.length) ≤ cs.length ∧ (zs.length + (1 + ys.length) - p ≤ ys.length ∨ (zs.length + (1 + ys.length) - p = ys.length + 1 ∧ p < zs.length))) := by
        intro p h1 h2
        omega
      refine rs_set (d := .int ((zs.length + (1 + ys.length) : Nat) : Int)) (op2_is rfl rfl rfl) ?_
      obtain ⟨m, hm, J, jl⟩ := inside_costs_is (rs := rs) G.le (t := .str (txt cs)) (tb := tbD T) (b := .int (zs.length : Nat)) (e := .int ((zs.length + (1 + ys.length) : Nat) : Int)) (base := inC cs (ct T) zs.length (zs.length + (1 + ys.length)))
        (fun r hr => inside_is hbe he (by omega) (Ru.sign1 (G.ok r hr)) fun n x y e p h1 h2 => by
          subst e
          obtain ⟨kx, ky⟩ := G.known n x y hr
          obtain ⟨d1, d2⟩ := hD p h1 h2
          exact ⟨⟨_, CT.all x kx _ _ d1⟩, ⟨_, CT.all y ky _ _ d2⟩⟩)
        (inC_nn G CT hbe hD)
      refine rs_setN (d := mD m) (callG_is (cons2_is rfl (cons2_is rfl (cons2_is rfl (cons2_is rfl (cons2_is rfl rfl))))) rfl hm (by rw [decK_en J.ok.flat]; rfl)) ?_
      have JS : InvS (inC cs (ct T) zs.length (zs.length + (1 + ys.length))) lm rs m := ⟨⟨J.ok, J.nd, fun n i h => by
        obtain ⟨r, h1, h2, c, h3, h4⟩ := J.by_ n i h
        exact ⟨r, h1, h2, c, .inl h3, h4⟩, J.len⟩, jl⟩
      obtain ⟨m', hm', J', St⟩ := settle_is L G.le JS
      refine run_seq (run_X (callX_is (c := .ow (mD m)) (ds := [.list (rs.map Ru.d), mD lm, mD m]) rfl rfl hm' rfl rfl) ?_)
      refine run_share rfl ?_
      have new : ¬ ((fun b e => b ≤ e ∧ e ≤ cs.length ∧ (e - b ≤ ys.length ∨ (e - b = ys.length + 1 ∧ b < zs.length))) zs.length (zs.length + (1 + ys.length))) := fun z => by
        have := z.2.2
        omega
      have em2 : ∀ n p, zs.length ≤ p → p ≤ zs.length + (1 + ys.length) → ct T n p p = val lm n := fun n p _ h => em n p (by omega)
      have CT2 := ci_enter (m := m') CT (fun b e p h h1 h2 => by
        constructor
        · show b ≤ p ∧ p ≤ cs.length ∧ (p - b ≤ ys.length ∨ (p - b = ys.length + 1 ∧ b < zs.length))
          have h : b ≤ e ∧ e ≤ cs.length ∧ (e - b ≤ ys.length ∨ (e - b = ys.length + 1 ∧ b < zs.length)) := h
          omega
        · show p ≤ e ∧ e ≤ cs.length ∧ (e - p ≤ ys.length ∨ (e - p = ys.length + 1 ∧ p < zs.length))
          have h : b ≤ e ∧ e ≤ cs.length ∧ (e - b ≤ ys.length ∨ (e - b = ys.length + 1 ∧ b < zs.length)) := h
          omega) new J'.ok J'.nd (all_m G L J' St) (fun r hr c h => full_low G L J' St hbe em2 hr h) (fun n hn => full_att G L J' St hbe em2 hn)
      have hm40 := len_m J'.toInvG G.le
      refine run_X (callX_is (c := .ow (tbD T)) (ds := [tbD T, mD m', .int (zs.length : Nat), .int ((zs.length + (1 + ys.length) : Nat) : Int)]) rfl rfl (enter_is J'.ok (by
        have : zs.length < 40 := by omega
        have : ys.length < 40 := by omega
        omega)) rfl rfl) ⟨entD T m' zs.length (zs.length + (1 + ys.length)), x4, some (.sh (.int (zs.length : Nat))), some (.sh (.int ((zs.length + (1 + ys.length) : Nat) : Int))), some (.sh (mD m')), rfl, CT2.congr fun b e => ?_, ?_, ?_⟩
      · rw [List.length_append]
        show (b ≤ e ∧ e ≤ cs.length ∧ (e - b ≤ ys.length ∨ (e - b = ys.length + 1 ∧ b < zs.length))) ∨ (b = zs.length ∧ e = zs.length + (1 + ys.length)) ↔ (b ≤ e ∧ e ≤ cs.length ∧ (e - b ≤ ys.length ∨ (e - b = ys.length + 1 ∧ b < zs.length + 1)))
        omega
      · have := ent_len (b := zs.length) (e := zs.length + (1 + ys.length)) m' T
        rw [List.length_append]
        show _ ≤ 1640 + 1600 * ys.length + 40 * (zs.length + 1)
        omega
      · intro n p hp
        rw [ct_ent CT new J'.ok J'.nd]
        dsimp only
        rw [if_neg (by omega)]
        exact em n p hp
    · rintro ρ ⟨T, x4, x6, x7, x8, rfl, CT, lT, em⟩
      rw [List.length_range] at CT lT
      refine ⟨T, x4, _, x6, x7, x8, rfl, CT.congr fun b e => ?_, ?_, em⟩
      · rw [List.length_append]
        show _ ↔ (b ≤ e ∧ e ≤ cs.length ∧ e - b ≤ ys.length + 1)
        omega
      · rw [List.length_append]
        show _ ≤ 1640 + 1600 * (ys.length + 1)
        omega
  · rintro ρ ⟨T, x4, x5, x6, x7, x8, rfl, CT, lT, em⟩
    rw [List.length_range] at CT
    refine run_retNm (d := tbD T) (o := true) rfl (ret_ok (Nat.le_of_ble_eq_true rfl) ⟨T, rfl, CT.congr fun b e => ?_, fun n hn p hp => ?_⟩)
    · show _ ↔ b ≤ e ∧ e ≤ cs.length
      omega
    · rw [em n p hp]
      obtain ⟨i, hi⟩ := all_in G S n hn
      unfold val
      rw [hi]
      exact I.ok.pos hi
end MD

namespace MD
open PySem L2 DS
/-! ## the told steps -/
structure Tab (rs : List Ru) (cs : List Nat) (T : TB) : Prop where
  good : Good rs
  ci : CI rs cs (whole cs) T
  pos : ∀ n ∈ rs.map Ru.hd, ∀ p, p ≤ cs.length → 1 ≤ ct T n p p
  len : cs.length ≤ 40
  sgs : ∀ c ∈ cs, sgB c = true
def Ky (rs : List Ru) (cs : List Nat) (n : Str) (b e : Nat) : Prop := n ∈ rs.map Ru.hd ∧ b ≤ e ∧ e ≤ cs.length
theorem Tab.get {rs : List Ru} {cs : List Nat} {T : TB} (V : Tab rs cs T) {n : Str} {b e : Nat} (h : Ky rs cs n b e) : lookD T (ky n b e) = some (.int (ct T n b e)) := V.ci.all n h.1 b e h.2
def kyD (n : Str) (b e : Nat) : D := .tuple [.str n, .int (b : Nat), .int (e : Nat)]
theorem getT_nm {i j : Nat} {ρ : Nv} {T : TB} {n : Str} {b e : Nat} {d : D} (h1 : nmW i ρ = some (tbD T)) (h2 : nmP j ρ = some (kyD n b e)) (h3 : lookD T (ky n b e) = some d) :
    ((nmW i ρ).bind fun d => ((fun ρ => (nmP j ρ).bind tupK) ρ).bind fun ks => getTD d ks) = some d := by
  dsimp only
  rw [h1, h2]
  show getTD (tbD T) (ky n b e) = _
  rw [get_ky, h3]
theorem tup_kyD (n : Str) (b e : Nat) : tupK (kyD n b e) = some (ky n b e) := rfl
def splitP (C : CF) (x y : Str) (b e : Nat) (c : Int) : Option Nat := ((List.range (e + 1 - b)).map (b + ·)).find? fun p => decide (C x b p + C y p e = c)
inductive Sp where
  | lf (n s : Str)
  | fk (n x y : Str) (p : Nat)
def Sp.d (cs : List Nat) (b e : Nat) : Sp → D
  | .lf n s => .tuple [.str n, .str s, .int (b : Nat), .int (e : Nat), natO (keptAt cs s b e)]
  | .fk n x y p => .tuple [.str n, kyD x b p, kyD y p e]
def optS (cs : List Nat) (b e : Nat) : Option Sp → D
  | some s => s.d cs b e
  | none => .none
def spBy (cs : List Nat) (C : CF) (b e : Nat) : Ru → Option Sp
  | .leaf n s => if lc cs s b e = C n b e then some (.lf n s) else none
  | .fork n x y => (splitP C x y b e (C n b e)).map fun p => .fk n x y p
def toldS (cs : List Nat) (C : CF) (n : Str) (b e : Nat) (rs : List Ru) : Option Sp := rs.findSome? fun r => if r.hd = n then spBy cs C b e r else none
theorem isnt_optS {cs : List Nat} {b e : Nat} (o : Option Sp) : isntD (optS cs b e o) .none = some (.bool o.isSome) := by
  cases o with
  | none => rfl
  | some s => cases s <;> rfl
theorem splitP_some {C : CF} {x y : Str} {b e : Nat} {c : Int} {ys r : List Nat} {i : Nat} (h : List.range (e + 1 - b) = ys ++ i :: r) (hno : ∀ j ∈ ys, ¬ C x b (b + j) + C y (b + j) e = c) (hi : C x b (b + i) + C y (b + i) e = c) : splitP C x y b e c = some (b + i) := by
  unfold splitP
  rw [h, List.map_append, List.find?_append]
  have e1 : (ys.map (b + ·)).find? (fun p => decide (C x b p + C y p e = c)) = none := by
    rw [List.find?_eq_none]
    intro p hp
    obtain ⟨j, hj, rfl⟩ := List.mem_map.mp hp
    simpa using hno j hj
  rw [e1, List.map_cons, List.find?_cons_of_pos (by simpa using hi)]
  rfl
theorem splitP_none {C : CF} {x y : Str} {b e : Nat} {c : Int} (hno : ∀ j ∈ List.range (e + 1 - b), ¬ C x b (b + j) + C y (b + j) e = c) : splitP C x y b e c = none := by
  unfold splitP
  rw [List.find?_eq_none]
  intro p hp
  obtain ⟨j, hj, rfl⟩ := List.mem_map.mp hp
  simpa using hno j hj
theorem splitP_is {C : CF} {x y : Str} {b e : Nat} {c : Int} {p : Nat} (h : splitP C x y b e c = some p) : b ≤ p ∧ p < e + 1 ∧ C x b p + C y p e = c := by
  unfold splitP at h
  have h1 := List.find?_some h
  obtain ⟨j, hj, rfl⟩ := List.mem_map.mp (List.mem_of_find?_eq_some h)
  have := List.mem_range.mp hj
  exact ⟨by omega, by omega, by simpa using h1⟩
section
variable {rs : List Ru} {cs : List Nat} {T : TB}
theorem fork_by_is (V : Tab rs cs T) {n x y : Str} {b e : Nat} {c : Int} (kx : x ∈ rs.map Ru.hd) (kz : y ∈ rs.map Ru.hd) (hb : b ≤ e) (he : e ≤ cs.length) :
    sem_fork_by [(Ru.fork n x y).d, tbD T, .int (b : Nat), .int (e : Nat), .int c] = some (.ret (optS cs b e ((splitP (ct T) x y b e c).map fun p => .fk n x y p)) false []) := by
  have h40 := V.len
  unfold sem_fork_by g_fork_by
  refine sem_eq rfl ?_
  refine rs_asg (d := (Ru.fork n x y).d) (ρ' := [some (.sh (Ru.fork n x y).d), some (.sh (tbD T)), some (.sh (.int (b : Nat))), some (.sh (.int (e : Nat))), some (.sh (.int c)), some (.sh (.str n)), some (.sh (.str x)), some (.sh (.str y)), none, none, none]) rfl rfl ?_
  refine rs_forOf (List.range (e + 1 - b)) (fun i => .int ((b + i : Nat) : Int)) (fun ys ρ => ∃ a8 a9 a10, ρ = [some (.sh (Ru.fork n x y).d), some (.sh (tbD T)), some (.sh (.int (b : Nat))), some (.sh (.int (e : Nat))), some (.sh (.int c)), some (.sh (.str n)), some (.sh (.str x)), some (.sh (.str y)), a8, a9, a10] ∧ ∀ i ∈ ys, ¬ ct T x b (b + i) + ct T y (b + i) e = c) ?_ ⟨none, none, none, rfl, fun _ h => by cases h⟩ ?_ ?_
  · exact bind_of (cons2_is rfl (cons2_is (op2_is rfl rfl rfl) rfl)) (rng2_nat (a := b) (n := e + 1) (by omega) (by omega))
  · rintro ys i r ρ hxs ⟨a8, a9, a10, rfl, hno⟩
    obtain ⟨hi, hlt⟩ := range_at hxs
    refine ⟨_, rfl, rs_set (d := kyD x b (b + i)) (mkT_of (cons2_is rfl (cons2_is rfl (cons2_is rfl rfl)))) (rs_set (d := kyD y (b + i) e) (mkT_of (cons2_is rfl (cons2_is rfl (cons2_is rfl rfl)))) ?_)⟩
    refine run_if (b := decide (ct T x b (b + i) + ct T y (b + i) e = c)) (opT_is (op2_is (getT_nm (n := x) (b := b) (e := b + i) rfl rfl (V.get ⟨kx, by omega, by omega⟩)) (getT_nm (n := y) (b := b + i) (e := e) rfl rfl (V.get ⟨kz, by omega, he⟩)) (show addD (.int (ct T x b (b + i))) (.int (ct T y (b + i) e)) = some (.int (ct T x b (b + i) + ct T y (b + i) e)) from rfl)) rfl (eqD_int _ _)) (fun hq => ?_) fun hq => ?_
    · refine run_ret (mkT_of (cons2_is rfl (cons2_is rfl (cons2_is rfl rfl)))) (turn_rt (thn_rt (ret_ok (Nat.le_of_ble_eq_true rfl) ?_)))
      rw [splitP_some hxs hno (of_decide_eq_true hq)]
      rfl
    · refine run_nx ⟨_, _, _, rfl, fun j hj => ?_⟩
      rcases List.mem_append.mp hj with hj | hj
      · exact hno j hj
      · rcases List.mem_singleton.mp hj with rfl
        exact of_decide_eq_false hq
  · rintro ρ ⟨a8, a9, a10, rfl, hno⟩
    refine run_ret (d := .none) rfl (ret_ok (Nat.le_of_ble_eq_true rfl) ?_)
    rw [splitP_none hno]
    rfl
theorem step_by_is (V : Tab rs cs T) {r : Ru} (hr : r ∈ rs) {b e : Nat} (hb : b ≤ e) (he : e ≤ cs.length) :
    sem_step_by [r.d, .str (txt cs), tbD T, .int (b : Nat), .int (e : Nat)] = some (.ret (optS cs b e (spBy cs (ct T) b e r)) false []) := by
  have h40 := V.len
  have hk : Ky rs cs r.hd b e := ⟨List.mem_map.mpr ⟨r, hr, rfl⟩, hb, he⟩
  unfold sem_step_by g_step_by
  refine sem_eq rfl ?_
  refine rs_set (d := .int (ct T r.hd b e)) (getT_of rfl (keys_ky (op2_is rfl rfl (ix0 r)) rfl rfl) (V.get hk)) ?_
  refine rs_if (b := r.isF) (trT_of (callS_is (cons2_is rfl rfl) rfl (is_fork_is r)) rfl) (fun hq => ?_) fun hq => ?_
  · cases r with
    | leaf n s => cases hq
    | fork n x y =>
      obtain ⟨kx, kz⟩ := V.good.known n x y hr
      exact run_ret (callS_of (cons2_is rfl (cons2_is rfl (cons2_is rfl (cons2_is rfl (cons2_is rfl rfl))))) (fork_by_is V kx kz hb he)) (thn_rt (ret_ok (Nat.le_of_ble_eq_true rfl) rfl))
  · cases r with
    | fork n x y => cases hq
    | leaf n s =>
      have hs := Ru.sign1 (V.good.ok _ hr) n s rfl
      refine rs_asg (d := (Ru.leaf n s).d) (ρ' := [some (.sh (Ru.leaf n s).d), some (.sh (.str (txt cs))), some (.sh (tbD T)), some (.sh (.int (b : Nat))), some (.sh (.int (e : Nat))), some (.sh (.int (ct T n b e))), some (.sh (.str n)), some (.sh (.str s))]) rfl rfl ?_
      refine rs_if (b := !decide (lc cs s b e = ct T n b e)) (opT_is (callS_of (cons2_is rfl (cons2_is rfl (cons2_is rfl (cons2_is rfl rfl)))) (leaf_cost_is hs hb he (by omega))) rfl (neD_int _ _)) (fun hq2 => ?_) fun hq2 => ?_
      · refine run_ret (d := .none) rfl (thn_rt (ret_ok (Nat.le_of_ble_eq_true rfl) ?_))
        have : ¬ lc cs s b e = ct T n b e := by simpa using hq2
        show _ = optS cs b e (if lc cs s b e = ct T n b e then some (Sp.lf n s) else none)
        rw [if_neg this]
        rfl
      · have : lc cs s b e = ct T n b e := by simpa using hq2
        refine run_ret (mkT_of (cons2_is rfl (cons2_is rfl (cons2_is rfl (cons2_is rfl (cons2_is (callS_of (cons2_is rfl (cons2_is rfl (cons2_is rfl (cons2_is rfl rfl)))) (kept_is hs hb he (by omega))) rfl)))))) (ret_ok (Nat.le_of_ble_eq_true rfl) ?_)
        show _ = optS cs b e (if lc cs s b e = ct T n b e then some (Sp.lf n s) else none)
        rw [if_pos this]
        rfl
theorem Good.txok {rs : List Ru} (G : Good rs) {n : Str} (h : n ∈ rs.map Ru.hd) : TxOk n := by
  obtain ⟨r, hr, rfl⟩ := List.mem_map.mp h
  exact ok_nm (Ru.okhd (G.ok r hr)) _ rfl
theorem told_step_is (V : Tab rs cs T) {n : Str} {b e : Nat} (hk : Ky rs cs n b e) : sem_told_step [.list (rs.map Ru.d), .str (txt cs), tbD T, kyD n b e] = some (.ret (optS cs b e (toldS cs (ct T) n b e rs)) false []) := by
  unfold sem_told_step g_told_step
  refine sem_eq rfl ?_
  refine rs_asg (d := kyD n b e) (ρ' := [some (.sh (.list (rs.map Ru.d))), some (.sh (.str (txt cs))), some (.sh (tbD T)), some (.sh (kyD n b e)), some (.sh (.str n)), some (.sh (.int (b : Nat))), some (.sh (.int (e : Nat))), none, none]) rfl rfl ?_
  refine rs_forOf rs Ru.d (fun ys ρ => ∃ a7 a8, ρ = [some (.sh (.list (rs.map Ru.d))), some (.sh (.str (txt cs))), some (.sh (tbD T)), some (.sh (kyD n b e)), some (.sh (.str n)), some (.sh (.int (b : Nat))), some (.sh (.int (e : Nat))), a7, a8] ∧ toldS cs (ct T) n b e ys = none) rfl ⟨none, none, rfl, rfl⟩ ?_ ?_
  · rintro ys r rest ρ hxs ⟨a7, a8, rfl, hno⟩
    have hr : r ∈ rs := by rw [hxs]; exact List.mem_append_right _ List.mem_cons_self
    have app : ∀ zs, toldS cs (ct T) n b e (ys ++ zs) = toldS cs (ct T) n b e zs := fun zs => by
      unfold toldS at hno ⊢
      rw [List.findSome?_append, hno]
      rfl
    refine ⟨_, rfl, ?_⟩
    refine run_if (b := decide (r.hd = n)) (opT_is (op2_is rfl rfl (ix0 r)) rfl (eqD_str (V.good.txok (List.mem_map.mpr ⟨r, hr, rfl⟩)) (V.good.txok hk.1))) (fun hq => ?_) fun hq => ?_
    · have hn : r.hd = n := of_decide_eq_true hq
      refine rs_set (callS_of (cons2_is rfl (cons2_is rfl (cons2_is rfl (cons2_is rfl (cons2_is rfl rfl))))) (step_by_is V hr hk.2.1 hk.2.2)) ?_
      refine run_if (b := (spBy cs (ct T) b e r).isSome) (opT_is rfl rfl (isnt_optS _)) (fun hq2 => ?_) fun hq2 => ?_
      · obtain ⟨s, hs⟩ := Option.isSome_iff_exists.mp hq2
        refine run_ret (d := optS cs b e (spBy cs (ct T) b e r)) rfl (turn_rt (thn_rt (ret_ok (Nat.le_of_ble_eq_true rfl) ?_)))
        rw [hxs, app]
        unfold toldS
        rw [List.findSome?_cons, if_pos hn, hs]
      · refine run_nx ⟨_, _, rfl, ?_⟩
        rw [app]
        unfold toldS
        rw [List.findSome?_cons, if_pos hn]
        cases q : spBy cs (ct T) b e r with
        | none => rfl
        | some s =>
          rw [q] at hq2
          cases hq2
    · refine run_nx ⟨_, _, rfl, ?_⟩
      rw [app]
      unfold toldS
      rw [List.findSome?_cons, if_neg (of_decide_eq_false hq)]
      rfl
  · rintro ρ ⟨a7, a8, rfl, hno⟩
    refine run_ret (d := .none) rfl (ret_ok (Nat.le_of_ble_eq_true rfl) ?_)
    rw [hno]
    rfl
/-- some rule comes to the cost -/
theorem told_some (V : Tab rs cs T) {n : Str} {b e : Nat} (hk : Ky rs cs n b e) : ∃ s, toldS cs (ct T) n b e rs = some s := by
  obtain ⟨r, hr, rfl, ho⟩ := V.ci.att n hk.1 b e hk.2
  cases q : toldS cs (ct T) r.hd b e rs with
  | some s => exact ⟨s, rfl⟩
  | none =>
    unfold toldS at q
    have := List.findSome?_eq_none_iff.mp q r hr
    rw [if_pos rfl] at this
    cases r with
    | leaf n s =>
      have this : (if lc cs s b e = ct T n b e then some (Sp.lf n s) else none) = none := this
      rw [if_pos (show lc cs s b e = ct T n b e from ho.symm)] at this
      cases this
    | fork n x y =>
      obtain ⟨p, h1, h2, h3⟩ := ho
      have hn := Option.map_eq_none_iff.mp (show (splitP (ct T) x y b e (ct T n b e)).map _ = none from this)
      unfold splitP at hn
      rw [List.find?_eq_none] at hn
      exact absurd (decide_eq_true h3.symm) (hn p (List.mem_map.mpr ⟨p - b, List.mem_range.mpr (by omega), by omega⟩))
theorem told_in {n : Str} {b e : Nat} {C : CF} {s : Sp} (h : toldS cs C n b e rs = some s) : ∃ r ∈ rs, r.hd = n ∧ spBy cs C b e r = some s := by
  unfold toldS at h
  obtain ⟨r, h1, h2⟩ := List.exists_of_findSome?_eq_some h
  split at h2
  · rename_i hn
    exact ⟨r, h1, hn, h2⟩
  · cases h2
theorem told_fk {n m x y : Str} {b e p : Nat} {C : CF} (h : toldS cs C n b e rs = some (.fk m x y p)) : m = n ∧ Ru.fork n x y ∈ rs ∧ b ≤ p ∧ p ≤ e ∧ C x b p + C y p e = C n b e := by
  obtain ⟨r, h1, h2, h3⟩ := told_in h
  cases r with
  | leaf n' s =>
    have h3 : (if lc cs s b e = C n' b e then some (Sp.lf n' s) else none) = some (Sp.fk m x y p) := h3
    split at h3 <;> cases h3
  | fork n' x' y' =>
    obtain ⟨q, h4, h5⟩ := Option.map_eq_some_iff.mp (show (splitP C x' y' b e (C n' b e)).map (fun p => Sp.fk n' x' y' p) = some _ from h3)
    cases h5
    cases h2
    obtain ⟨g1, g2, g3⟩ := splitP_is h4
    exact ⟨rfl, h1, g1, by omega, g3⟩
theorem told_lf {n m s : Str} {b e : Nat} {C : CF} (h : toldS cs C n b e rs = some (.lf m s)) : m = n ∧ Ru.leaf n s ∈ rs ∧ lc cs s b e = C n b e := by
  obtain ⟨r, h1, h2, h3⟩ := told_in h
  cases r with
  | leaf n' s' =>
    have h3 : (if lc cs s' b e = C n' b e then some (Sp.lf n' s') else none) = some (Sp.lf m s) := h3
    split at h3
    · rename_i hc
      cases h3
      cases h2
      exact ⟨rfl, h1, hc⟩
    · cases h3
  | fork n' x' y' =>
    obtain ⟨q, h4, h5⟩ := Option.map_eq_some_iff.mp (show (splitP C x' y' b e (C n' b e)).map (fun p => Sp.fk n' x' y' p) = some _ from h3)
    cases h5
theorem is_fork_sp (s : Sp) (b e : Nat) : sem_is_fork [s.d cs b e] = some (.ret (.bool (match s with | .fk .. => true | _ => false)) false []) := by
  cases s <;> simp [sem_is_fork, semR, g_is_fork, shs, op2, nmW, Cell.got, callD, cons2, lenD, eqD, eqv_int, shaped_int, Sp.d, fin0]
end
end MD

namespace MD
open PySem L2 DS
/-! ## all the told steps -/
abbrev Tri := Str × Nat × Nat
def Tri.k (t : Tri) : List Key := ky t.1 t.2.1 t.2.2
def Tri.d (t : Tri) : D := kyD t.1 t.2.1 t.2.2
def Tri.ok (rs : List Ru) (cs : List Nat) (t : Tri) : Prop := Ky rs cs t.1 t.2.1 t.2.2
def kids : Sp → Nat → Nat → List Tri
  | .lf _ _, _, _ => []
  | .fk _ x y p, b, e => [(x, b, p), (y, p, e)]
def allK (rs : List Ru) (cs : List Nat) : List (List Key) := (rs.map Ru.hd).flatMap fun n => (List.range (cs.length + 1)).flatMap fun b => (List.range (cs.length + 1)).map fun e => ky n b e
def cntK (rs : List Ru) (cs : List Nat) (S : TB) : Nat := ((allK rs cs).filter fun k => (lookD S k).isNone).length
structure StI (rs : List Ru) (cs : List Nat) (T : TB) (S : TB) (W : List Tri) (top : Tri) : Prop where
  st : ∀ p ∈ S, ∃ (t : Tri) (s : Sp), t.ok rs cs ∧ p = (t.k, s.d cs t.2.1 t.2.2) ∧ toldS cs (ct T) t.1 t.2.1 t.2.2 rs = some s ∧ ∀ u ∈ kids s t.2.1 t.2.2, (∃ q ∈ S, q.1 = u.k) ∨ u ∈ W
  wt : ∀ t ∈ W, t.ok rs cs
  tp : (∃ q ∈ S, q.1 = top.k) ∨ top ∈ W
  ln : S.length + cntK rs cs S ≤ 67240
  wl : W.length ≤ S.length + 1
theorem flat_len {α β : Type} {f : α → List β} {c : Nat} : ∀ l : List α, (∀ x ∈ l, (f x).length ≤ c) → (l.flatMap f).length ≤ l.length * c
  | [], _ => Nat.zero_le _
  | x :: r, h => by
    rw [List.flatMap_cons, List.length_append, List.length_cons, Nat.succ_mul]
    have := h x List.mem_cons_self
    have := flat_len r fun y hy => h y (List.mem_cons_of_mem _ hy)
    omega
theorem allK_len {rs : List Ru} {cs : List Nat} (h1 : rs.length ≤ 40) (h2 : cs.length ≤ 40) : (allK rs cs).length ≤ 67240 := by
  unfold allK
  have h := flat_len (f := fun n => (List.range (cs.length + 1)).flatMap fun b => (List.range (cs.length + 1)).map fun e => ky n b e) (c := 41 * 41) (rs.map Ru.hd) (fun n _ => by
    have := flat_len (f := fun b => (List.range (cs.length + 1)).map fun e => ky n b e) (c := 41) (List.range (cs.length + 1)) (fun b _ => by rw [List.length_map, List.length_range]; omega)
    rw [List.length_range] at this
    refine Nat.le_trans this (Nat.mul_le_mul_right _ (by omega)))
  rw [List.length_map] at h
  have : rs.length * (41 * 41) ≤ 40 * (41 * 41) := Nat.mul_le_mul_right _ h1
  omega
theorem mem_allK {rs : List Ru} {cs : List Nat} {t : Tri} (h : t.ok rs cs) : t.k ∈ allK rs cs := by
  obtain ⟨h1, h2, h3⟩ := h
  exact List.mem_flatMap.mpr ⟨t.1, h1, List.mem_flatMap.mpr ⟨t.2.1, List.mem_range.mpr (by omega), List.mem_map.mpr ⟨t.2.2, List.mem_range.mpr (by omega), rfl⟩⟩⟩
theorem inTS_is {i : Nat} {fk : Nv → Option (List Key)} {ρ : Nv} {c : Cell} {T : TB} {k : List Key} (h1 : fk ρ = some k) (hc : ρ[i]? = some (some c)) (hm : c.mine = true) (hg : c.got = tbD T) : inTS i fk ρ = some (lookD T k).isSome := by
  unfold inTS
  rw [h1, Option.bind_some, hc]
  dsimp only
  rw [if_pos hm, hg]
  show (decT (T.map enTD)).map _ = _
  rw [decT_en]
  rfl
theorem rs_putT {i : Nat} {fk : Nv → Option (List Key)} {fv : Nv → Option D} {ρ ρ' : Nv} {g' : Nv → Option SR} {φ : SR → Prop} (h : putTS i fk fv ρ = some (.nx ρ')) (q : Run (g' ρ') φ) : Run (seqS (putTS i fk fv) g' ρ) φ := run_seq ⟨.nx ρ', h, q⟩
section
variable {rs : List Ru} {cs : List Nat} {T : TB}
theorem cnt_put {S : TB} {t : Tri} (ok : t.ok rs cs) (hn : lookD S t.k = none) (d : D) : cntK rs cs (S ++ [(t.k, d)]) < cntK rs cs S := by
  refine filt_lt _ (fun k _ h => ?_) ⟨t.k, mem_allK ok, by rw [hn]; rfl, ?_⟩
  · rw [lookD_app] at h
    cases q : lookD S k with
    | none => rfl
    | some z =>
      rw [q] at h
      cases h
  · rw [lookD_app, hn, lookD_cons, if_pos rfl]
    exact Bool.false_ne_true
theorem kids_ok (V : Tab rs cs T) {t : Tri} (ok : t.ok rs cs) {s : Sp} (hs : toldS cs (ct T) t.1 t.2.1 t.2.2 rs = some s) : ∀ u ∈ kids s t.2.1 t.2.2, u.ok rs cs := by
  cases s with
  | lf n s => exact fun u hu => by cases hu
  | fk n x y p =>
    obtain ⟨_, h1, h2, h3, _⟩ := told_fk hs
    obtain ⟨kx, kz⟩ := V.good.known _ x y h1
    obtain ⟨_, o2, o3⟩ := ok
    intro u hu
    rcases List.mem_cons.mp hu with rfl | hu
    · exact ⟨kx, h2, by show p ≤ _; omega⟩
    · rcases List.mem_singleton.mp hu with rfl
      exact ⟨kz, h3, o3⟩
theorem sti_new {S : TB} {W : List Tri} {t top : Tri} {s : Sp} (V : Tab rs cs T) (I : StI rs cs T S (W ++ [t]) top) (hn : lookD S t.k = none) (hs : toldS cs (ct T) t.1 t.2.1 t.2.2 rs = some s) :
    StI rs cs T (S ++ [(t.k, s.d cs t.2.1 t.2.2)]) (W ++ kids s t.2.1 t.2.2) top := by
  have ok := I.wt t (List.mem_append_right _ (List.mem_singleton.mpr rfl))
  have mv : ∀ u : Tri, ((∃ q ∈ S, q.1 = u.k) ∨ u ∈ W ++ [t]) → (∃ q ∈ S ++ [(t.k, s.d cs t.2.1 t.2.2)], q.1 = u.k) ∨ u ∈ W ++ kids s t.2.1 t.2.2 := fun u h => by
    rcases h with ⟨q, h1, h2⟩ | h
    · exact .inl ⟨q, List.mem_append_left _ h1, h2⟩
    · rcases List.mem_append.mp h with h | h
      · exact .inr (List.mem_append_left _ h)
      · rcases List.mem_singleton.mp h with rfl
        exact .inl ⟨_, List.mem_append_right _ (List.mem_singleton.mpr rfl), rfl⟩
  refine ⟨fun p hp => ?_, fun u hu => ?_, mv top I.tp, ?_, ?_⟩
  · rcases List.mem_append.mp hp with hp | hp
    · obtain ⟨t', s', h1, h2, h3, h4⟩ := I.st p hp
      exact ⟨t', s', h1, h2, h3, fun u hu => mv u (h4 u hu)⟩
    · rcases List.mem_singleton.mp hp with rfl
      exact ⟨t, s, ok, rfl, hs, fun u hu => .inr (List.mem_append_right _ hu)⟩
  · rcases List.mem_append.mp hu with hu | hu
    · exact I.wt u (List.mem_append_left _ hu)
    · exact kids_ok V ok hs u hu
  · have := cnt_put ok hn (s.d cs t.2.1 t.2.2)
    have := I.ln
    rw [List.length_append]
    show S.length + 1 + _ ≤ _
    omega
  · have := I.wl
    rw [List.length_append] at this ⊢
    rw [List.length_append]
    have hk : (kids s t.2.1 t.2.2).length ≤ 2 := by cases s <;> exact Nat.le_of_ble_eq_true rfl
    have h1 : W.length + 1 ≤ S.length + 1 := this
    show _ ≤ S.length + 1 + 1
    omega
theorem sti_old {S : TB} {W : List Tri} {t top : Tri} (I : StI rs cs T S (W ++ [t]) top) {d : D} (hn : lookD S t.k = some d) : StI rs cs T S W top := by
  have mv : ∀ u : Tri, ((∃ q ∈ S, q.1 = u.k) ∨ u ∈ W ++ [t]) → (∃ q ∈ S, q.1 = u.k) ∨ u ∈ W := fun u h => by
    rcases h with h | h
    · exact .inl h
    · rcases List.mem_append.mp h with h | h
      · exact .inr h
      · rcases List.mem_singleton.mp h with rfl
        exact .inl ⟨_, lookD_mem hn, rfl⟩
  refine ⟨fun p hp => ?_, fun u hu => I.wt u (List.mem_append_left _ hu), mv top I.tp, I.ln, ?_⟩
  · obtain ⟨t', s', h1, h2, h3, h4⟩ := I.st p hp
    exact ⟨t', s', h1, h2, h3, fun u hu => mv u (h4 u hu)⟩
  · have := I.wl
    rw [List.length_append] at this
    have : W.length + 1 ≤ S.length + 1 := this
    omega
theorem told_steps_is (V : Tab rs cs T) {top : Tri} (hk : top.ok rs cs) : ∃ S, sem_told_steps [.list (rs.map Ru.d), .str (txt cs), tbD T, top.d] = some (.ret (tbD S) true []) ∧ StI rs cs T S [] top := by
  have key := sem_of (o := true) (ψ := fun d => ∃ S, d = tbD S ∧ StI rs cs T S [] top) (ds := [.list (rs.map Ru.d), .str (txt cs), tbD T, top.d]) (k := 4) (m := 4) (g := g_told_steps) rfl ?_
  · obtain ⟨d, h1, S, rfl, h2⟩ := key
    exact ⟨S, h1, h2⟩
  unfold g_told_steps
  refine rs_setN (d := .dict []) rfl ?_
  refine rs_setN (d := .list [top.d]) (mkL_of (cons2_is rfl rfl)) ?_
  refine rs_while (n := 2 * cntK rs cs [] + 1) (fun n ρ => ∃ S W x6 x7, ρ = [some (.sh (.list (rs.map Ru.d))), some (.sh (.str (txt cs))), some (.sh (tbD T)), some (.sh top.d), some (.ow (tbD S)), some (.ow (.list (W.map Tri.d))), x6, x7] ∧ StI rs cs T S W top ∧ n = 2 * cntK rs cs S + W.length) ⟨[], [top], none, none, rfl, ⟨fun _ h => (by cases h), fun t ht => ?_, .inr (List.mem_singleton.mpr rfl), ?_, Nat.le_refl _⟩, rfl⟩ ?_
  · rcases List.mem_singleton.mp ht with rfl
    exact hk
  · have h1 : cntK rs cs [] ≤ (allK rs cs).length := List.length_filter_le _ _
    have h2 := allK_len V.good.le V.len
    show 0 + _ ≤ _
    omega
  rintro n ρ ⟨S, W, x6, x7, rfl, I, rfl⟩
  rcases List.eq_nil_or_concat W with rfl | ⟨W', t, hW⟩
  · exact ⟨false, rfl, fun _ => run_retNm (d := tbD S) (o := true) rfl (ret_ok (Nat.le_of_ble_eq_true rfl) ⟨S, rfl, I⟩), fun z => by cases z⟩
  rw [List.concat_eq_append] at hW
  subst hW
  have ok := I.wt t (List.mem_append_right _ (List.mem_singleton.mpr rfl))
  have wl := I.wl
  rw [List.length_append] at wl
  have wl' : W'.length + 1 ≤ S.length + 1 := wl
  have sl := I.ln
  refine ⟨true, ?_, fun z => (by cases z), fun _ => ?_⟩
  · show truD (.list ((W' ++ [t]).map Tri.d)) = _
    rw [List.map_append]
    show some (!(W'.map Tri.d ++ [t.d]).isEmpty) = _
    simp
  refine rs_pop (c := .ow (.list ((W' ++ [t]).map Tri.d))) (xs := W'.map Tri.d) (x := t.d) rfl rfl (by show PyData.list _ = _; rw [List.map_append]; rfl) ?_
  have tst : ∀ {r : Option Bool}, r = some (lookD S t.k).isSome → r.map (! ·) = some (!(lookD S t.k).isSome) := fun h => by rw [h]; rfl
  refine run_if (b := !(lookD S t.k).isSome) (tst (inTS_is (k := t.k) (T := S) (c := .ow (tbD S)) rfl rfl rfl rfl)) (fun hq => ?_) fun hq => ?_
  · have hn : lookD S t.k = none := by
      cases q : lookD S t.k with
      | none => rfl
      | some d =>
        rw [q] at hq
        cases hq
    obtain ⟨s, hs⟩ := told_some V ok
    have I2 := sti_new V I hn hs
    have hput : putKD S t.k (s.d cs t.2.1 t.2.2) = S ++ [(t.k, s.d cs t.2.1 t.2.2)] := put_new (lookD_none.mp hn)
    have hc := cnt_put ok hn (s.d cs t.2.1 t.2.2)
    refine rs_set (d := s.d cs t.2.1 t.2.2) (callS_of (cons2_is rfl (cons2_is rfl (cons2_is rfl (cons2_is rfl rfl)))) ((told_step_is V ok).trans (by rw [hs]; rfl))) ?_
    refine rs_putT (putTS_of (T := S) (k := t.k) (v := s.d cs t.2.1 t.2.2) (c := .ow (tbD S)) rfl rfl rfl rfl rfl (by omega)) ?_
    rw [hput]
    refine run_if (trT_of (callS_of (cons2_is rfl rfl) (is_fork_sp s t.2.1 t.2.2)) rfl) (fun hq2 => ?_) fun hq2 => ?_
    · cases s with
      | lf n s => cases hq2
      | fk n x y p =>
        refine run_ext (xs := W'.map Tri.d) (ys := [kyD x t.2.1 p, kyD y p t.2.2]) (c := .ow (.list (W'.map Tri.d))) (mkL_of (cons2_is (op2_is rfl rfl rfl) (cons2_is (op2_is rfl rfl rfl) rfl))) rfl rfl rfl (by rw [List.length_map]; show W'.length + 2 ≤ 100000; omega) ⟨_, ?_, S ++ [(t.k, (Sp.fk n x y p).d cs t.2.1 t.2.2)], W' ++ kids (.fk n x y p) t.2.1 t.2.2, some (.sh t.d), some (.sh ((Sp.fk n x y p).d cs t.2.1 t.2.2)), ?_, I2, rfl⟩
        · rw [List.length_append, List.length_append]
          show 2 * _ + (W'.length + 2) < 2 * _ + (W'.length + 1)
          omega
        · have e2 : (W' ++ kids (Sp.fk n x y p) t.2.1 t.2.2).map Tri.d = W'.map Tri.d ++ [kyD x t.2.1 p, kyD y p t.2.2] := by
            rw [List.map_append]
            rfl
          rw [e2]
          rfl
    · cases s with
      | fk n x y p => cases hq2
      | lf n s' =>
        refine run_nx ⟨_, ?_, S ++ [(t.k, (Sp.lf n s').d cs t.2.1 t.2.2)], W' ++ kids (.lf n s') t.2.1 t.2.2, some (.sh t.d), some (.sh ((Sp.lf n s').d cs t.2.1 t.2.2)), ?_, I2, rfl⟩
        · rw [List.length_append, List.length_append]
          show 2 * _ + (W'.length + 0) < 2 * _ + (W'.length + 1)
          omega
        · have e2 : (W' ++ kids (Sp.lf n s') t.2.1 t.2.2).map Tri.d = W'.map Tri.d := by
            rw [List.map_append]
            exact List.append_nil _
          rw [e2]
          rfl
  · cases q : lookD S t.k with
    | none =>
      rw [q] at hq
      cases hq
    | some d =>
      refine run_nx ⟨_, ?_, S, W', _, _, rfl, sti_old I q, rfl⟩
      rw [List.length_append]
      show 2 * _ + W'.length < 2 * _ + (W'.length + 1)
      omega
end
end MD

namespace MD
open PySem L2 DS
/-! ## the told tree -/
inductive Tr where
  | lf (n s : Str) (b e : Nat) (k : Option Nat)
  | fk (n : Str) (l r : Tr)
def Tr.d : Tr → D
  | .lf n s b e k => .tuple [.str n, .str s, .int (b : Nat), .int (e : Nat), natO k]
  | .fk n l r => .tuple [.str n, l.d, r.d]
inductive Told (rs : List Ru) (cs : List Nat) (C : CF) : Str → Nat → Nat → Tr → Prop
  | lf {n s : Str} {b e : Nat} : toldS cs C n b e rs = some (.lf n s) → Told rs cs C n b e (.lf n s b e (keptAt cs s b e))
  | fk {n x y : Str} {b e p : Nat} {l r : Tr} : toldS cs C n b e rs = some (.fk n x y p) → Told rs cs C x b p l → Told rs cs C y p e r → Told rs cs C n b e (.fk n l r)
theorem any_key {T : TB} {k : List Key} : (T.any fun kv => decide (kv.1 = k)) = true ↔ ∃ p ∈ T, p.1 = k := by
  rw [List.any_eq_true]
  constructor
  · rintro ⟨p, h1, h2⟩
    exact ⟨p, h1, by simpa using h2⟩
  · rintro ⟨p, h1, h2⟩
    exact ⟨p, h1, by simpa using h2⟩
theorem lookD_map (k k' : List Key) (d : D) : ∀ T : TB, lookD (T.map fun kv => if kv.1 = k then (kv.1, d) else kv) k' = (lookD T k').map fun x => if k' = k then d else x
  | [] => rfl
  | p :: r => by
    rw [List.map_cons, lookD_cons, lookD_cons, lookD_map k k' d r]
    by_cases h1 : p.1 = k
    · rw [if_pos h1]
      by_cases h2 : p.1 = k'
      · rw [if_pos h2, if_pos h2, Option.map_some, if_pos (h2 ▸ h1)]
      · rw [if_neg h2, if_neg h2]
    · rw [if_neg h1]
      by_cases h2 : p.1 = k'
      · rw [if_pos h2, if_pos h2, Option.map_some, if_neg (fun z => h1 (h2.trans z))]
      · rw [if_neg h2, if_neg h2]
theorem lookD_put (T : TB) (k k' : List Key) (d : D) : lookD (putKD T k d) k' = if k' = k then some d else lookD T k' := by
  unfold putKD
  split
  · rename_i h
    obtain ⟨p, hp, hk⟩ := any_key.mp h
    rw [lookD_map]
    by_cases e : k' = k
    · subst e
      rw [if_pos rfl]
      cases q : lookD T k' with
      | none => exact absurd hk (lookD_none.mp q p hp)
      | some x => rw [Option.map_some, if_pos rfl]
    · rw [if_neg e]
      cases lookD T k' with
      | none => rfl
      | some x => rw [Option.map_some, if_neg e]
  · rename_i h
    rw [lookD_app, lookD_cons]
    by_cases e : k' = k
    · subst e
      rw [if_pos rfl, if_pos rfl]
      have : lookD T k' = none := lookD_none.mpr fun p hp z => h (any_key.mpr ⟨p, hp, z⟩)
      rw [this]
      rfl
    · rw [if_neg e, if_neg (fun z => e z.symm)]
      cases lookD T k' <;> rfl
theorem put_len' (T : TB) (k : List Key) (d : D) : (putKD T k d).length ≤ T.length + 1 := put_len T k d
section
variable {rs : List Ru} {cs : List Nat} {T : TB}
theorem lam_is (V : Tab rs cs T) {t : Tri} (h : t.ok rs cs) : lamKey T t.k = .tuple [.int ((t.2.2 : Int) - (t.2.1 : Int)), .int (ct T t.1 t.2.1 t.2.2)] ∧ lamOk T t.k = true := by
  have g := V.get h
  constructor
  · show (match lookD T t.k with
      | some (.int c) => PyData.tuple [.int ((t.2.2 : Int) - (t.2.1 : Int)), .int c]
      | _ => .none) = _
    rw [show lookD T t.k = _ from g]
  · show (match lookD T t.k with
      | some (.int _) => true
      | _ => false) = _
    rw [show lookD T t.k = _ from g]
/-- the order of the keys -/
theorem le_is (V : Tab rs cs T) {t u : Tri} (h1 : t.ok rs cs) (h2 : u.ok rs cs) (h : PySem.W.dataLe false (lamKey T) t.k u.k = true) : ¬ ((u.2.2 : Int) - u.2.1 < (t.2.2 : Int) - t.2.1 ∨ ((u.2.2 : Int) - u.2.1 = (t.2.2 : Int) - t.2.1 ∧ ct T u.1 u.2.1 u.2.2 < ct T t.1 t.2.1 t.2.2)) := by
  rw [PySem.W.dataLe_eq] at h
  have h : (!PySem.W.dataLt (lamKey T u.k) (lamKey T t.k)) = true := h
  rw [(lam_is V h1).1, (lam_is V h2).1, PySem.W.dataLt_ii] at h
  rw [Bool.not_eq_true'] at h
  exact of_decide_eq_false h
theorem sort_split {L : List (List Key)} {ys zs : List (List Key)} {k : List Key} (h : (L.mergeSort (PySem.W.dataLe false (lamKey T))) = ys ++ k :: zs) : ∀ z ∈ zs, PySem.W.dataLe false (lamKey T) k z = true := by
  have hp := PySem.W.sort_pairwise (le := PySem.W.dataLe false (lamKey T)) (PySem.W.sortLe_total _ _ _) L
  rw [h] at hp
  have := (List.pairwise_append.mp hp).2.1
  exact (List.pairwise_cons.mp this).1
theorem told_tree_is (V : Tab rs cs T) {top : Tri} (hk : top.ok rs cs) : ∃ t, sem_told_tree [.list (rs.map Ru.d), .str (txt cs), tbD T, top.d] = some (.ret t.d false []) ∧ Told rs cs (ct T) top.1 top.2.1 top.2.2 t := by
  have key := sem_of (o := false) (ψ := fun d => ∃ t : Tr, d = t.d ∧ Told rs cs (ct T) top.1 top.2.1 top.2.2 t) (ds := [.list (rs.map Ru.d), .str (txt cs), tbD T, top.d]) (k := 4) (m := 7) (g := g_told_tree) rfl ?_
  · obtain ⟨d, h1, t, rfl, h2⟩ := key
    exact ⟨t, h1, h2⟩
  obtain ⟨S, hS, I⟩ := told_steps_is V hk
  have kid : ∀ p ∈ S, ∃ (t : Tri) (s : Sp), t.ok rs cs ∧ p = (t.k, s.d cs t.2.1 t.2.2) ∧ toldS cs (ct T) t.1 t.2.1 t.2.2 rs = some s ∧ ∀ u ∈ kids s t.2.1 t.2.2, ∃ q ∈ S, q.1 = u.k := fun p hp => by
    obtain ⟨t, s, h1, h2, h3, h4⟩ := I.st p hp
    exact ⟨t, s, h1, h2, h3, fun u hu => (h4 u hu).resolve_right (by intro z; cases z)⟩
  have stp : ∃ q ∈ S, q.1 = top.k := I.tp.resolve_right (by intro z; cases z)
  have slen : S.length ≤ 67240 := by have := I.ln; omega
  unfold g_told_tree
  refine rs_set (d := tbD S) (callS_of (cons2_is rfl (cons2_is rfl (cons2_is rfl (cons2_is rfl rfl)))) hS) ?_
  refine rs_setN (d := .dict []) rfl ?_
  have srt : sortLD (tbD S) (tbD T) = some (.list (((S.map (·.1)).mergeSort (PySem.W.dataLe false (lamKey T))).map fun k => .tuple (k.map kD))) := by
    unfold sortLD tbD
    dsimp only
    rw [decT_en, decT_en]
    show (if _ then _ else _) = _
    have hall : (S.all fun p => lamOk T p.1) = true := List.all_eq_true.mpr fun p hp => by
      obtain ⟨t, s, h1, rfl, _⟩ := kid p hp
      exact (lam_is V h1).2
    rw [if_pos ⟨fun z => (by obtain ⟨q, hq, _⟩ := stp; rw [z] at hq; cases hq), hall, by omega⟩]
  have memL : ∀ k, k ∈ (S.map (·.1)).mergeSort (PySem.W.dataLe false (lamKey T)) ↔ ∃ p ∈ S, p.1 = k := fun k => by
    rw [List.mem_mergeSort, List.mem_map]
  have lenL : ((S.map (·.1)).mergeSort (PySem.W.dataLe false (lamKey T))).length ≤ 67240 := by
    rw [List.length_mergeSort, List.length_map]
    exact slen
  have spl : ∀ ys k zs, (S.map (·.1)).mergeSort (PySem.W.dataLe false (lamKey T)) = ys ++ k :: zs → ∀ z ∈ zs, PySem.W.dataLe false (lamKey T) k z = true := fun ys k zs h => sort_split h
  generalize (S.map (·.1)).mergeSort (PySem.W.dataLe false (lamKey T)) = L at *
  refine rs_forOf L (fun k => .tuple (k.map kD)) (fun ys ρ => ∃ U a6 a7 a8 a9 a10, ρ = [some (.sh (.list (rs.map Ru.d))), some (.sh (.str (txt cs))), some (.sh (tbD T)), some (.sh top.d), some (.sh (tbD S)), some (.ow (tbD U)), a6, a7, a8, a9, a10] ∧ U.length ≤ ys.length ∧ ∀ k ∈ ys, ∃ (t : Tri) (r : Tr), t.ok rs cs ∧ k = t.k ∧ Told rs cs (ct T) t.1 t.2.1 t.2.2 r ∧ lookD U k = some r.d) ?_ ⟨[], none, none, none, none, none, rfl, Nat.le_refl _, fun _ h => by cases h⟩ ?_ ?_
  · refine bind_of (a := .list (L.map fun k => .tuple (k.map kD))) ?_ rfl
    exact bind_of (a := tbD S) rfl (bind_of (a := tbD T) rfl srt)
  · rintro ys k zs ρ hL ⟨U, a6, a7, a8, a9, a10, rfl, hU, hT⟩
    obtain ⟨p, hp, hpk⟩ := (memL k).mp (by rw [hL]; exact List.mem_append_right _ List.mem_cons_self)
    obtain ⟨t, s, ok, rfl, hs, hkids⟩ := kid p hp
    have hpk : t.k = k := hpk
    subst hpk
    have hlook : lookD S t.k = some (s.d cs t.2.1 t.2.2) := by
      cases q : lookD S t.k with
      | none => exact absurd rfl (lookD_none.mp q _ hp)
      | some d =>
        obtain ⟨t', s', h1, h2, h3, _⟩ := kid _ (lookD_mem q)
        injection h2 with h2 h4
        obtain ⟨e1, e2, e3⟩ := ky_inj (show ky t.1 t.2.1 t.2.2 = ky t'.1 t'.2.1 t'.2.2 from h2)
        rw [← e1, ← e2, ← e3, hs] at h3
        cases h3
        rw [h4, e2, e3]
    have ylen : ys.length < 100000 := by
      rw [hL, List.length_append] at lenL
      omega
    have fin : ∀ (r : Tr) (a8 a9 a10 : Option Cell), Told rs cs (ct T) t.1 t.2.1 t.2.2 r → ∃ U' b6 b7 b8 b9 b10, [some (Cell.sh (.list (rs.map Ru.d))), some (.sh (.str (txt cs))), some (.sh (tbD T)), some (.sh top.d), some (.sh (tbD S)), some (.ow (tbD (putKD U t.k r.d))), some (.sh (.tuple (t.k.map kD))), some (.sh (s.d cs t.2.1 t.2.2)), a8, a9, a10] = [some (.sh (.list (rs.map Ru.d))), some (.sh (.str (txt cs))), some (.sh (tbD T)), some (.sh top.d), some (.sh (tbD S)), some (.ow (tbD U')), b6, b7, b8, b9, b10] ∧ U'.length ≤ (ys ++ [t.k]).length ∧ ∀ k ∈ ys ++ [t.k], ∃ (t : Tri) (r : Tr), t.ok rs cs ∧ k = t.k ∧ Told rs cs (ct T) t.1 t.2.1 t.2.2 r ∧ lookD U' k = some r.d := by
      intro r a8 a9 a10 hr
      refine ⟨putKD U t.k r.d, _, _, _, _, _, rfl, ?_, fun k hk => ?_⟩
      · rw [List.length_append]
        exact Nat.le_trans (put_len _ _ _) (Nat.succ_le_succ hU)
      · rw [lookD_put]
        by_cases e : k = t.k
        · rw [if_pos e]
          exact ⟨t, r, ok, e, hr, rfl⟩
        · rw [if_neg e]
          rcases List.mem_append.mp hk with hk | hk
          · exact hT k hk
          · exact absurd (List.mem_singleton.mp hk) e
    refine ⟨_, rfl, rs_set (d := s.d cs t.2.1 t.2.2) (getT_nm (T := S) (n := t.1) (b := t.2.1) (e := t.2.2) rfl rfl hlook) ?_⟩
    refine run_if (trT_of (callS_of (cons2_is rfl rfl) (is_fork_sp s t.2.1 t.2.2)) rfl) (fun hq => ?_) fun hq => ?_
    · cases s with
      | lf n s => cases hq
      | fk n x y p =>
        obtain ⟨hn, hr, hp1, hp2, hc⟩ := told_fk hs
        subst hn
        obtain ⟨kx, kz⟩ := V.good.known _ x y hr
        obtain ⟨o1, o2, o3⟩ := ok
        have okx : Tri.ok rs cs (x, t.2.1, p) := ⟨kx, hp1, by show p ≤ _; omega⟩
        have oky : Tri.ok rs cs (y, p, t.2.2) := ⟨kz, hp2, o3⟩
        have px := V.pos x kx t.2.1 (by omega)
        have py := V.pos y kz t.2.2 o3
        have ahead : ∀ u : Tri, u.ok rs cs → (∃ q ∈ S, q.1 = u.k) → ((u.2.2 : Int) - u.2.1 < (t.2.2 : Int) - t.2.1 ∨ ((u.2.2 : Int) - u.2.1 = (t.2.2 : Int) - t.2.1 ∧ ct T u.1 u.2.1 u.2.2 < ct T t.1 t.2.1 t.2.2)) → u.k ∈ ys := fun u hu hin hlt => by
          have := (memL u.k).mpr hin
          rw [hL] at this
          rcases List.mem_append.mp this with h | h
          · exact h
          · rcases List.mem_cons.mp h with h | h
            · obtain ⟨e1, e2, e3⟩ := ky_inj (show ky u.1 u.2.1 u.2.2 = ky t.1 t.2.1 t.2.2 from h)
              rw [e1, e2, e3] at hlt
              omega
            · exact absurd hlt (le_is V ⟨o1, o2, o3⟩ hu (spl _ _ _ hL _ h))
        have hx := ahead (x, t.2.1, p) okx (hkids _ List.mem_cons_self) (by
          show ((p : Int) - t.2.1 < (t.2.2 : Int) - t.2.1 ∨ ((p : Int) - t.2.1 = (t.2.2 : Int) - t.2.1 ∧ ct T x t.2.1 p < ct T t.1 t.2.1 t.2.2))
          by_cases h : p < t.2.2
          · exact .inl (by omega)
          · have : p = t.2.2 := by omega
            subst this
            exact .inr ⟨rfl, by omega⟩)
        have hy := ahead (y, p, t.2.2) oky (hkids _ (List.mem_cons_of_mem _ List.mem_cons_self)) (by
          show ((t.2.2 : Int) - p < (t.2.2 : Int) - t.2.1 ∨ ((t.2.2 : Int) - p = (t.2.2 : Int) - t.2.1 ∧ ct T y p t.2.2 < ct T t.1 t.2.1 t.2.2))
          by_cases h : t.2.1 < p
          · exact .inl (by omega)
          · have : p = t.2.1 := by omega
            subst this
            exact .inr ⟨rfl, by omega⟩)
        obtain ⟨tx, rx, _, ex, hrx, lx⟩ := hT _ hx
        obtain ⟨ty, ry, _, ey, hry, ly⟩ := hT _ hy
        obtain ⟨e1, e2, e3⟩ := ky_inj (show ky x t.2.1 p = ky tx.1 tx.2.1 tx.2.2 from ex)
        obtain ⟨e4, e5, e6⟩ := ky_inj (show ky y p t.2.2 = ky ty.1 ty.2.1 ty.2.2 from ey)
        rw [← e1, ← e2, ← e3] at hrx
        rw [← e4, ← e5, ← e6] at hry
        refine rs_asg (d := (Sp.fk t.1 x y p).d cs t.2.1 t.2.2) (ρ' := [some (.sh (.list (rs.map Ru.d))), some (.sh (.str (txt cs))), some (.sh (tbD T)), some (.sh top.d), some (.sh (tbD S)), some (.ow (tbD U)), some (.sh (.tuple (t.k.map kD))), some (.sh ((Sp.fk t.1 x y p).d cs t.2.1 t.2.2)), some (.sh (.str t.1)), some (.sh (kyD x t.2.1 p)), some (.sh (kyD y p t.2.2))]) rfl rfl ?_
        refine ⟨_, putTS_of (T := U) (k := t.k) (v := (Tr.fk t.1 rx ry).d) (c := .ow (tbD U)) rfl (mkT_of (cons2_is rfl (cons2_is (getT_nm (n := x) (b := t.2.1) (e := p) rfl rfl lx) (cons2_is (getT_nm (n := y) (b := p) (e := t.2.2) rfl rfl ly) rfl)))) rfl rfl rfl (by omega), ?_⟩
        exact fin (.fk t.1 rx ry) _ _ _ (.fk hs hrx hry)
    · cases s with
      | fk n x y p => cases hq
      | lf n s' =>
        obtain ⟨hn, _, _⟩ := told_lf hs
        subst hn
        refine ⟨_, putTS_of (T := U) (k := t.k) (v := (Tr.lf t.1 s' t.2.1 t.2.2 (keptAt cs s' t.2.1 t.2.2)).d) (c := .ow (tbD U)) rfl rfl rfl rfl rfl (by omega), ?_⟩
        exact fin (.lf t.1 s' t.2.1 t.2.2 (keptAt cs s' t.2.1 t.2.2)) _ _ _ (.lf hs)
  · rintro ρ ⟨U, a6, a7, a8, a9, a10, rfl, hU, hT⟩
    obtain ⟨t, r, _, e, hr, hl⟩ := hT top.k ((memL top.k).mpr stp)
    obtain ⟨e1, e2, e3⟩ := ky_inj (show ky top.1 top.2.1 top.2.2 = ky t.1 t.2.1 t.2.2 from e)
    rw [← e1, ← e2, ← e3] at hr
    exact run_ret (getT_nm (T := U) (n := top.1) (b := top.2.1) (e := top.2.2) rfl rfl hl) (ret_ok (Nat.le_of_ble_eq_true rfl) ⟨r, rfl, hr⟩)
end
/-! ## mend -/
theorem atI_nat {α : Type} {xs : List α} {i : Nat} (h : i < xs.length) : atI xs (i : Nat) = xs[i]? := by
  unfold atI ixN
  rw [if_pos (by omega), if_pos (by omega)]
  rfl
theorem at0 (d : D) (r : List D) : ixD (.list (d :: r)) (.int 0) = some d := atI_nat (xs := d :: r) (i := 0) (Nat.succ_pos _)
def topN (rs : List Ru) : Str := match rs with
  | r :: _ => r.hd
  | [] => ⟨#[]⟩
theorem top_is {rs : List Ru} (h : 1 ≤ rs.length) : sem_top_of [.list (rs.map Ru.d)] = some (.ret (.str (topN rs)) false []) := by
  unfold sem_top_of g_top_of
  refine sem_eq rfl ?_
  cases rs with
  | nil => exact absurd h (by decide)
  | cons r rest => exact run_ret (op2_is (op2_is rfl rfl (show ixD (.list ((r :: rest).map Ru.d)) (.int 0) = some r.d from at0 _ _)) rfl (ix0 r)) (ret_ok (Nat.le_of_ble_eq_true rfl) rfl)
theorem topN_in {rs : List Ru} (h : 1 ≤ rs.length) : topN rs ∈ rs.map Ru.hd := by
  cases rs with
  | nil => exact absurd h (by decide)
  | cons r rest => exact List.mem_cons_self
theorem tab_of {rs : List Ru} {cs : List Nat} (G : Good rs) (hl : cs.length ≤ 40) (hs : ∀ c ∈ cs, sgB c = true) : ∃ T, sem_costs [.list (rs.map Ru.d), .str (txt cs)] = some (.ret (tbD T) true []) ∧ Tab rs cs T := by
  obtain ⟨T, h1, h2, h3⟩ := costs_is G hl hs
  exact ⟨T, h1, G, h2, h3, hl, hs⟩
theorem mend_is {rs : List Ru} {cs : List Nat} {T : TB} (V : Tab rs cs T) (hT : sem_costs [.list (rs.map Ru.d), .str (txt cs)] = some (.ret (tbD T) true [])) :
    ∃ t : Tr, sem_mend [.list (rs.map Ru.d), .str (txt cs)] = some (.ret (.tuple [t.d, .int (ct T (topN rs) 0 cs.length)]) false []) ∧ Told rs cs (ct T) (topN rs) 0 cs.length t := by
  have hk : Tri.ok rs cs (topN rs, 0, cs.length) := ⟨topN_in V.good.ne, Nat.zero_le _, Nat.le_refl _⟩
  obtain ⟨t, ht, hq⟩ := told_tree_is V hk
  have h40 := V.len
  refine ⟨t, ?_, hq⟩
  unfold sem_mend g_mend
  refine sem_eq rfl ?_
  refine rs_set (d := tbD T) (callS_of (cons2_is rfl (cons2_is rfl rfl)) hT) ?_
  refine rs_set (d := Tri.d (topN rs, 0, cs.length)) (mkT_of (cons2_is (callS_of (cons2_is rfl rfl) (top_is V.good.ne)) (cons2_is rfl (cons2_is (len_txt (by omega) rfl) rfl)))) ?_
  exact run_ret (mkT_of (cons2_is (callS_of (cons2_is rfl (cons2_is rfl (cons2_is rfl (cons2_is rfl rfl)))) ht) (cons2_is (getT_nm (n := topN rs) (b := 0) (e := cs.length) rfl rfl (V.get hk)) rfl))) (ret_ok (Nat.le_of_ble_eq_true rfl) rfl)
theorem reads_is {rs : List Ru} {cs : List Nat} {T : TB} (V : Tab rs cs T) (hT : sem_costs [.list (rs.map Ru.d), .str (txt cs)] = some (.ret (tbD T) true [])) :
    sem_reads [.list (rs.map Ru.d), .str (txt cs)] = some (.ret (.bool (decide (ct T (topN rs) 0 cs.length = 0))) false []) := by
  have hk : Tri.ok rs cs (topN rs, 0, cs.length) := ⟨topN_in V.good.ne, Nat.zero_le _, Nat.le_refl _⟩
  have h40 := V.len
  unfold sem_reads g_reads
  refine sem_eq rfl ?_
  refine rs_set (d := tbD T) (callS_of (cons2_is rfl (cons2_is rfl rfl)) hT) ?_
  exact run_ret (op2_is (getT_of (T := T) (k := ky (topN rs) 0 cs.length) rfl (keys_ky (callS_of (cons2_is rfl rfl) (top_is V.good.ne)) rfl (len_txt (by omega) rfl)) (V.get hk)) rfl (eqD_int _ _)) (ret_ok (Nat.le_of_ble_eq_true rfl) rfl)
end MD

namespace MD
open PySem L2 DS
/-! ## how great a cost, how many leaves -/
section
variable {rs : List Ru} {cs : List Nat} {T : TB}
theorem lc_le {s : Str} {b e : Nat} (h : b ≤ e) : lc cs s b e ≤ 1 + ((e : Int) - b) := by
  unfold lc
  split
  · omega
  · split <;> omega
theorem lc_ge {s : Str} {b e : Nat} (h : b ≤ e) : 1 ≤ lc cs s b e + ((e : Int) - b) := by
  unfold lc
  split
  · omega
  · split <;> omega
theorem lc_nn {s : Str} {b e : Nat} (h : b ≤ e) : 0 ≤ lc cs s b e := by
  unfold lc
  split
  · omega
  · split <;> omega
theorem cost_rank (V : Tab rs cs T) {rk : Str → Nat} (hrk : ∀ n ∈ rs.map Ru.hd, ∃ r ∈ rs, r.hd = n ∧ ∀ a b, r = .fork n a b → rk a < rk n ∧ rk b < rk n) : ∀ k n, n ∈ rs.map Ru.hd → rk n ≤ k → ∀ b e, b ≤ e → e ≤ cs.length → ct T n b e ≤ (2 ^ k : Nat) + ((e : Int) - b) := by
  intro k
  induction k with
  | zero =>
    intro n hn hk b e hb he
    obtain ⟨r, hr, rfl, h3⟩ := hrk n hn
    cases r with
    | leaf n s =>
      have h := V.ci.low _ hr b e ⟨hb, he⟩ _ (show opt cs (ct T) (.leaf n s) b e (lc cs s b e) from rfl)
      have := lc_le (cs := cs) (s := s) hb
      show ct T (Ru.leaf n s).hd b e ≤ ((1 : Nat) : Int) + _
      omega
    | fork n x y =>
      obtain ⟨h1, _⟩ := h3 x y rfl
      have : rk (Ru.fork n x y).hd ≤ 0 := hk
      have : rk x < rk (Ru.fork n x y).hd := h1
      omega
  | succ k ih =>
    intro n hn hk b e hb he
    obtain ⟨r, hr, rfl, h3⟩ := hrk n hn
    have p2 : (2 ^ (k + 1) : Nat) = 2 ^ k + 2 ^ k := by rw [Nat.pow_succ]; omega
    have p1 : 1 ≤ 2 ^ k := Nat.one_le_two_pow
    cases r with
    | leaf n s =>
      have h := V.ci.low _ hr b e ⟨hb, he⟩ _ (show opt cs (ct T) (.leaf n s) b e (lc cs s b e) from rfl)
      have := lc_le (cs := cs) (s := s) hb
      omega
    | fork n x y =>
      obtain ⟨h1, h2⟩ := h3 x y rfl
      obtain ⟨kx, kz⟩ := V.good.known n x y hr
      have hk' : rk (Ru.fork n x y).hd ≤ k + 1 := hk
      have h1' : rk x < rk (Ru.fork n x y).hd := h1
      have h2' : rk y < rk (Ru.fork n x y).hd := h2
      have c1 := ih x kx (by omega) b e hb he
      have c2 := ih y kz (by omega) e e (Nat.le_refl _) he
      have h := V.ci.low _ hr b e ⟨hb, he⟩ _ (show opt cs (ct T) (.fork n x y) b e (ct T x b e + ct T y e e) from ⟨e, hb, Nat.le_refl _, rfl⟩)
      omega
theorem ct_le (V : Tab rs cs T) {n : Str} {b e : Nat} (h : Ky rs cs n b e) : ct T n b e ≤ 4096 + ((e : Int) - b) := by
  obtain ⟨rk, h12, hrk⟩ := V.good.rank
  exact cost_rank V hrk 12 n h.1 (h12 n) b e h.2.1 h.2.2
def Tr.nl : Tr → Nat
  | .lf .. => 1
  | .fk _ l r => l.nl + r.nl
theorem Tr.nl_pos : ∀ t : Tr, 1 ≤ t.nl
  | .lf .. => Nat.le_refl _
  | .fk _ l r => by
    have := l.nl_pos
    show 1 ≤ l.nl + r.nl
    omega
theorem Told.ky (V : Tab rs cs T) {n : Str} {b e : Nat} {t : Tr} (h : Told rs cs (ct T) n b e t) (k : Ky rs cs n b e) : (t.nl : Int) ≤ ct T n b e + ((e : Int) - b) := by
  induction h with
  | lf hs =>
    obtain ⟨_, _, h3⟩ := told_lf hs
    have := lc_ge (cs := cs) (s := ‹Str›) k.2.1
    show ((1 : Nat) : Int) ≤ _
    rw [← h3]
    exact lc_ge k.2.1
  | fk hs hl hr ihl ihr =>
    obtain ⟨_, h1, h2, h3, h4⟩ := told_fk hs
    obtain ⟨kx, kz⟩ := V.good.known _ _ _ h1
    have a := ihl ⟨kx, h2, Nat.le_trans h3 k.2.2⟩
    have c := ihr ⟨kz, h3, k.2.2⟩
    show ((_ + _ : Nat) : Int) ≤ _
    omega
theorem told_nl (V : Tab rs cs T) {n : Str} {b e : Nat} {t : Tr} (h : Told rs cs (ct T) n b e t) (k : Ky rs cs n b e) : t.nl ≤ 4176 := by
  have h1 := h.ky V k
  have h2 := ct_le V k
  have := V.len
  have := k.2.2
  omega
end
end MD

namespace ML
open PySem L2 DS
/-! _law_at -/
noncomputable def g__law_at : Nv → Option SR := (seqS (ifS (opT geD (nmW 1) (callD lenD (cons2 (nmW 0) (fun _ => some []))))
      (fun ρ => ((fun _ => some (.int 0)) ρ).map fun d => .rt d false ρ)
      (fun ρ => some (.nx ρ)))
    (fun ρ => ((op2 ixD (nmW 0) (nmW 1)) ρ).map fun d => .rt d false ρ))
noncomputable def sem__law_at : List D → Option Ou := semR 2 0 g__law_at
theorem co__law_at : Comes [.ro, .ro] 0 g__law_at sem__law_at := comes_ro (by decide)
/-! _law_word -/
noncomputable def g__law_word : Nv → Option SR := (seqS (setS 2 (fun _ => some (.str "abcdefghijklmnopqrstuvwxyz")))
    (seqS (setS 3 (op2 addD (fun _ => some (.int 1)) (op2 modD (op2 fdivD (nmW 0) (fun _ => some (.int 26))) (fun _ => some (.int 12)))))
    (seqS (setS 4 (op2 modD (op2 fdivD (nmW 0) (fun _ => some (.int 312))) (nmW 3)))
    (seqS (setS 5 (op2 joinD (fun _ => some (.str "")) (lcV 6 (fun ρ => ((cons2 (nmP 3) (fun _ => some [])) ρ).bind rng1) (fun _ => some true) (op2 ixD (nmW 2) (op2 modD (op2 addD (nmW 0) (op2 mulD (fun _ => some (.int 3)) (nmW 6))) (fun _ => some (.int 26)))))))
    (seqS (setS 7 (op2 ixD (nmW 2) (op2 modD (op2 addD (nmW 0) (op2 mulD (fun _ => some (.int 7)) (nmW 1))) (fun _ => some (.int 26)))))
    (fun ρ => ((op2 addD (op2 addD (slS (nmW 5) (fun _ => some none) (fun ρ => ((nmP 4) ρ).bind fun x => (asI x).map some)) (nmW 7)) (slS (nmW 5) (fun ρ => ((op2 addD (nmW 4) (fun _ => some (.int 1))) ρ).bind fun x => (asI x).map some) (fun _ => some none))) ρ).map fun d => .rt d false ρ))))))
noncomputable def sem__law_word : List D → Option Ou := semR 2 6 g__law_word
theorem co__law_word : Comes [.ro, .ro] 6 g__law_word sem__law_word := comes_ro (by decide)
/-! _law_sign -/
noncomputable def g__law_sign : Nv → Option SR := (seqS (setS 2 (fun _ => some (.str "ABCDEFGHIJKLMNOPQRSTUVWXYZ")))
    (seqS (setS 3 (op2 addD (op2 addD (op2 addD (op2 addD (fun _ => some (.str " !\"#$&'()*+,-./0123456789:;<=>?@")) (nmW 2)) (fun _ => some (.str "[\\]^_`"))) (fun ρ => ((nmW 2) ρ).bind lowerD)) (fun _ => some (.str "{|}~"))))
    (fun ρ => ((op2 ixD (nmW 3) (op2 modD (op2 addD (nmW 0) (op2 mulD (fun _ => some (.int 31)) (nmW 1))) (fun _ => some (.int 94)))) ρ).map fun d => .rt d false ρ)))
noncomputable def sem__law_sign : List D → Option Ou := semR 2 2 g__law_sign
theorem co__law_sign : Comes [.ro, .ro] 2 g__law_sign sem__law_sign := comes_ro (by decide)
end ML

namespace ML
open PySem L2 DS MD
def AT (ns : List Int) (i : Int) : Int := ns.getD i.toNat 0
theorem at_is (ns : List Int) {i : Int} (h0 : 0 ≤ i) : sem__law_at [.list (ns.map .int), .int i] = some (.ret (.int (AT ns i)) false []) := by
  refine sem_eq rfl ?_
  unfold g__law_at
  refine rs_if (b := decide ((ns.length : Int) ≤ i)) (by simp [op2, opT, nmW, nmP, cons2, Cell.got, callD, lenD, geD, asB, shs]) (fun h => ?_) fun h => ?_
  · have h := of_decide_eq_true h
    refine run_ret (d := .int 0) rfl (ret_ok (Nat.le_of_ble_eq_true rfl) ?_)
    unfold AT
    rw [List.getD_eq_getElem?_getD, List.getElem?_eq_none (by omega)]
    rfl
  · have h := of_decide_eq_false h
    have hl : i.toNat < ns.length := by omega
    refine run_ret (d := .int (AT ns i)) (op2_is (x := .list (ns.map .int)) (y := .int i) rfl rfl ?_) (ret_ok (Nat.le_of_ble_eq_true rfl) rfl)
    show atI (ns.map PyData.int) i = _
    unfold atI ixN AT
    rw [if_pos h0, if_pos (by rw [List.length_map]; omega)]
    show (ns.map PyData.int)[i.toNat]? = _
    rw [List.getElem?_map, List.getD_eq_getElem?_getD, List.getElem?_eq_getElem hl]
    rfl
theorem call_at {ns : List Int} {ρ : Nv} {f : Nv → Option D} {i : Int} (h1 : nmP 0 ρ = some (.list (ns.map .int))) (h2 : f ρ = some (.int i)) (h0 : 0 ≤ i) : callS 2 sem__law_at (cons2 (nmP 0) (cons2 f (fun _ => some []))) ρ = some (.int (AT ns i)) :=
  callS_of (ds := [.list (ns.map .int), .int i]) (cons2_is h1 (cons2_is h2 rfl)) (at_is ns h0)
/-! signs -/
def SG94 : Str := " !\"#$&'()*+,-./0123456789:;<=>?@ABCDEFGHIJKLMNOPQRSTUVWXYZ[\\]^_`abcdefghijklmnopqrstuvwxyz{|}~"
def sg94 : List Nat := SG94.cps.toList
def S94 (c k : Int) : Nat := sg94.getD ((c + 31 * k) % 94).toNat 0
theorem S94_ok (c k : Int) : sgB (S94 c k) = true := by
  have h : ∀ i, i < 94 → sgB (sg94.getD i 0) = true := by decide +kernel
  exact h _ (by omega)
theorem sg_txt (c : Nat) : sgD c = .str (txt [c]) := rfl
theorem ix_txt {cs : List Nat} {k : Nat} (hk : k < cs.length) (hl : cs.length ≤ 1000) : ixD (.str (txt cs)) (.int (k : Nat)) = some (sgD (cs.getD k 0)) := by
  unfold ixD
  dsimp only
  rw [if_pos (by rw [txt_len]; omega)]
  show (atI cs (k : Nat)).map _ = _
  rw [atI_nat hk, List.getD_eq_getElem?_getD, List.getElem?_eq_getElem hk]
  rfl
theorem sign_is (c k : Int) (h1 : 0 ≤ k) (h2 : k ≤ 1000) : sem__law_sign [.int c, .int k] = some (.ret (sgD (S94 c k)) false []) := by
  refine sem_eq rfl ?_
  unfold g__law_sign
  refine rs_set (d := .str "ABCDEFGHIJKLMNOPQRSTUVWXYZ") rfl ?_
  refine rs_set (d := .str SG94) (by with_unfolding_all rfl) ?_
  refine run_ret (d := sgD (S94 c k)) (op2_is (x := .str (txt sg94)) (y := .int ((c + 31 * k) % 94)) rfl (op2_is (x := .int (c + 31 * k)) (y := .int 94) (op2_is (x := .int c) (y := .int (31 * k)) rfl (op2_is (x := .int 31) (y := .int k) rfl rfl (by unfold mulD; dsimp only; rw [if_pos (by omega)])) rfl) rfl rfl) ?_) (ret_ok (Nat.le_of_ble_eq_true rfl) rfl)
  have h5 : sg94.length = 94 := by decide +kernel
  have := ix_txt (cs := sg94) (k := ((c + 31 * k) % 94).toNat) (by omega) (by omega)
  rw [Int.toNat_of_nonneg (by omega)] at this
  exact this
theorem okS (c : Nat) (h : sgB c = true) : signB (sgD c) = true := by
  show (decide ((⟨#[c]⟩ : Str).length = 1) && sgB ((#[c] : Array Nat).getD 0 0)) = true
  exact h
/-! words -/
theorem letters_at (i : Int) : ∃ c, ixD (.str "abcdefghijklmnopqrstuvwxyz") (.int (i % 26)) = some (sgD c) ∧ letB c = true := by
  obtain ⟨c, e, h⟩ := atI_mod (xs := ("abcdefghijklmnopqrstuvwxyz" : Str).cps.toList) (i := i) (n := 26) (by decide) (by decide +kernel)
  refine ⟨c, ?_, ?_⟩
  · unfold ixD
    dsimp only
    rw [if_pos (by decide +kernel), e]
    rfl
  · have : ∀ y ∈ ("abcdefghijklmnopqrstuvwxyz" : Str).cps.toList, letB y = true := by decide +kernel
    exact this c h
theorem sgs_of : ∀ ys : List D, (∀ y ∈ ys, ∃ c, y = sgD c ∧ letB c = true) → ∃ cs : List Nat, ys = cs.map sgD ∧ ∀ c ∈ cs, letB c = true
  | [], _ => ⟨[], rfl, fun _ h => by cases h⟩
  | y :: r, h => by
    obtain ⟨c, rfl, hc⟩ := h y List.mem_cons_self
    obtain ⟨cs, rfl, h2⟩ := sgs_of r fun z hz => h z (List.mem_cons_of_mem _ hz)
    exact ⟨c :: cs, rfl, fun z hz => by rcases List.mem_cons.mp hz with rfl | hz; exact hc; exact h2 z hz⟩
theorem len_cut1 (t : Str) {i : Int} (h0 : 0 ≤ i) (h1 : i < t.length) : (cutS t none (some i)).length = i.toNat := by
  show (((t.cps.toList.drop 0).take (HT.sIx t.length t.length (some i) - 0)).toArray).size = _
  have e : HT.sIx t.length t.length (some i) = i.toNat := by
    unfold HT.sIx
    show (if i < 0 then _ else _) = _
    rw [if_neg (by omega)]
    omega
  rw [e, List.size_toArray, List.length_take, List.length_drop, Array.length_toList]
  have : t.cps.size = t.length := rfl
  omega
theorem len_cut2 (t : Str) {i : Int} (h0 : 0 ≤ i) (h1 : i < t.length) : (cutS t (some (i + 1)) none).length = t.length - (i.toNat + 1) := by
  show (((t.cps.toList.drop (HT.sIx t.length 0 (some (i + 1)))).take (t.length - HT.sIx t.length 0 (some (i + 1)))).toArray).size = _
  have e : HT.sIx t.length 0 (some (i + 1)) = i.toNat + 1 := by
    unfold HT.sIx
    show (if i + 1 < 0 then _ else _) = _
    rw [if_neg (by omega)]
    omega
  rw [e, List.size_toArray, List.length_take, List.length_drop, Array.length_toList]
  have : t.cps.size = t.length := rfl
  omega
theorem word_is (c k : Int) (hk : 0 ≤ k) (hk2 : k ≤ 100) : ∃ w, sem__law_word [.int c, .int k] = some (.ret (.str w) false []) ∧ okN w := by
  have goal : ∃ d, sem__law_word [.int c, .int k] = some (.ret d false []) ∧ ∃ w, d = .str w ∧ okN w := by
    unfold sem__law_word
    refine sem_rets rfl ?_
    unfold g__law_word
    refine rets_nx (ρ' := [some (Cell.sh (.int c)), some (.sh (.int k)), some (.sh (.str "abcdefghijklmnopqrstuvwxyz")), none, none, none, none, none]) rfl ?_
    refine rets_nx (setS_is (op2_is (x := .int 1) (y := .int (c / 26 % 12)) rfl (op2_is (x := .int (c / 26)) (y := .int 12) (op2_is (x := .int c) (y := .int 26) rfl rfl rfl) rfl rfl) rfl)) ?_
    have hs : 1 ≤ 1 + c / 26 % 12 ∧ 1 + c / 26 % 12 ≤ 12 := by omega
    generalize 1 + c / 26 % 12 = sz at hs
    refine rets_nx (setS_is (op2_is (x := .int (c / 312)) (y := .int sz) (op2_is (x := .int c) (y := .int 312) rfl rfl rfl) rfl (by unfold modD; dsimp only; rw [if_pos (by omega)]))) ?_
    have hat : 0 ≤ c / 312 % sz ∧ c / 312 % sz < sz := ⟨Int.emod_nonneg _ (by omega), Int.emod_lt_of_pos _ (by omega)⟩
    generalize c / 312 % sz = at_ at hat
    have hr : (fun ρ => ((cons2 (nmP 3) (fun _ => some [])) ρ).bind rng1) [some (Cell.sh (.int c)), some (.sh (.int k)), some (.sh (.str "abcdefghijklmnopqrstuvwxyz")), some (.sh (.int sz)), some (.sh (.int at_)), none, none, none] = some (rngD 0 sz.toNat) := by
      have e : cons2 (nmP 3) (fun _ => some []) [some (Cell.sh (.int c)), some (.sh (.int k)), some (.sh (.str "abcdefghijklmnopqrstuvwxyz")), some (.sh (.int sz)), some (.sh (.int at_)), none, none, none] = some [.int sz] := cons2_is rfl rfl
      show Option.bind (cons2 _ _ _) rng1 = _
      rw [e]
      show (if _ then _ else _) = _
      rw [if_pos]
      omega
    have hn : (rngD 0 sz.toNat).length = sz.toNat := by
      unfold rngD
      rw [List.length_map, List.length_range]
    obtain ⟨ys, e1, l1, q1⟩ := lcV_all (i := 6) (ds := rngD 0 sz.toNat) (fi := fun ρ => ((cons2 (nmP 3) (fun _ => some [])) ρ).bind rng1) (ρ := [some (Cell.sh (.int c)), some (.sh (.int k)), some (.sh (.str "abcdefghijklmnopqrstuvwxyz")), some (.sh (.int sz)), some (.sh (.int at_)), none, none, none])
      (Q := fun y => ∃ x, y = sgD x ∧ letB x = true) (f := op2 ixD (nmW 2) (op2 modD (op2 addD (nmW 0) (op2 mulD (fun _ => some (.int 3)) (nmW 6))) (fun _ => some (.int 26)))) hr rfl (by omega) (fun x hx => by
      unfold rngD at hx
      obtain ⟨j, hj, rfl⟩ := List.mem_map.mp hx
      rw [List.mem_range] at hj
      obtain ⟨x, e, hx⟩ := letters_at (c + 3 * (0 + (j : Int)))
      refine ⟨_, op2_is (x := .str "abcdefghijklmnopqrstuvwxyz") rfl (op2_is (x := .int (c + 3 * (0 + (j : Int)))) (y := .int 26) (op2_is (x := .int c) (y := .int (3 * (0 + (j : Int)))) rfl (op2_is (x := .int 3) (y := .int (0 + (j : Int))) rfl rfl ?_) rfl) rfl rfl) e, x, rfl, hx⟩
      unfold mulD
      dsimp only
      rw [if_pos (by omega)])
    obtain ⟨cs, rfl, hcs⟩ := sgs_of ys q1
    rw [List.length_map, hn] at l1
    obtain ⟨t, e2, ht⟩ := joinD_sg (cs := cs) (by omega)
    refine rets_nx (setS_is (op2_is (x := .str ⟨#[]⟩) rfl e1 e2)) ?_
    obtain ⟨z, e3, hz⟩ := letters_at (c + 7 * k)
    refine rets_nx (setS_is (op2_is (x := .str "abcdefghijklmnopqrstuvwxyz") rfl (op2_is (x := .int (c + 7 * k)) (y := .int 26) (op2_is (x := .int c) (y := .int (7 * k)) rfl (op2_is (x := .int 7) (y := .int k) rfl rfl (by unfold mulD; dsimp only; rw [if_pos (by omega)])) rfl) rfl rfl) e3)) ?_
    have tl : t.length = sz.toNat := by
      rw [len_list, ht]
      omega
    have tl' : t.length ≤ 100000 := by omega
    have a1 := len_cut1 t (i := at_) (by omega) (by omega)
    have a2 := len_cut2 t (i := at_) (by omega) (by omega)
    have lx : (⟨#[z]⟩ : Str).length = 1 := rfl
    refine rets_ret (d := .str (cutS t none (some at_) ++ ⟨#[z]⟩ ++ cutS t (some (at_ + 1)) none)) (op2_is (x := .str (cutS t none (some at_) ++ ⟨#[z]⟩)) (y := .str (cutS t (some (at_ + 1)) none)) (op2_is (x := .str (cutS t none (some at_))) (y := sgD z) ?_ rfl ?_) ?_ ?_) (Nat.le_of_ble_eq_true rfl) ⟨_, rfl, ?_⟩
    · show (if _ then _ else _) = _
      rw [if_pos tl']
    · show (if _ then _ else _) = _
      rw [if_pos (by omega)]
    · show (if _ then _ else _) = _
      rw [if_pos tl']
    · show (if _ then _ else _) = _
      rw [if_pos (by rw [len_app]; omega)]
    · unfold okN nameB
      dsimp only
      rw [Bool.and_eq_true, Bool.and_eq_true, decide_eq_true_eq, decide_eq_true_eq, len_app, len_app]
      refine ⟨⟨by omega, by omega⟩, ?_⟩
      rw [List.all_eq_true]
      intro y hy
      rcases mem_app hy with hy | hy
      · rcases mem_app hy with hy | hy
        · exact hcs y (by rw [← ht]; exact mem_cutS hy)
        · have hy' : y ∈ [z] := hy
          rw [List.mem_singleton] at hy'
          rw [hy']
          exact hz
      · exact hcs y (by rw [← ht]; exact mem_cutS hy)
  obtain ⟨d, h1, w, rfl, h2⟩ := goal
  exact ⟨w, h1, h2⟩
/-! ## grammars that are drawn -/
theorem nth_nm {ws : List Str} {p : Nat} (h : p < ws.length) : ixD (.list (ws.map .str)) (.int (p : Nat)) = some (.str ws[p]) := by
  show atI (ws.map PyData.str) (p : Nat) = _
  rw [atI_nat (by rw [List.length_map]; exact h), List.getElem?_map, List.getElem?_eq_getElem h]
  rfl
theorem nth_mod {ws : List Str} {i : Int} {n : Nat} (hn : 0 < n) (hl : n ≤ ws.length) : ∃ p, p < n ∧ ∃ w, ws[p]? = some w ∧ ixD (.list (ws.map .str)) (.int (i % (n : Nat))) = some (.str w) := by
  have h0 : 0 ≤ i % (n : Int) := Int.emod_nonneg _ (by omega)
  have h1 : i % (n : Int) < n := Int.emod_lt_of_pos _ (by omega)
  refine ⟨(i % (n : Int)).toNat, by omega, ws[(i % (n : Int)).toNat]'(by omega), List.getElem?_eq_getElem _, ?_⟩
  have := nth_nm (ws := ws) (p := (i % (n : Int)).toNat) (by omega)
  rw [Int.toNat_of_nonneg h0] at this
  exact this
/-- rules that each have a name of their own and lean on those ahead -/
def Chain (ws : List Str) (rs : List Ru) : Prop := ∀ (i : Nat) (r : Ru), rs[i]? = some r → ws[i]? = some r.hd ∧ r.ok ∧ ∀ n a b, r = .fork n a b → ∃ p q, p < i ∧ q < i ∧ ws[p]? = some a ∧ ws[q]? = some b
theorem Chain.add {ws : List Str} {rs : List Ru} (h : Chain ws rs) {r : Ru} (h1 : ws[rs.length]? = some r.hd) (h2 : r.ok) (h3 : ∀ n a b, r = .fork n a b → ∃ p q, p < rs.length ∧ q < rs.length ∧ ws[p]? = some a ∧ ws[q]? = some b) : Chain ws (rs ++ [r]) := fun i x hx => by
  by_cases hi : i < rs.length
  · rw [List.getElem?_append_left hi] at hx
    exact h i x hx
  · rw [List.getElem?_append_right (by omega)] at hx
    have : i = rs.length := by
      by_cases q : i - rs.length = 0
      · omega
      · rw [List.getElem?_eq_none (by rw [List.length_singleton]; omega)] at hx
        cases hx
    subst this
    rw [Nat.sub_self] at hx
    cases hx
    exact ⟨h1, h2, h3⟩
def InW (ws : List Str) (r : Ru) : Prop := r.ok ∧ r.hd ∈ ws ∧ ∀ n a b, r = .fork n a b → a ∈ ws ∧ b ∈ ws
def idx : List Str → Str → Nat
  | [], _ => 0
  | x :: r, n => if x = n then 0 else idx r n + 1
theorem idx_get : ∀ (ws : List Str) (n : Str), n ∈ ws → ws[idx ws n]? = some n
  | x :: r, n, h => by
    unfold idx
    by_cases e : x = n
    · rw [if_pos e, e]
      rfl
    · rw [if_neg e]
      have hr : n ∈ r := (List.mem_cons.mp h).resolve_left fun z => e z.symm
      exact idx_get r n hr
theorem idx_le : ∀ (ws : List Str) (p : Nat) (a : Str), ws[p]? = some a → idx ws a ≤ p
  | x :: r, 0, a, h => by
    cases h
    unfold idx
    rw [if_pos rfl]
    omega
  | x :: r, p + 1, a, h => by
    unfold idx
    split
    · omega
    · have := idx_le r p a h
      omega
theorem idx_len : ∀ (ws : List Str) (n : Str), idx ws n ≤ ws.length
  | [], _ => Nat.le_refl _
  | x :: r, n => by
    unfold idx
    have := idx_len r n
    rw [List.length_cons]
    split <;> omega
theorem chain_good {ws : List Str} {rs ex : List Ru} (h : Chain ws rs) (hl : rs.length = ws.length) (he : ∀ r ∈ ex, InW ws r) (h1 : 1 ≤ ws.length) (h12 : ws.length ≤ 12) (h2 : ws.length + ex.length ≤ 40) : ∀ out : List Ru, (∀ r, r ∈ out ↔ r ∈ rs ∨ r ∈ ex) → out.length = rs.length + ex.length → Good out := by
  intro out hm hlo
  have all : ∀ r ∈ out, InW ws r := fun r hr => by
    rcases (hm r).mp hr with hr | hr
    · obtain ⟨i, hi⟩ := List.getElem?_of_mem hr
      obtain ⟨g1, g2, g3⟩ := h i r hi
      refine ⟨g2, List.mem_of_getElem? g1, fun n a b e => ?_⟩
      obtain ⟨p, q, _, _, g4, g5⟩ := g3 n a b e
      exact ⟨List.mem_of_getElem? g4, List.mem_of_getElem? g5⟩
    · exact he r hr
  have heads : ∀ w ∈ ws, ∃ r ∈ out, r.hd = w ∧ ∀ a b, r = .fork w a b → idx ws a < idx ws w ∧ idx ws b < idx ws w := fun w hw => by
    have g := idx_get ws w hw
    have hlt : idx ws w < rs.length := by
      rw [hl]
      exact (List.getElem?_eq_some_iff.mp g).1
    obtain ⟨g1, g2, g3⟩ := h (idx ws w) rs[idx ws w] (List.getElem?_eq_getElem hlt)
    rw [g] at g1
    refine ⟨rs[idx ws w], (hm _).mpr (.inl (List.getElem_mem hlt)), (Option.some.inj g1).symm, fun a b e => ?_⟩
    obtain ⟨p, q, hp, hq, g4, g5⟩ := g3 w a b e
    have := idx_le ws p a g4
    have := idx_le ws q b g5
    omega
  refine ⟨by omega, by omega, fun r hr => (all r hr).1, fun n a b hr => ?_, idx ws, fun n => Nat.le_trans (idx_len ws n) h12, fun n hn => ?_⟩
  · obtain ⟨ha, hb⟩ := (all _ hr).2.2 n a b rfl
    obtain ⟨r1, q1, q2, _⟩ := heads a ha
    obtain ⟨r2, q3, q4, _⟩ := heads b hb
    exact ⟨List.mem_map.mpr ⟨r1, q1, q2⟩, List.mem_map.mpr ⟨r2, q3, q4⟩⟩
  · obtain ⟨r, hr, rfl⟩ := List.mem_map.mp hn
    exact heads _ (all r hr).2.1
theorem map_snoc (rs : List Ru) (r : Ru) : rs.map Ru.d ++ [r.d] = (rs ++ [r]).map Ru.d := by
  rw [List.map_append]
  rfl
theorem modD_nat {i : Int} {n : Nat} (h : 0 < n) (h2 : n ≤ 1000) : modD (.int i) (.int (n : Nat)) = some (.int (i % (n : Nat))) := by
  unfold modD
  dsimp only
  rw [if_pos (by omega)]
theorem rs_par {i j : Nat} {fr : Nv → Option (List D)} {ρ : Nv} {x y : D} {g' : Nv → Option SR} {φ : SR → Prop} (h : fr ρ = some [x, y]) (q : Run (g' ((ρ.set i (some (.sh x))).set j (some (.sh y)))) φ) : Run (seqS (parS i j fr) g' ρ) φ :=
  run_seq ⟨.nx _, by unfold parS; rw [h]; rfl, q⟩
theorem isT {a b : Bool} (h : a = b) : (some a : Option Bool) = some b := congrArg some h
theorem good_of {ws : List Str} {rs ex : List Ru} (h : Chain ws rs) (hl : rs.length = ws.length) (he : ∀ r ∈ ex, InW ws r) (h1 : 1 ≤ ws.length) (h12 : ws.length ≤ 12) (h2 : ws.length + ex.length ≤ 40) : Good (rs ++ ex) ∧ Good (rs ++ ex).reverse := by
  refine ⟨chain_good h hl he h1 h12 h2 _ (fun r => List.mem_append) List.length_append, chain_good h hl he h1 h12 h2 _ (fun r => ?_) ?_⟩
  · rw [List.mem_reverse, List.mem_append]
  · rw [List.length_reverse, List.length_append]
end ML

namespace LB
open PySem L2 DS MD ML
/-! _law_rules -/
noncomputable def g__law_rules : Nv → Option SR := (seqS (setS 2 (op2 addD (fun _ => some (.int 1)) (op2 modD (nmW 1) (fun _ => some (.int 4)))))
    (seqS (ifS (opT eqD (op2 modD (op2 fdivD (nmW 1) (fun _ => some (.int 8))) (fun _ => some (.int 12))) (fun _ => some (.int 4)))
      (seqS (setS 3 (callS 2 sem__law_word (cons2 (op2 fdivD (nmW 1) (fun _ => some (.int 4))) (cons2 (fun _ => some (.int 0)) (fun _ => some [])))))
    (seqS (setN 4 (mkL (cons2 (mkT (cons2 (nmP 3) (cons2 (callS 2 sem__law_sign (cons2 (nmP 1) (cons2 (fun _ => some (.int 0)) (fun _ => some [])))) (fun _ => some [])))) (cons2 (mkT (cons2 (nmP 3) (cons2 (nmP 3) (cons2 (nmP 3) (fun _ => some []))))) (cons2 (mkT (cons2 (nmP 3) (cons2 (callS 2 sem__law_sign (cons2 (nmP 1) (cons2 (fun _ => some (.int 1)) (fun _ => some [])))) (fun _ => some [])))) (fun _ => some []))))))
    (fun ρ => ((op2 catD (slL (nmW 4) (fun ρ => ((op2 modD (op2 fdivD (nmW 1) (fun _ => some (.int 96))) (fun _ => some (.int 3))) ρ).bind fun x => (asI x).map some) (fun _ => some none)) (slL (nmW 4) (fun _ => some none) (fun ρ => ((op2 modD (op2 fdivD (nmW 1) (fun _ => some (.int 96))) (fun _ => some (.int 3))) ρ).bind fun x => (asI x).map some))) ρ).map fun d => .rt d true ρ)))
      (fun ρ => some (.nx ρ)))
    (seqS (ifS (opT eqD (op2 modD (op2 fdivD (nmW 1) (fun _ => some (.int 8))) (fun _ => some (.int 6))) (fun _ => some (.int 1)))
      (setS 2 (op2 addD (fun _ => some (.int 5)) (op2 modD (op2 fdivD (nmW 1) (fun _ => some (.int 48))) (fun _ => some (.int 8)))))
      (fun ρ => some (.nx ρ)))
    (seqS (setS 5 (lcV 6 (fun ρ => ((cons2 (nmP 2) (fun _ => some [])) ρ).bind rng1) (fun _ => some true) (callS 2 sem__law_word (cons2 (op2 fdivD (nmW 1) (fun _ => some (.int 4))) (cons2 (nmP 6) (fun _ => some []))))))
    (seqS (setN 4 (mkL (fun _ => some [])))
    (seqS (fun ρ => ((fun ρ => ((cons2 (nmP 2) (fun _ => some [])) ρ).bind rng1) ρ).bind fun ds => forS (toNm 6) (seqS (setS 7 (callS 2 sem__law_at (cons2 (nmP 0) (cons2 (op2 addD (fun _ => some (.int 30)) (nmW 6)) (fun _ => some [])))))
    (ifS (orT (opT eqD (nmW 6) (fun _ => some (.int 0))) (opT eqD (op2 modD (nmW 7) (fun _ => some (.int 3))) (fun _ => some (.int 0))))
      (appS 4 (mkT (cons2 (op2 ixD (nmW 5) (nmW 6)) (cons2 (callS 2 sem__law_sign (cons2 (nmP 1) (cons2 (op2 modD (op2 fdivD (nmW 7) (fun _ => some (.int 3))) (fun _ => some (.int 3))) (fun _ => some [])))) (fun _ => some [])))))
      (ifS (opT gtD (nmW 6) (fun _ => some (.int 3)))
      (appS 4 (mkT (cons2 (op2 ixD (nmW 5) (nmW 6)) (cons2 (op2 ixD (nmW 5) (op2 subD (op2 subD (nmW 6) (fun _ => some (.int 1))) (op2 modD (op2 fdivD (nmW 7) (fun _ => some (.int 3))) (fun _ => some (.int 2))))) (cons2 (op2 ixD (nmW 5) (op2 modD (op2 fdivD (nmW 7) (fun _ => some (.int 6))) (fun _ => some (.int 2)))) (fun _ => some []))))))
      (appS 4 (mkT (cons2 (op2 ixD (nmW 5) (nmW 6)) (cons2 (op2 ixD (nmW 5) (op2 modD (op2 fdivD (nmW 7) (fun _ => some (.int 3))) (nmW 6))) (cons2 (op2 ixD (nmW 5) (op2 modD (op2 fdivD (nmW 7) (fun _ => some (.int 18))) (nmW 6))) (fun _ => some []))))))))) ds ρ)
    (seqS (fun ρ => ((fun ρ => ((cons2 (op2 modD (callS 2 sem__law_at (cons2 (nmP 0) (cons2 (fun _ => some (.int 1)) (fun _ => some [])))) (fun _ => some (.int 7))) (fun _ => some [])) ρ).bind rng1) ρ).bind fun ds => forS (toNm 6) (seqS (setS 7 (callS 2 sem__law_at (cons2 (nmP 0) (cons2 (op2 addD (fun _ => some (.int 6)) (nmW 6)) (fun _ => some [])))))
    (seqS (parS 8 9 (cons2 (op2 ixD (nmW 5) (op2 modD (op2 fdivD (nmW 7) (fun _ => some (.int 3))) (nmW 2))) (cons2 (op2 ixD (nmW 5) (op2 modD (op2 fdivD (nmW 7) (fun _ => some (.int 12))) (nmW 2))) (fun _ => some []))))
    (ifS (opT eqD (op2 modD (nmW 7) (fun _ => some (.int 3))) (fun _ => some (.int 0)))
      (appS 4 (mkT (cons2 (nmP 8) (cons2 (callS 2 sem__law_sign (cons2 (nmP 1) (cons2 (op2 modD (op2 fdivD (nmW 7) (fun _ => some (.int 12))) (fun _ => some (.int 3))) (fun _ => some [])))) (fun _ => some [])))))
      (appS 4 (mkT (cons2 (op2 ixD (nmW 5) (op2 modD (op2 fdivD (nmW 7) (fun _ => some (.int 48))) (nmW 2))) (cons2 (nmP 8) (cons2 (nmP 9) (fun _ => some []))))))))) ds ρ)
    (seqS (ifS (opT eqD (op2 modD (op2 fdivD (nmW 1) (fun _ => some (.int 4))) (fun _ => some (.int 2))) (fun _ => some (.int 1)))
      (mutS 4 revD)
      (fun ρ => some (.nx ρ)))
    (retNm 4)))))))))
noncomputable def sem__law_rules : List D → Option Ou := semR 2 8 g__law_rules
theorem co__law_rules : Comes [.ro, .ro] 8 g__law_rules sem__law_rules := comes_ro (by decide)
/-! _law_text -/
noncomputable def g__law_text : Nv → Option SR := (seqS (setS 2 (op2 modD (callS 2 sem__law_at (cons2 (nmP 0) (cons2 (fun _ => some (.int 12)) (fun _ => some [])))) (fun _ => some (.int 7))))
    (seqS (ifS (opT eqD (op2 modD (op2 fdivD (callS 2 sem__law_at (cons2 (nmP 0) (cons2 (fun _ => some (.int 12)) (fun _ => some [])))) (fun _ => some (.int 7))) (fun _ => some (.int 8))) (fun _ => some (.int 1)))
      (setS 2 (op2 addD (fun _ => some (.int 7)) (op2 modD (op2 fdivD (callS 2 sem__law_at (cons2 (nmP 0) (cons2 (fun _ => some (.int 12)) (fun _ => some [])))) (fun _ => some (.int 56))) (fun _ => some (.int 2)))))
      (fun ρ => some (.nx ρ)))
    (seqS (ifS (opT eqD (op2 modD (op2 fdivD (nmW 1) (fun _ => some (.int 8))) (fun _ => some (.int 12))) (fun _ => some (.int 4)))
      (setS 2 (op2 addD (fun _ => some (.int 9)) (op2 modD (callS 2 sem__law_at (cons2 (nmP 0) (cons2 (fun _ => some (.int 12)) (fun _ => some [])))) (fun _ => some (.int 8)))))
      (ifS (opT eqD (op2 modD (op2 fdivD (nmW 1) (fun _ => some (.int 8))) (fun _ => some (.int 6))) (fun _ => some (.int 1)))
      (setS 2 (op2 modD (nmW 2) (fun _ => some (.int 3))))
      (ifS (opT gtD (op2 modD (callS 2 sem__law_at (cons2 (nmP 0) (cons2 (fun _ => some (.int 1)) (fun _ => some [])))) (fun _ => some (.int 7))) (fun _ => some (.int 3)))
      (setS 2 (callD min2D (cons2 (nmW 2) (cons2 (fun _ => some (.int 5)) (fun _ => some [])))))
      (fun ρ => some (.nx ρ)))))
    (fun ρ => ((op2 joinD (fun _ => some (.str "")) (lcV 3 (fun ρ => ((cons2 (nmP 2) (fun _ => some [])) ρ).bind rng1) (fun _ => some true) (callS 2 sem__law_sign (cons2 (nmP 1) (cons2 (op2 modD (callS 2 sem__law_at (cons2 (nmP 0) (cons2 (op2 addD (fun _ => some (.int 20)) (nmW 3)) (fun _ => some [])))) (fun _ => some (.int 4))) (fun _ => some [])))))) ρ).map fun d => .rt d false ρ))))
noncomputable def sem__law_text : List D → Option Ou := semR 2 2 g__law_text
theorem co__law_text : Comes [.ro, .ro] 2 g__law_text sem__law_text := comes_ro (by decide)
end LB

namespace LB
open PySem L2 DS MD ML
abbrev stR (ns : List Int) (b : Int) (cnt : Nat) (ws : List Str) (rs : List Ru) (x6 x7 x8 x9 : Option Cell) : Nv := [some (.sh (.list (ns.map .int))), some (.sh (.int b)), some (.sh (.int (cnt : Nat))), none, some (.ow (.list (rs.map Ru.d))), some (.sh (.list (ws.map .str))), x6, x7, x8, x9]
theorem strs_ok : ∀ ys : List D, (∀ y ∈ ys, ∃ w, y = PyData.str w ∧ okN w) → ∃ ws : List Str, ys = ws.map .str ∧ ∀ w ∈ ws, okN w
  | [], _ => ⟨[], rfl, fun _ h => (by cases h)⟩
  | y :: r, h => by
    obtain ⟨w, rfl, hw⟩ := h y List.mem_cons_self
    obtain ⟨ws, rfl, h2⟩ := strs_ok r fun z hz => h z (List.mem_cons_of_mem _ hz)
    exact ⟨w :: ws, rfl, fun z hz => (by rcases List.mem_cons.mp hz with rfl | hz; exact hw; exact h2 z hz)⟩
theorem rules_is (ns : List Int) (b : Int) : ∃ rs, sem__law_rules [.list (ns.map .int), .int b] = some (.ret (.list (rs.map Ru.d)) true []) ∧ Good rs := by
  have key := sem_of (o := true) (ψ := fun d => ∃ rs, d = .list (rs.map Ru.d) ∧ Good rs) (ds := [.list (ns.map .int), .int b]) (k := 2) (m := 8) (g := g__law_rules) rfl ?_
  · obtain ⟨d, h1, rs, rfl, h2⟩ := key
    exact ⟨rs, h1, h2⟩
  unfold g__law_rules
  obtain ⟨cnt, h1, h4, ec⟩ : ∃ cnt : Nat, 1 ≤ cnt ∧ cnt ≤ 4 ∧ 1 + b % 4 = (cnt : Int) := ⟨(1 + b % 4).toNat, by omega, by omega, by omega⟩
  refine rs_set (d := .int (cnt : Nat)) (op2_is (x := .int 1) (y := .int (b % 4)) rfl (op2_is (x := .int b) (y := .int 4) rfl rfl rfl) (congrArg (fun i => some (PyData.int i)) ec)) ?_
  refine rs_if (b := decide (b / 8 % 12 = 4)) (opT_is (op2_is (x := .int (b / 8)) (y := .int 12) (op2_is (x := .int b) (y := .int 8) rfl rfl rfl) rfl rfl) rfl (eqD_int _ _)) (fun _ => ?_) fun _ => ?_
  · obtain ⟨w, ew, hw⟩ := word_is (b / 4) 0 (by omega) (by omega)
    refine rs_set (d := .str w) (callS_of (cons2_is (op2_is (x := .int b) (y := .int 4) rfl rfl rfl) (cons2_is rfl rfl)) ew) ?_
    refine rs_setN (d := .list [(Ru.leaf w (txt [S94 b 0])).d, (Ru.fork w w w).d, (Ru.leaf w (txt [S94 b 1])).d]) (mkL_of (cons2_is (mkT_of (cons2_is rfl (cons2_is (callS_of (cons2_is rfl (cons2_is rfl rfl)) (sign_is b 0 (by omega) (by omega))) rfl))) (cons2_is (mkT_of (cons2_is rfl (cons2_is rfl (cons2_is rfl rfl)))) (cons2_is (mkT_of (cons2_is rfl (cons2_is (callS_of (cons2_is rfl (cons2_is rfl rfl)) (sign_is b 1 (by omega) (by omega))) rfl))) rfl)))) ?_
    have ch : Chain [w] [.leaf w (txt [S94 b 0])] := fun i r h => by
      match i, h with
      | 0, h =>
        cases h
        exact ⟨rfl, ⟨hw, okS _ (S94_ok _ _)⟩, fun _ _ _ z => by cases z⟩
      | i + 1, h => exact absurd h (by simp)
    have hex : ∀ r ∈ [Ru.fork w w w, Ru.leaf w (txt [S94 b 1])], InW [w] r := fun r hr => by
      rcases List.mem_cons.mp hr with rfl | hr
      · exact ⟨⟨hw, hw, hw⟩, List.mem_cons_self, fun n x y z => by cases z; exact ⟨List.mem_cons_self, List.mem_cons_self⟩⟩
      · rcases List.mem_singleton.mp hr with rfl
        exact ⟨⟨hw, okS _ (S94_ok _ _)⟩, List.mem_cons_self, fun _ _ _ z => by cases z⟩
    have gd := chain_good ch rfl hex (Nat.le_of_ble_eq_true rfl) (Nat.le_of_ble_eq_true rfl) (Nat.le_of_ble_eq_true rfl)
    have h3 : b / 96 % 3 = 0 ∨ b / 96 % 3 = 1 ∨ b / 96 % 3 = 2 := by omega
    have sl : ∀ (k : Int), b / 96 % 3 = k → op2 modD (op2 fdivD (nmW 1) (fun _ => some (.int 96))) (fun _ => some (.int 3)) [some (Cell.sh (.list (ns.map .int))), some (.sh (.int b)), some (.sh (.int (cnt : Nat))), some (.sh (.str w)), some (.ow (.list [(Ru.leaf w (txt [S94 b 0])).d, (Ru.fork w w w).d, (Ru.leaf w (txt [S94 b 1])).d])), none, none, none, none, none] = some (.int k) := fun k e => op2_is (x := .int (b / 96)) (y := .int 3) (op2_is (x := .int b) (y := .int 96) rfl rfl rfl) rfl (congrArg (fun i => some (PyData.int i)) e)
    have slk : ∀ (k : Int), b / 96 % 3 = k → op2 catD (slL (nmW 4) (fun ρ => ((op2 modD (op2 fdivD (nmW 1) (fun _ => some (.int 96))) (fun _ => some (.int 3))) ρ).bind fun x => (asI x).map some) (fun _ => some none)) (slL (nmW 4) (fun _ => some none) (fun ρ => ((op2 modD (op2 fdivD (nmW 1) (fun _ => some (.int 96))) (fun _ => some (.int 3))) ρ).bind fun x => (asI x).map some)) [some (Cell.sh (.list (ns.map .int))), some (.sh (.int b)), some (.sh (.int (cnt : Nat))), some (.sh (.str w)), some (.ow (.list [(Ru.leaf w (txt [S94 b 0])).d, (Ru.fork w w w).d, (Ru.leaf w (txt [S94 b 1])).d])), none, none, none, none, none]
        = catD (.list (cutD [(Ru.leaf w (txt [S94 b 0])).d, (Ru.fork w w w).d, (Ru.leaf w (txt [S94 b 1])).d] (some k) none)) (.list (cutD [(Ru.leaf w (txt [S94 b 0])).d, (Ru.fork w w w).d, (Ru.leaf w (txt [S94 b 1])).d] none (some k))) := fun k e => by
      unfold op2 slL
      dsimp only
      rw [show Option.bind (Option.bind (nmW 1 _) _) _ = _ from sl k e]
      rfl
    rcases h3 with h3 | h3 | h3
    · refine run_ret (d := .list [(Ru.leaf w (txt [S94 b 0])).d, (Ru.fork w w w).d, (Ru.leaf w (txt [S94 b 1])).d]) (slk 0 h3) (thn_rt (ret_ok (Nat.le_of_ble_eq_true rfl) ⟨[.leaf w (txt [S94 b 0]), .fork w w w, .leaf w (txt [S94 b 1])], rfl, gd _ (fun r => ?_) rfl⟩))
      simp
    · refine run_ret (d := .list [(Ru.fork w w w).d, (Ru.leaf w (txt [S94 b 1])).d, (Ru.leaf w (txt [S94 b 0])).d]) (slk 1 h3) (thn_rt (ret_ok (Nat.le_of_ble_eq_true rfl) ⟨[.fork w w w, .leaf w (txt [S94 b 1]), .leaf w (txt [S94 b 0])], rfl, gd _ (fun r => ?_) rfl⟩))
      simp only [List.mem_cons, List.not_mem_nil, or_false]
      constructor
      · rintro (h | h | h) <;> simp [h]
      · rintro (h | h | h) <;> simp [h]
    · refine run_ret (d := .list [(Ru.leaf w (txt [S94 b 1])).d, (Ru.leaf w (txt [S94 b 0])).d, (Ru.fork w w w).d]) (slk 2 h3) (thn_rt (ret_ok (Nat.le_of_ble_eq_true rfl) ⟨[.leaf w (txt [S94 b 1]), .leaf w (txt [S94 b 0]), .fork w w w], rfl, gd _ (fun r => ?_) rfl⟩))
      simp only [List.mem_cons, List.not_mem_nil, or_false]
      constructor
      · rintro (h | h | h) <;> simp [h]
      · rintro (h | h | h) <;> simp [h]
  obtain ⟨cn, hc1, h12, en⟩ : ∃ cn : Nat, 1 ≤ cn ∧ cn ≤ 12 ∧ ifS (opT eqD (op2 modD (op2 fdivD (nmW 1) (fun _ => some (.int 8))) (fun _ => some (.int 6))) (fun _ => some (.int 1)))
      (setS 2 (op2 addD (fun _ => some (.int 5)) (op2 modD (op2 fdivD (nmW 1) (fun _ => some (.int 48))) (fun _ => some (.int 8)))))
      (fun ρ => some (.nx ρ)) [some (Cell.sh (.list (ns.map .int))), some (.sh (.int b)), some (.sh (.int (cnt : Nat))), none, none, none, none, none, none, none] = some (.nx [some (Cell.sh (.list (ns.map .int))), some (.sh (.int b)), some (.sh (.int (cn : Nat))), none, none, none, none, none, none, none]) := by
    have t1 : opT eqD (op2 modD (op2 fdivD (nmW 1) (fun _ => some (.int 8))) (fun _ => some (.int 6))) (fun _ => some (.int 1)) [some (Cell.sh (.list (ns.map .int))), some (.sh (.int b)), some (.sh (.int (cnt : Nat))), none, none, none, none, none, none, none] = some (decide (b / 8 % 6 = 1)) := opT_is (op2_is (x := .int (b / 8)) (y := .int 6) (op2_is (x := .int b) (y := .int 8) rfl rfl rfl) rfl rfl) rfl (eqD_int _ _)
    by_cases q : b / 8 % 6 = 1
    · refine ⟨(5 + b / 48 % 8).toNat, by omega, by omega, ?_⟩
      rw [ifS_yes (by rw [t1, decide_eq_true q])]
      have e5 : (((5 + b / 48 % 8).toNat : Nat) : Int) = 5 + b / 48 % 8 := by omega
      rw [e5]
      exact setS_is (op2_is (x := .int 5) (y := .int (b / 48 % 8)) rfl (op2_is (x := .int (b / 48)) (y := .int 8) (op2_is (x := .int b) (y := .int 48) rfl rfl rfl) rfl rfl) rfl)
    · exact ⟨cnt, h1, by omega, ifS_no (by rw [t1, decide_eq_false q])⟩
  refine run_seq ⟨_, en, ?_⟩
  clear en h1 h4 ec
  generalize cn = cnt at hc1 h12
  obtain ⟨ys, e1, l1, q1⟩ := lcV_all (i := 6) (ds := (List.range cnt).map fun i => .int (i : Nat)) (fi := fun ρ => ((cons2 (nmP 2) (fun _ => some [])) ρ).bind rng1) (ρ := [some (Cell.sh (.list (ns.map .int))), some (.sh (.int b)), some (.sh (.int (cnt : Nat))), none, none, none, none, none, none, none]) (Q := fun y => ∃ w, y = PyData.str w ∧ okN w)
    (f := callS 2 sem__law_word (cons2 (op2 fdivD (nmW 1) (fun _ => some (.int 4))) (cons2 (nmP 6) (fun _ => some [])))) (bind_of (cons2_is rfl rfl) (rng1_nat (by omega))) rfl (by rw [List.length_map, List.length_range]; omega) (fun x hx => by
    obtain ⟨j, hj, rfl⟩ := List.mem_map.mp hx
    have := List.mem_range.mp hj
    obtain ⟨w, e, hw⟩ := word_is (b / 4) (j : Nat) (by omega) (by omega)
    exact ⟨_, callS_is (cons2_is (op2_is (x := .int b) (y := .int 4) rfl rfl rfl) (cons2_is rfl rfl)) rfl e, w, rfl, hw⟩)
  obtain ⟨ws, rfl, wok⟩ := strs_ok ys q1
  rw [List.length_map, List.length_map, List.length_range] at l1
  have wl := l1
  refine rs_set e1 ?_
  refine rs_setN (d := .list []) rfl ?_
  refine rs_forOf (List.range cnt) (fun i => .int (i : Nat)) (fun ys ρ => ∃ rs x6 x7, ρ = stR ns b cnt ws rs x6 x7 none none ∧ Chain ws rs ∧ rs.length = ys.length) ?_ ⟨[], none, none, rfl, fun i r h => (by simp at h), rfl⟩ ?_ ?_
  · exact bind_of (cons2_is rfl rfl) (rng1_nat (by omega))
  · rintro ys i rest ρ hxs ⟨rs, x6, x7, rfl, ch, hl⟩
    obtain ⟨rfl, hlt⟩ := range_at hxs
    have hws : ws[ys.length]? = some ws[ys.length] := List.getElem?_eq_getElem (by omega)
    have hnm := nth_nm (ws := ws) (p := ys.length) (by omega)
    have okw : okN ws[ys.length] := wok _ (List.getElem_mem _)
    refine ⟨_, rfl, rs_set (d := .int (AT ns (30 + (ys.length : Nat)))) (call_at rfl (op2_is rfl rfl rfl) (by omega)) ?_⟩
    generalize AT ns (30 + (ys.length : Nat)) = c
    refine run_if (b := decide ((ys.length : Int) = 0) || decide (c % 3 = 0)) (orT_of (opT_is rfl rfl (eqD_int _ _)) fun _ => opT_is (op2_is (x := .int c) (y := .int 3) rfl rfl rfl) rfl (eqD_int _ _)) (fun hq => ?_) fun hq => ?_
    · refine run_app (xs := rs.map Ru.d) (c := .ow (.list (rs.map Ru.d))) (mkT_of (cons2_is (op2_is rfl rfl hnm) (cons2_is (callS_of (cons2_is rfl (cons2_is (op2_is (op2_is (x := .int c) (y := .int 3) rfl rfl rfl) rfl (rfl : modD (.int (c / 3)) (.int 3) = some (.int (c / 3 % 3)))) rfl)) (sign_is b (c / 3 % 3) (by omega) (by omega))) rfl))) rfl rfl rfl (by rw [List.length_map]; omega) ⟨rs ++ [.leaf ws[ys.length] (txt [S94 b (c / 3 % 3)])], some (.sh (.int (ys.length : Nat))), some (.sh (.int c)), ?_, ch.add (r := .leaf ws[ys.length] (txt [S94 b (c / 3 % 3)])) (by rw [hl]; exact hws) ⟨okw, okS _ (S94_ok _ _)⟩ (fun _ _ _ z => by cases z), ?_⟩
      · show _ = stR ns b cnt ws (rs ++ [.leaf ws[ys.length] (txt [S94 b (c / 3 % 3)])]) _ _ _ _
        unfold stR
        rw [← map_snoc]
        rfl
      · rw [List.length_append, List.length_append, hl]
        rfl
    · have hp : 0 < ys.length := by
        rw [Bool.or_eq_false_iff] at hq
        have := of_decide_eq_false hq.1
        omega
      refine run_if (b := decide ((ys.length : Int) > 3)) (opT_is rfl rfl rfl) (fun hq2 => ?_) fun hq2 => ?_
      · have h3 : 3 < ys.length := by
          have := of_decide_eq_true hq2
          omega
        obtain ⟨p, hp1, ep⟩ : ∃ p : Nat, p < ys.length ∧ (ys.length : Int) - 1 - c / 3 % 2 = (p : Int) := ⟨((ys.length : Int) - 1 - c / 3 % 2).toNat, by omega, by omega⟩
        have hw1 : ws[p]? = some ws[p] := List.getElem?_eq_getElem (by omega)
        have e1 := nth_nm (ws := ws) (p := p) (by omega)
        obtain ⟨q, hq1, w2, hw2, e2⟩ := nth_mod (ws := ws) (i := c / 6) (n := 2) (by omega) (by omega)
        refine run_app (xs := rs.map Ru.d) (c := .ow (.list (rs.map Ru.d))) (mkT_of (cons2_is (op2_is rfl rfl hnm) (cons2_is (op2_is rfl (op2_is (x := .int ((ys.length : Int) - 1)) (y := .int (c / 3 % 2)) (op2_is rfl rfl rfl) (op2_is (x := .int (c / 3)) (y := .int 2) (op2_is (x := .int c) (y := .int 3) rfl rfl rfl) rfl rfl) (congrArg (fun i => some (PyData.int i)) ep)) e1) (cons2_is (op2_is rfl (op2_is (x := .int (c / 6)) (y := .int 2) (op2_is (x := .int c) (y := .int 6) rfl rfl rfl) rfl rfl) e2) rfl)))) rfl rfl rfl (by rw [List.length_map]; omega) ⟨rs ++ [.fork ws[ys.length] ws[p] w2], some (.sh (.int (ys.length : Nat))), some (.sh (.int c)), ?_, ch.add (r := .fork ws[ys.length] ws[p] w2) (by rw [hl]; exact hws) ⟨okw, wok _ (List.getElem_mem _), wok _ (List.mem_of_getElem? hw2)⟩ (fun n x y z => by cases z; exact ⟨p, q, by omega, by omega, hw1, hw2⟩), ?_⟩
        · show _ = stR ns b cnt ws (rs ++ [.fork ws[ys.length] ws[p] w2]) _ _ _ _
          unfold stR
          rw [← map_snoc]
          rfl
        · rw [List.length_append, List.length_append, hl]
          rfl
      · obtain ⟨p, hp1, w1, hw1, e1⟩ := nth_mod (ws := ws) (i := c / 3) (n := ys.length) hp (by omega)
        obtain ⟨q, hq1, w2, hw2, e2⟩ := nth_mod (ws := ws) (i := c / 18) (n := ys.length) hp (by omega)
        have m1 := modD_nat (i := c / 3) hp (by omega)
        have m2 := modD_nat (i := c / 18) hp (by omega)
        refine run_app (xs := rs.map Ru.d) (c := .ow (.list (rs.map Ru.d))) (mkT_of (cons2_is (op2_is rfl rfl hnm) (cons2_is (op2_is rfl (op2_is (op2_is (x := .int c) (y := .int 3) rfl rfl rfl) rfl m1) e1) (cons2_is (op2_is rfl (op2_is (op2_is (x := .int c) (y := .int 18) rfl rfl rfl) rfl m2) e2) rfl)))) rfl rfl rfl (by rw [List.length_map]; omega) ⟨rs ++ [.fork ws[ys.length] w1 w2], some (.sh (.int (ys.length : Nat))), some (.sh (.int c)), ?_, ch.add (r := .fork ws[ys.length] w1 w2) (by rw [hl]; exact hws) ⟨okw, wok _ (List.mem_of_getElem? hw1), wok _ (List.mem_of_getElem? hw2)⟩ (fun n x y z => by cases z; exact ⟨p, q, by omega, by omega, hw1, hw2⟩), ?_⟩
        · show _ = stR ns b cnt ws (rs ++ [.fork ws[ys.length] w1 w2]) _ _ _ _
          unfold stR
          rw [← map_snoc]
          rfl
        · rw [List.length_append, List.length_append, hl]
          rfl
  rintro ρ ⟨rs, x6, x7, rfl, ch, hl⟩
  rw [List.length_range] at hl
  obtain ⟨m, hm, em⟩ : ∃ m : Nat, m ≤ 6 ∧ AT ns 1 % 7 = (m : Int) := ⟨(AT ns 1 % 7).toNat, by omega, by omega⟩
  refine rs_forOf (List.range m) (fun i => .int (i : Nat)) (fun ys ρ => ∃ ex x6 x7 x8 x9, ρ = stR ns b cnt ws (rs ++ ex) x6 x7 x8 x9 ∧ (∀ r ∈ ex, InW ws r) ∧ ex.length = ys.length) ?_ ⟨[], x6, x7, none, none, by rw [List.append_nil], fun _ h => (by cases h), rfl⟩ ?_ ?_
  · exact bind_of (cons2_is (op2_is (x := .int (AT ns 1)) (y := .int 7) (call_at rfl rfl (by omega)) rfl (congrArg (fun i => some (PyData.int i)) em)) rfl) (rng1_nat (by omega))
  · rintro ys i rest ρ hxs ⟨ex, x6, x7, x8, x9, rfl, hex, hle⟩
    obtain ⟨rfl, hlt⟩ := range_at hxs
    refine ⟨_, rfl, rs_set (d := .int (AT ns (6 + (ys.length : Nat)))) (call_at rfl (op2_is rfl rfl rfl) (by omega)) ?_⟩
    generalize AT ns (6 + (ys.length : Nat)) = c
    obtain ⟨p1, _, w1, hw1, e1⟩ := nth_mod (ws := ws) (i := c / 3) (n := cnt) (by omega) (by omega)
    obtain ⟨p2, _, w2, hw2, e2⟩ := nth_mod (ws := ws) (i := c / 12) (n := cnt) (by omega) (by omega)
    obtain ⟨p3, _, w3, hw3, e3⟩ := nth_mod (ws := ws) (i := c / 48) (n := cnt) (by omega) (by omega)
    have m1 := modD_nat (i := c / 3) (n := cnt) (by omega) (by omega)
    have m2 := modD_nat (i := c / 12) (n := cnt) (by omega) (by omega)
    have m3 := modD_nat (i := c / 48) (n := cnt) (by omega) (by omega)
    have i1 := List.mem_of_getElem? hw1
    have i2 := List.mem_of_getElem? hw2
    have i3 := List.mem_of_getElem? hw3
    have ll : ((rs ++ ex).map Ru.d).length < 100000 := by
      rw [List.length_map, List.length_append]
      omega
    have add : ∀ r, InW ws r → (∀ r' ∈ ex ++ [r], InW ws r') ∧ (ex ++ [r]).length = (ys ++ [ys.length]).length := fun r hr => by
      refine ⟨fun r' h => ?_, by rw [List.length_append, List.length_append, hle]; rfl⟩
      rcases List.mem_append.mp h with h | h
      · exact hex r' h
      · rcases List.mem_singleton.mp h with rfl
        exact hr
    refine rs_par (x := .str w1) (y := .str w2) (cons2_is (op2_is rfl (op2_is (op2_is (x := .int c) (y := .int 3) rfl rfl rfl) rfl m1) e1) (cons2_is (op2_is rfl (op2_is (op2_is (x := .int c) (y := .int 12) rfl rfl rfl) rfl m2) e2) rfl)) ?_
    refine run_if (b := decide (c % 3 = 0)) (opT_is (op2_is (x := .int c) (y := .int 3) rfl rfl rfl) rfl (eqD_int _ _)) (fun hq => ?_) fun hq => ?_
    · refine run_app (xs := (rs ++ ex).map Ru.d) (c := .ow (.list ((rs ++ ex).map Ru.d))) (mkT_of (cons2_is rfl (cons2_is (callS_of (cons2_is rfl (cons2_is (op2_is (op2_is (x := .int c) (y := .int 12) rfl rfl rfl) rfl (rfl : modD (.int (c / 12)) (.int 3) = some (.int (c / 12 % 3)))) rfl)) (sign_is b (c / 12 % 3) (by omega) (by omega))) rfl))) rfl rfl rfl ll ⟨ex ++ [.leaf w1 (txt [S94 b (c / 12 % 3)])], some (.sh (.int (ys.length : Nat))), some (.sh (.int c)), some (.sh (.str w1)), some (.sh (.str w2)), ?_, add (.leaf w1 (txt [S94 b (c / 12 % 3)])) ⟨⟨wok _ i1, okS _ (S94_ok _ _)⟩, i1, fun _ _ _ z => by cases z⟩⟩
      unfold stR
      rw [← List.append_assoc, ← map_snoc]
      rfl
    · refine run_app (xs := (rs ++ ex).map Ru.d) (c := .ow (.list ((rs ++ ex).map Ru.d))) (mkT_of (cons2_is (op2_is rfl (op2_is (op2_is (x := .int c) (y := .int 48) rfl rfl rfl) rfl m3) e3) (cons2_is rfl (cons2_is rfl rfl)))) rfl rfl rfl ll ⟨ex ++ [.fork w3 w1 w2], some (.sh (.int (ys.length : Nat))), some (.sh (.int c)), some (.sh (.str w1)), some (.sh (.str w2)), ?_, add (.fork w3 w1 w2) ⟨⟨wok _ i3, wok _ i1, wok _ i2⟩, i3, fun n x y z => by cases z; exact ⟨i1, i2⟩⟩⟩
      unfold stR
      rw [← List.append_assoc, ← map_snoc]
      rfl
  rintro ρ ⟨ex, x6, x7, x8, x9, rfl, hex, hle⟩
  rw [List.length_range] at hle
  have gd := good_of ch (by omega) hex (by omega) (by omega) (by omega)
  refine rs_ifs (b := decide (b / 4 % 2 = 1)) (opT_is (op2_is (x := .int (b / 4)) (y := .int 2) (op2_is (x := .int b) (y := .int 4) rfl rfl rfl) rfl rfl) rfl (eqD_int _ _)) (fun hq => ?_) fun hq => ?_
  · refine run_mut (c := .ow (.list ((rs ++ ex).map Ru.d))) (d := .list ((rs ++ ex).map Ru.d).reverse) rfl rfl rfl ?_
    exact run_retNm (d := .list ((rs ++ ex).map Ru.d).reverse) (o := true) rfl (ret_ok (Nat.le_of_ble_eq_true rfl) ⟨(rs ++ ex).reverse, by rw [List.map_reverse], gd.2⟩)
  · refine run_nx ?_
    exact run_retNm (d := .list ((rs ++ ex).map Ru.d)) (o := true) rfl (ret_ok (Nat.le_of_ble_eq_true rfl) ⟨rs ++ ex, rfl, gd.1⟩)
end LB

namespace LB
open PySem L2 DS MD ML
theorem joined {xs : List Nat} {f : Nat → Nat} (hl : xs.length ≤ 1000) : joinD (.str ⟨#[]⟩) (.list (xs.map fun k => sgD (f k))) = some (.str (txt (xs.map f))) := by
  obtain ⟨t, h1, h2⟩ := joinD_sg (cs := xs.map f) (by rw [List.length_map]; omega)
  rw [txt_of h2, List.map_map] at h1
  exact h1
abbrev stT (ns : List Int) (b s : Int) : Nv := [some (.sh (.list (ns.map .int))), some (.sh (.int b)), some (.sh (.int s)), none]
theorem text_is (ns : List Int) (b : Int) : ∃ cs, sem__law_text [.list (ns.map .int), .int b] = some (.ret (.str (txt cs)) false []) ∧ cs.length ≤ 40 ∧ ∀ c ∈ cs, sgB c = true := by
  have key := sem_of (o := false) (ψ := fun d => ∃ cs, d = .str (txt cs) ∧ cs.length ≤ 40 ∧ ∀ c ∈ cs, sgB c = true) (ds := [.list (ns.map .int), .int b]) (k := 2) (m := 2) (g := g__law_text) rfl ?_
  · obtain ⟨d, h1, cs, rfl, h2⟩ := key
    exact ⟨cs, h1, h2⟩
  unfold g__law_text
  have c12 : ∀ s, callS 2 sem__law_at (cons2 (nmP 0) (cons2 (fun _ => some (.int 12)) (fun _ => some []))) (stT ns b s) = some (.int (AT ns 12)) := fun s => call_at rfl rfl (by omega)
  have c1 : ∀ s, callS 2 sem__law_at (cons2 (nmP 0) (cons2 (fun _ => some (.int 1)) (fun _ => some []))) (stT ns b s) = some (.int (AT ns 1)) := fun s => call_at rfl rfl (by omega)
  refine rs_set (d := .int (AT ns 12 % 7)) (op2_is (x := .int (AT ns 12)) (y := .int 7) (call_at rfl rfl (by omega)) rfl rfl) ?_
  generalize AT ns 12 = z at c12
  obtain ⟨s2, h1, h2, e2⟩ : ∃ s2 : Int, 0 ≤ s2 ∧ s2 ≤ 8 ∧ ifS (opT eqD (op2 modD (op2 fdivD (callS 2 sem__law_at (cons2 (nmP 0) (cons2 (fun _ => some (.int 12)) (fun _ => some [])))) (fun _ => some (.int 7))) (fun _ => some (.int 8))) (fun _ => some (.int 1)))
      (setS 2 (op2 addD (fun _ => some (.int 7)) (op2 modD (op2 fdivD (callS 2 sem__law_at (cons2 (nmP 0) (cons2 (fun _ => some (.int 12)) (fun _ => some [])))) (fun _ => some (.int 56))) (fun _ => some (.int 2)))))
      (fun ρ => some (.nx ρ)) (stT ns b (z % 7)) = some (.nx (stT ns b s2)) := by
    have t1 : opT eqD (op2 modD (op2 fdivD (callS 2 sem__law_at (cons2 (nmP 0) (cons2 (fun _ => some (.int 12)) (fun _ => some [])))) (fun _ => some (.int 7))) (fun _ => some (.int 8))) (fun _ => some (.int 1)) (stT ns b (z % 7)) = some (decide (z / 7 % 8 = 1)) := opT_is (op2_is (x := .int (z / 7)) (y := .int 8) (op2_is (x := .int z) (y := .int 7) (c12 _) rfl rfl) rfl rfl) rfl (eqD_int _ _)
    by_cases q : z / 7 % 8 = 1
    · refine ⟨7 + z / 56 % 2, by omega, by omega, ?_⟩
      rw [ifS_yes (by rw [t1, decide_eq_true q])]
      exact setS_is (op2_is (x := .int 7) (y := .int (z / 56 % 2)) rfl (op2_is (x := .int (z / 56)) (y := .int 2) (op2_is (x := .int z) (y := .int 56) (c12 _) rfl rfl) rfl rfl) rfl)
    · exact ⟨z % 7, by omega, by omega, ifS_no (by rw [t1, decide_eq_false q])⟩
  refine run_seq ⟨_, e2, ?_⟩
  obtain ⟨s3, h3, h4, e3⟩ : ∃ s3 : Int, 0 ≤ s3 ∧ s3 ≤ 16 ∧ ifS (opT eqD (op2 modD (op2 fdivD (nmW 1) (fun _ => some (.int 8))) (fun _ => some (.int 12))) (fun _ => some (.int 4)))
      (setS 2 (op2 addD (fun _ => some (.int 9)) (op2 modD (callS 2 sem__law_at (cons2 (nmP 0) (cons2 (fun _ => some (.int 12)) (fun _ => some [])))) (fun _ => some (.int 8)))))
      (ifS (opT eqD (op2 modD (op2 fdivD (nmW 1) (fun _ => some (.int 8))) (fun _ => some (.int 6))) (fun _ => some (.int 1)))
      (setS 2 (op2 modD (nmW 2) (fun _ => some (.int 3))))
      (ifS (opT gtD (op2 modD (callS 2 sem__law_at (cons2 (nmP 0) (cons2 (fun _ => some (.int 1)) (fun _ => some [])))) (fun _ => some (.int 7))) (fun _ => some (.int 3)))
      (setS 2 (callD min2D (cons2 (nmW 2) (cons2 (fun _ => some (.int 5)) (fun _ => some [])))))
      (fun ρ => some (.nx ρ)))) (stT ns b s2) = some (.nx (stT ns b s3)) := by
    have t1 : opT eqD (op2 modD (op2 fdivD (nmW 1) (fun _ => some (.int 8))) (fun _ => some (.int 12))) (fun _ => some (.int 4)) (stT ns b s2) = some (decide (b / 8 % 12 = 4)) := opT_is (op2_is (x := .int (b / 8)) (y := .int 12) (op2_is (x := .int b) (y := .int 8) rfl rfl rfl) rfl rfl) rfl (eqD_int _ _)
    have t2 : opT eqD (op2 modD (op2 fdivD (nmW 1) (fun _ => some (.int 8))) (fun _ => some (.int 6))) (fun _ => some (.int 1)) (stT ns b s2) = some (decide (b / 8 % 6 = 1)) := opT_is (op2_is (x := .int (b / 8)) (y := .int 6) (op2_is (x := .int b) (y := .int 8) rfl rfl rfl) rfl rfl) rfl (eqD_int _ _)
    have t3 : opT gtD (op2 modD (callS 2 sem__law_at (cons2 (nmP 0) (cons2 (fun _ => some (.int 1)) (fun _ => some [])))) (fun _ => some (.int 7))) (fun _ => some (.int 3)) (stT ns b s2) = some (decide (AT ns 1 % 7 > 3)) := opT_is (op2_is (x := .int (AT ns 1)) (y := .int 7) (c1 _) rfl rfl) rfl rfl
    by_cases q : b / 8 % 12 = 4
    · refine ⟨9 + z % 8, by omega, by omega, ?_⟩
      rw [ifS_yes (by rw [t1, decide_eq_true q])]
      exact setS_is (op2_is (x := .int 9) (y := .int (z % 8)) rfl (op2_is (x := .int z) (y := .int 8) (c12 _) rfl rfl) rfl)
    rw [ifS_no (by rw [t1, decide_eq_false q])]
    by_cases q2 : b / 8 % 6 = 1
    · refine ⟨s2 % 3, by omega, by omega, ?_⟩
      rw [ifS_yes (by rw [t2, decide_eq_true q2])]
      exact setS_is (op2_is (x := .int s2) (y := .int 3) rfl rfl rfl)
    rw [ifS_no (by rw [t2, decide_eq_false q2])]
    by_cases q3 : AT ns 1 % 7 > 3
    · refine ⟨if (5 : Int) < s2 then 5 else s2, by split <;> omega, by split <;> omega, ?_⟩
      rw [ifS_yes (by rw [t3, decide_eq_true q3])]
      refine setS_is ?_
      unfold callD
      rw [cons2_is (d := .int s2) rfl (cons2_is rfl rfl)]
      rfl
    · exact ⟨s2, by omega, by omega, ifS_no (by rw [t3, decide_eq_false q3])⟩
  refine run_seq ⟨_, e3, ?_⟩
  obtain ⟨m, hm, rfl⟩ : ∃ m : Nat, m ≤ 16 ∧ s3 = (m : Int) := ⟨s3.toNat, by omega, by omega⟩
  refine run_ret (op2_is (x := .str ⟨#[]⟩) rfl (lcV_to (List.range m) (fun i => .int (i : Nat)) (fun (k : Nat) => sgD (S94 b (AT ns (20 + (k : Nat)) % 4))) ?_ rfl (by rw [List.length_range]; omega) fun k hk => ?_) (joined (by rw [List.length_range]; omega))) (ret_ok (Nat.le_of_ble_eq_true rfl) ⟨_, rfl, ?_, ?_⟩)
  · exact bind_of (cons2_is rfl rfl) (rng1_nat (by omega))
  · exact callS_of (cons2_is rfl (cons2_is (op2_is (x := .int (AT ns (20 + (k : Nat)))) (y := .int 4) (call_at rfl (op2_is rfl rfl rfl) (by omega)) rfl rfl) rfl)) (sign_is b _ (by omega) (by omega))
  · rw [List.length_map, List.length_range]
    omega
  · intro c hc
    obtain ⟨k, _, rfl⟩ := List.mem_map.mp hc
    exact S94_ok _ _
end LB

namespace K7
open PySem L2 DS MD ML LB
def topS (i : Nat) : Stmt := PySem.Challenge.pw_mendread_k07_whole_no_cheaper.main.body.getD i (.Pass ⟨0, 0, 0, 0⟩)
structure Blts (mg : Str → Option Value) : Prop where
  b_all : mg "all" = none
  b_bool : mg "bool" = none
  b_dict : mg "dict" = none
  b_enumerate : mg "enumerate" = none
  b_int : mg "int" = none
  b_isinstance : mg "isinstance" = none
  b_len : mg "len" = none
  b_list : mg "list" = none
  b_max : mg "max" = none
  b_min : mg "min" = none
  b_ord : mg "ord" = none
  b_range : mg "range" = none
  b_sorted : mg "sorted" = none
  b_str : mg "str" = none
  b_tuple : mg "tuple" = none
  c_BLANK : ∃ t, mg "BLANK" = some (.int 32 t)
  c_MOST_LETTERS : ∃ t, mg "MOST_LETTERS" = some (.int 12 t)
  c_MOST_RULES : ∃ t, mg "MOST_RULES" = some (.int 40 t)
  c_MOST_SIGNS : ∃ t, mg "MOST_SIGNS" = some (.int 40 t)
  c_PERCENT : ∃ t, mg "PERCENT" = some (.int 37 t)
  c_TILDE : ∃ t, mg "TILDE" = some (.int 126 t)
section
variable {P : Program} {w : World} {K : PySem.W.Frag} {mg : Str → Option Value} {base : Heap} {cs : List Tb}

/-! is_sign -/
abbrev s_is_sign : Stmt := topS 13
theorem sc_is_sign : FnScope ["thing", "number"] ["thing"] (defScope s_is_sign) := ⟨rfl, rfl, rfl, by decide +kernel, rfl, by decide +kernel, by decide +kernel⟩
theorem ok_is_sign {f : Addr} {fd : FuncData} (F : Fun K "is_sign" "is_sign" s_is_sign f fd) (B : Blts mg) : FnOk P w K mg base CX0 1 f fd ["thing"] (spD K cs [.ro] sem_is_sign) := by
  refine fn_ds F sc_is_sign rfl fun cdv A outer s H E hr => ⟨g_is_sign, ?_, co_is_sign⟩
  exact (sd_cons (sd_if (et_pw (ew_or (et_not (et_val ((e_isi isi_str (by rfl) B.b_isinstance (e_nameW (pv 0)) (by rfl) B.b_str PyProof.Rows.boot_str)).w)) (ew_or1 (et_cmp (od_ne hr.units) ((e_callB cd_len (by rfl) B.b_len PySem.boot_len (ewa_cons (e_nameW (pv 0)) ewa_nil))).w (e_int).w (nomark _)))))
      (sd_one (sd_ret e_bool))
      sd_nil)
    (sd_cons (sd_set (i := 1) sc_is_sign.nd rfl (by first | exact .inl rfl | exact .inr rfl) (e_callB cd_ord (by rfl) B.b_ord PyProof.Rows.boot_ord (ewa_cons (e_nameW (pv 0)) ewa_nil)))
    (sd_one (sd_ret (e_and (e_chain od_le od_le ((e_gint (by rfl) B.c_BLANK)).w (e_nameW (pv 1)) ((e_gint (by rfl) B.c_TILDE)).w) (e_one (e_cmp (od_ne hr.units) (e_nameW (pv 1)) ((e_gint (by rfl) B.c_PERCENT)).w (nomark _))))))))

/-! is_name -/
abbrev s_is_name : Stmt := topS 14
theorem sc_is_name : FnScope ["thing"] ["thing"] (defScope s_is_name) := ⟨rfl, rfl, rfl, by decide +kernel, rfl, by decide +kernel, by decide +kernel⟩
theorem ok_is_name {f c T : Addr} {fd : FuncData} (F : FunC K "is_name" "is_name" s_is_name f fd c) (TB : GxR.TabB base mg c T) (hP : (T, none) ∈ cs) (B : Blts mg) : FnOk P w K mg base CX0 2 f fd ["thing"] (spD K cs [.ro] sem_is_name) := by
  refine fn_dsC F sc_is_name rfl fun A outer s H E hr => ⟨g_is_name, ?_, co_is_name⟩
  exact (sd_cons (sd_if (et_pw (ew_or (et_not (et_val ((e_isi isi_str (by rfl) B.b_isinstance (e_nameW (pv 0)) (by rfl) B.b_str PyProof.Rows.boot_str)).w)) (ew_or (et_cmp od_lt ((e_callB cd_len (by rfl) B.b_len PySem.boot_len (ewa_cons (e_nameW (pv 0)) ewa_nil))).w (e_int).w (nomark _)) (ew_or1 (et_cmp od_gt ((e_callB cd_len (by rfl) B.b_len PySem.boot_len (ewa_cons (e_nameW (pv 0)) ewa_nil))).w ((e_gint (by rfl) B.c_MOST_LETTERS)).w (nomark _))))))
      (sd_one (sd_ret e_bool))
      sd_nil)
    (sd_one (sd_ret (e_allG (by exact hr) rfl (by rfl) B.b_all (by exact TB) rfl hP ⟨rfl, rfl, by decide +kernel, by decide +kernel, by decide +kernel, by decide +kernel⟩ (i_str (e_nameW (pv 0))) (fun A' s0 H0 C code ex pn hr => (e_chain od_le od_le (e_str).w (e_nameW (pv 0)) (e_str).w))))))

/-! is_rule -/
abbrev s_is_rule : Stmt := topS 15
theorem sc_is_rule : FnScope ["thing"] ["thing"] (defScope s_is_rule) := ⟨rfl, rfl, rfl, by decide +kernel, rfl, by decide +kernel, by decide +kernel⟩
theorem ok_is_rule {f c T : Addr} {fd : FuncData} (F : FunC K "is_rule" "is_rule" s_is_rule f fd c) (TB : GxR.TabB base mg c T) (hP : (T, none) ∈ cs) (B : Blts mg) (C_is_name : Cal P w K mg base cs "is_name" 2 ["thing"] [.ro] sem_is_name) (C_is_sign : Cal P w K mg base cs "is_sign" 1 ["thing"] [.ro] sem_is_sign) : FnOk P w K mg base CX0 4 f fd ["thing"] (spD K cs [.ro] sem_is_rule) := by
  refine fn_dsC F sc_is_rule rfl fun A outer s H E hr => ⟨g_is_rule, ?_, co_is_rule⟩
  exact (sd_cons (sd_if (et_not (et_val ((e_isi isi_tuple (by rfl) B.b_isinstance (e_nameW (pv 0)) (by rfl) B.b_tuple PyProof.Rows.boot_tuple)).w))
      (sd_one (sd_ret e_bool))
      sd_nil)
    (sd_cons (sd_if (et_cmp (od_eq hr.units) ((e_callB cd_len (by rfl) B.b_len PySem.boot_len (ewa_cons (e_nameW (pv 0)) ewa_nil))).w (e_int).w (nomark _))
      (sd_one (sd_ret (e_and (c_call C_is_name (by exact ⟨rfl, rfl, rfl, rfl, rfl⟩) (by decide) (by exact hr) (by decide) (by rfl) (ep_cons (e_ix (e_nameW (pv 0)) (e_int).w (fun _ _ => rfl)) ep_nil)) (e_one (c_call C_is_sign (by exact ⟨rfl, rfl, rfl, rfl, rfl⟩) (by decide) (by exact hr) (by decide) (by rfl) (ep_cons (e_ix (e_nameW (pv 0)) (e_int).w (fun _ _ => rfl)) ep_nil))))))
      sd_nil)
    (sd_one (sd_ret (e_and (e_cmp (od_eq hr.units) ((e_callB cd_len (by rfl) B.b_len PySem.boot_len (ewa_cons (e_nameW (pv 0)) ewa_nil))).w (e_int).w (nomark _)) (e_one (e_allG (by exact hr) rfl (by rfl) B.b_all (by exact TB) rfl hP ⟨rfl, rfl, by decide +kernel, by decide +kernel, by decide +kernel, by decide +kernel⟩ (i_tup (e_nameP (pv 0))) (fun A' s0 H0 C code ex pn hr => (c_call C_is_name (by exact ⟨rfl, rfl, rfl, rfl, rfl⟩) (by decide) (by exact hr) (by decide) (by rfl) (ep_cons (e_nameP (pv 0)) ep_nil))))))))))

/-! is_fork_rule -/
abbrev s_is_fork_rule : Stmt := topS 16
theorem sc_is_fork_rule : FnScope ["rule"] ["rule"] (defScope s_is_fork_rule) := ⟨rfl, rfl, rfl, by decide +kernel, rfl, by decide +kernel, by decide +kernel⟩
theorem ok_is_fork_rule {f : Addr} {fd : FuncData} (F : Fun K "is_fork_rule" "is_fork_rule" s_is_fork_rule f fd) (B : Blts mg) : FnOk P w K mg base CX0 1 f fd ["rule"] (spD K cs [.ro] sem_is_fork_rule) := by
  refine fn_ds F sc_is_fork_rule rfl fun cdv A outer s H E hr => ⟨g_is_fork_rule, ?_, co_is_fork_rule⟩
  exact (sd_one (sd_ret (e_cmp (od_eq hr.units) ((e_callB cd_len (by rfl) B.b_len PySem.boot_len (ewa_cons (e_nameW (pv 0)) ewa_nil))).w (e_int).w (nomark _))))

/-! need_only_rules -/
abbrev s_need_only_rules : Stmt := topS 18
theorem sc_need_only_rules : FnScope ["rules", "at", "rule"] ["rules"] (defScope s_need_only_rules) := ⟨rfl, rfl, rfl, by decide +kernel, rfl, by decide +kernel, by decide +kernel⟩
theorem ok_need_only_rules {f : Addr} {fd : FuncData} (F : Fun K "need_only_rules" "need_only_rules" s_need_only_rules f fd) (B : Blts mg) (C_is_rule : Cal P w K mg base cs "is_rule" 4 ["thing"] [.ro] sem_is_rule) : FnOk P w K mg base CX0 5 f fd ["rules"] (spD K cs [.ro] sem_need_only_rules) := by
  refine fn_ds F sc_need_only_rules rfl fun cdv A outer s H E hr => ⟨g_need_only_rules, ?_, co_need_only_rules⟩
  exact (sd_cons (sd_if (et_cmp (od_eq hr.units) ((e_callB cd_len (by rfl) B.b_len PySem.boot_len (ewa_cons (e_nameW (pv 0)) ewa_nil))).w (e_int).w (nomark _))
      (sd_one sd_never)
      sd_nil)
    (sd_one (sd_for PassesOwn.never rfl (i_enum (by rfl) B.b_enumerate (ep_cons (e_nameP (pv 0)) ep_nil)) (g_tup rfl (gs_cons (g_name (i := 1) sc_need_only_rules.nd rfl (by first | exact .inl rfl | exact .inr rfl)) (gs_cons (g_name (i := 2) sc_need_only_rules.nd rfl (by first | exact .inl rfl | exact .inr rfl)) gs_nil)))
      (sd_cons (sd_if (et_cmp od_ge (e_nameW (pv 1)) ((e_gint (by rfl) B.c_MOST_RULES)).w (nomark _))
      (sd_one sd_never)
      sd_nil)
    (sd_one (sd_if (et_not (et_val ((c_call C_is_rule (by exact ⟨rfl, rfl, rfl, rfl, rfl⟩) (by decide) (by exact hr) (by decide) (by rfl) (ep_cons (e_nameP (pv 2)) ep_nil))).w))
      (sd_one sd_never)
      sd_nil))))))

/-! names_of -/
abbrev s_names_of : Stmt := topS 22
theorem sc_names_of : FnScope ["rules", "rule"] ["rules"] (defScope s_names_of) := ⟨rfl, rfl, rfl, by decide +kernel, rfl, by decide +kernel, by decide +kernel⟩
theorem ok_names_of {f : Addr} {fd : FuncData} (F : Fun K "names_of" "names_of" s_names_of f fd) (B : Blts mg) : FnOk P w K mg base CX0 1 f fd ["rules"] (spD K cs [.ro] sem_names_of) := by
  refine fn_ds F sc_names_of rfl fun cdv A outer s H E hr => ⟨g_names_of, ?_, co_names_of⟩
  exact (sd_one (sd_retN (e_callTN (cn_listK rfl) (by rfl) B.b_list PyProof.Rows.boot_list (ewa_cons ((e_dc rfl sc_names_of.nd (i := 1) rfl ((i_list (e_nameP (pv 0)))).comp (blkOk_by (by show blkC ["rules", "rule"] (defScope s_names_of) _ _ = true; decide +kernel)) (fun _ _ _ _ _ => by rfl) (fun _ _ _ _ _ => ets_nil) (fun _ _ _ _ _ => (e_ix (e_nameW (pv 1)) (e_int).w (fun _ _ => rfl))) (fun _ _ _ _ _ => e_bool))).w ewa_nil))))

/-! need_known_names -/
abbrev s_need_known_names : Stmt := topS 19
theorem sc_need_known_names : FnScope ["rules", "known", "at", "rule", "name"] ["rules"] (defScope s_need_known_names) := ⟨rfl, rfl, rfl, by decide +kernel, rfl, by decide +kernel, by decide +kernel⟩
theorem ok_need_known_names {f : Addr} {fd : FuncData} (F : Fun K "need_known_names" "need_known_names" s_need_known_names f fd) (B : Blts mg) (C_is_fork_rule : Cal P w K mg base cs "is_fork_rule" 1 ["rule"] [.ro] sem_is_fork_rule) (C_names_of : Cal P w K mg base cs "names_of" 1 ["rules"] [.ro] sem_names_of) : FnOk P w K mg base CX0 2 f fd ["rules"] (spD K cs [.ro] sem_need_known_names) := by
  refine fn_ds F sc_need_known_names rfl fun cdv A outer s H E hr => ⟨g_need_known_names, ?_, co_need_known_names⟩
  exact (sd_cons (sd_set (i := 1) sc_need_known_names.nd rfl (by first | exact .inl rfl | exact .inr rfl) (c_call C_names_of (by exact ⟨rfl, rfl, rfl, rfl, rfl⟩) (by decide) (by exact hr) (by decide) (by rfl) (ep_cons (e_nameP (pv 0)) ep_nil)))
    (sd_one (sd_for PassesOwn.never rfl (i_enum (by rfl) B.b_enumerate (ep_cons (e_nameP (pv 0)) ep_nil)) (g_tup rfl (gs_cons (g_name (i := 2) sc_need_known_names.nd rfl (by first | exact .inl rfl | exact .inr rfl)) (gs_cons (g_name (i := 3) sc_need_known_names.nd rfl (by first | exact .inl rfl | exact .inr rfl)) gs_nil)))
      (sd_one (sd_if (et_val ((c_call C_is_fork_rule (by exact ⟨rfl, rfl, rfl, rfl, rfl⟩) (by decide) (by exact hr) (by decide) (by rfl) (ep_cons (e_nameP (pv 3)) ep_nil))).w)
      (sd_one (sd_for PassesOwn.never rfl (i_tup (e_slS (e_nameW (pv 3)) (eo_some e_int) eo_none)) (g_name (i := 4) sc_need_known_names.nd rfl (by first | exact .inl rfl | exact .inr rfl))
      (sd_one (sd_if (et_cmp (od_nin (hu65 hr)) (e_nameW (pv 4)) (e_nameW (pv 1)) (by rfl))
      (sd_one sd_never)
      sd_nil))))
      sd_nil)))))

/-! length_by -/
abbrev s_length_by : Stmt := topS 25
theorem sc_length_by : FnScope ["rule", "lengths", "_", "one", "other"] ["rule", "lengths"] (defScope s_length_by) := ⟨rfl, rfl, rfl, by decide +kernel, rfl, by decide +kernel, by decide +kernel⟩
theorem ok_length_by {f : Addr} {fd : FuncData} (F : Fun K "length_by" "length_by" s_length_by f fd) (B : Blts mg) (C_is_fork_rule : Cal P w K mg base cs "is_fork_rule" 1 ["rule"] [.ro] sem_is_fork_rule) : FnOk P w K mg base CX0 2 f fd ["rule", "lengths"] (spD K cs [.ro, .ro] sem_length_by) := by
  refine fn_ds F sc_length_by rfl fun cdv A outer s H E hr => ⟨g_length_by, ?_, co_length_by⟩
  exact (sd_cons (sd_if (et_not (et_val ((c_call C_is_fork_rule (by exact ⟨rfl, rfl, rfl, rfl, rfl⟩) (by decide) (by exact hr) (by decide) (by rfl) (ep_cons (e_nameP (pv 0)) ep_nil))).w))
      (sd_one (sd_ret e_int))
      sd_nil)
    (sd_cons (sd_asgT (e_nameP (pv 0)) (g_tup rfl (gs_cons (g_name (i := 2) sc_length_by.nd rfl (by first | exact .inl rfl | exact .inr rfl)) (gs_cons (g_name (i := 3) sc_length_by.nd rfl (by first | exact .inl rfl | exact .inr rfl)) (gs_cons (g_name (i := 4) sc_length_by.nd rfl (by first | exact .inl rfl | exact .inr rfl)) gs_nil)))))
    (sd_cons (sd_if (et_pw (ew_and (et_inK (by exact hu65 hr) (e_nameW (pv 3)) (e_nameW (pv 1)) (by rfl)) (ew_and1 (et_inK (by exact hu65 hr) (e_nameW (pv 4)) (e_nameW (pv 1)) (by rfl)))))
      (sd_one (sd_ret (e_op od_add ((e_getK (by exact hu65 hr) (e_nameW (pv 1)) (e_nameW (pv 3)) (fun _ _ => rfl))).w ((e_getK (by exact hu65 hr) (e_nameW (pv 1)) (e_nameW (pv 4)) (fun _ _ => rfl))).w)))
      sd_nil)
    (sd_one (sd_ret e_none)))))

/-! keep_lesser -/
abbrev s_keep_lesser : Stmt := topS 26
theorem sc_keep_lesser : FnScope ["least", "name", "number"] ["least", "name", "number"] (defScope s_keep_lesser) := ⟨rfl, rfl, rfl, by decide +kernel, rfl, by decide +kernel, by decide +kernel⟩
theorem ok_keep_lesser {f : Addr} {fd : FuncData} (F : Fun K "keep_lesser" "keep_lesser" s_keep_lesser f fd) (B : Blts mg) : FnOk P w K mg base CX0 1 f fd ["least", "name", "number"] (spD K cs [.io, .ro, .ro] sem_keep_lesser) := by
  refine fn_ds F sc_keep_lesser rfl fun cdv A outer s H E hr => ⟨g_keep_lesser, ?_, co_keep_lesser⟩
  exact (sd_cons (sd_if (et_pw (ew_and (et_inK (by exact hu65 hr) (e_nameW (pv 1)) (e_nameW (pv 0)) (by rfl)) (ew_and1 (et_cmp od_le ((e_getK (by exact hu65 hr) (e_nameW (pv 0)) (e_nameW (pv 1)) (fun _ _ => rfl))).w (e_nameW (pv 2)) (nomark _)))))
      (sd_one (sd_ret e_bool))
      sd_nil)
    (sd_cons (sd_put (by exact hu65 hr) (pv 0) (e_nameW (pv 1)) (e_nameP (pv 2)))
    (sd_one (sd_ret e_bool))))

/-! lengths_of -/
abbrev s_lengths_of : Stmt := topS 24
theorem sc_lengths_of : FnScope ["rules", "lengths", "lowered", "rule", "length"] ["rules"] (defScope s_lengths_of) := ⟨rfl, rfl, rfl, by decide +kernel, rfl, by decide +kernel, by decide +kernel⟩
theorem ok_lengths_of {f : Addr} {fd : FuncData} (F : Fun K "lengths_of" "lengths_of" s_lengths_of f fd) (B : Blts mg) (C_keep_lesser : Cal P w K mg base cs "keep_lesser" 1 ["least", "name", "number"] [.io, .ro, .ro] sem_keep_lesser) (C_length_by : Cal P w K mg base cs "length_by" 2 ["rule", "lengths"] [.ro, .ro] sem_length_by) : FnOk P w K mg base CX0 3 f fd ["rules"] (spD K cs [.ro] sem_lengths_of) := by
  refine fn_ds F sc_lengths_of rfl fun cdv A outer s H E hr => ⟨g_lengths_of, ?_, co_lengths_of⟩
  exact (sd_cons (sd_setN (i := 1) sc_lengths_of.nd rfl (by first | exact .inl rfl | exact .inr rfl) e_dnew)
    (sd_cons (sd_set (i := 2) sc_lengths_of.nd rfl (by first | exact .inl rfl | exact .inr rfl) e_bool)
    (sd_cons (sd_while PassesOwn.never (et_val (e_nameW (pv 2))) (sd_cons (sd_set (i := 2) sc_lengths_of.nd rfl (by first | exact .inl rfl | exact .inr rfl) e_bool)
    (sd_one (sd_for PassesOwn.never rfl (i_list (e_nameP (pv 0))) (g_name (i := 3) sc_lengths_of.nd rfl (by first | exact .inl rfl | exact .inr rfl))
      (sd_cons (sd_set (i := 4) sc_lengths_of.nd rfl (by first | exact .inl rfl | exact .inr rfl) (c_callF C_length_by (by exact ⟨rfl, rfl, rfl, rfl, rfl⟩) (by decide) (by exact hr) (by decide) (by rfl) (ewa_cons (e_nameW (pv 3)) (ewa_cons (e_nameW (pv 1)) ewa_nil))))
    (sd_one (sd_ifX (xt_pw (xw_and (et_cmp od_isnt (e_nameW (pv 4)) (e_none).w (nomark _)) (xw_and1 (xt_val (x_call C_keep_lesser (by exact ⟨rfl, rfl, rfl, rfl, rfl⟩) (by exact hr) (by decide) (by rfl) (x_io (pv 1) (ep_cons (e_ix (e_nameW (pv 3)) (e_int).w (fun _ _ => rfl)) (ep_cons (e_nameP (pv 4)) ep_nil)) (by decide) 2 rfl))))))
      (sd_one (sd_set (i := 2) sc_lengths_of.nd rfl (by first | exact .inl rfl | exact .inr rfl) e_bool))
      sd_nil)))))) (fuelC (fun ρ => ((nmW 2) ρ).bind truD) (seqS (setS 2 (fun _ => some (.bool false)))
    (fun ρ => ((fun ρ => ((nmP 0) ρ).bind asL) ρ).bind fun ds => forS (toNm 3) (seqS (setS 4 (callF 2 sem_length_by (cons2 (nmW 3) (cons2 (nmW 1) (fun _ => some [])))))
    (ifX (andX (opT isntD (nmW 4) (fun _ => some .none)) (fun ρ => ((callX 3 1 sem_keep_lesser (fun ρ => (nmM 1 ρ).bind fun d => ((cons2 (op2 ixD (nmW 3) (fun _ => some (.int 0))) (cons2 (nmP 4) (fun _ => some []))) ρ).bind fun ds => if ds.length = 2 then some (d :: ds) else none)) ρ).bind fun r => (truD r.1).map fun k => (k, r.2)))
      (setS 2 (fun _ => some (.bool true)))
      (fun ρ => some (.nx ρ)))) ds ρ))))
    (sd_one (sd_retNm (pv 1))))))

/-! need_ends -/
abbrev s_need_ends : Stmt := topS 20
theorem sc_need_ends : FnScope ["rules", "lengths", "name"] ["rules"] (defScope s_need_ends) := ⟨rfl, rfl, rfl, by decide +kernel, rfl, by decide +kernel, by decide +kernel⟩
theorem ok_need_ends {f : Addr} {fd : FuncData} (F : Fun K "need_ends" "need_ends" s_need_ends f fd) (B : Blts mg) (C_names_of : Cal P w K mg base cs "names_of" 1 ["rules"] [.ro] sem_names_of) (C_lengths_of : Cal P w K mg base cs "lengths_of" 3 ["rules"] [.ro] sem_lengths_of) : FnOk P w K mg base CX0 4 f fd ["rules"] (spD K cs [.ro] sem_need_ends) := by
  refine fn_ds F sc_need_ends rfl fun cdv A outer s H E hr => ⟨g_need_ends, ?_, co_need_ends⟩
  exact (sd_cons (sd_set (i := 1) sc_need_ends.nd rfl (by first | exact .inl rfl | exact .inr rfl) (c_call C_lengths_of (by exact ⟨rfl, rfl, rfl, rfl, rfl⟩) (by decide) (by exact hr) (by decide) (by rfl) (ep_cons (e_nameP (pv 0)) ep_nil)))
    (sd_one (sd_for PassesOwn.never rfl (i_list (c_call C_names_of (by exact ⟨rfl, rfl, rfl, rfl, rfl⟩) (by decide) (by exact hr) (by decide) (by rfl) (ep_cons (e_nameP (pv 0)) ep_nil))) (g_name (i := 2) sc_need_ends.nd rfl (by first | exact .inl rfl | exact .inr rfl))
      (sd_one (sd_if (et_ninK (by exact hu65 hr) (e_nameW (pv 2)) (e_nameW (pv 1)) (by rfl))
      (sd_one sd_never)
      sd_nil)))))

/-! need_rules -/
abbrev s_need_rules : Stmt := topS 17
theorem sc_need_rules : FnScope ["rules"] ["rules"] (defScope s_need_rules) := ⟨rfl, rfl, rfl, by decide +kernel, rfl, by decide +kernel, by decide +kernel⟩
theorem ok_need_rules {f : Addr} {fd : FuncData} (F : Fun K "need_rules" "need_rules" s_need_rules f fd) (B : Blts mg) (C_need_ends : Cal P w K mg base cs "need_ends" 4 ["rules"] [.ro] sem_need_ends) (C_need_known_names : Cal P w K mg base cs "need_known_names" 2 ["rules"] [.ro] sem_need_known_names) (C_need_only_rules : Cal P w K mg base cs "need_only_rules" 5 ["rules"] [.ro] sem_need_only_rules) : FnOk P w K mg base CX0 6 f fd ["rules"] (spD K cs [.ro] sem_need_rules) := by
  refine fn_ds F sc_need_rules rfl fun cdv A outer s H E hr => ⟨g_need_rules, ?_, co_need_rules⟩
  exact (sd_cons (sd_expr (c_call C_need_only_rules (by exact ⟨rfl, rfl, rfl, rfl, rfl⟩) (by decide) (by exact hr) (by decide) (by rfl) (ep_cons (e_nameP (pv 0)) ep_nil)))
    (sd_cons (sd_expr (c_call C_need_known_names (by exact ⟨rfl, rfl, rfl, rfl, rfl⟩) (by decide) (by exact hr) (by decide) (by rfl) (ep_cons (e_nameP (pv 0)) ep_nil)))
    (sd_cons (sd_expr (c_call C_need_ends (by exact ⟨rfl, rfl, rfl, rfl, rfl⟩) (by decide) (by exact hr) (by decide) (by rfl) (ep_cons (e_nameP (pv 0)) ep_nil)))
    (sd_one (sd_retN (e_callTN cn_list (by rfl) B.b_list PyProof.Rows.boot_list (ewa_cons (e_nameW (pv 0)) ewa_nil)))))))

/-! need_text -/
abbrev s_need_text : Stmt := topS 21
theorem sc_need_text : FnScope ["text", "place", "sign"] ["text"] (defScope s_need_text) := ⟨rfl, rfl, rfl, by decide +kernel, rfl, by decide +kernel, by decide +kernel⟩
theorem ok_need_text {f : Addr} {fd : FuncData} (F : Fun K "need_text" "need_text" s_need_text f fd) (B : Blts mg) (C_is_sign : Cal P w K mg base cs "is_sign" 1 ["thing"] [.ro] sem_is_sign) : FnOk P w K mg base CX0 2 f fd ["text"] (spD K cs [.ro] sem_need_text) := by
  refine fn_ds F sc_need_text rfl fun cdv A outer s H E hr => ⟨g_need_text, ?_, co_need_text⟩
  exact (sd_cons (sd_if (et_not (et_val ((e_isi isi_str (by rfl) B.b_isinstance (e_nameW (pv 0)) (by rfl) B.b_str PyProof.Rows.boot_str)).w))
      (sd_one sd_never)
      sd_nil)
    (sd_cons (sd_if (et_cmp od_gt ((e_callB cd_len (by rfl) B.b_len PySem.boot_len (ewa_cons (e_nameW (pv 0)) ewa_nil))).w ((e_gint (by rfl) B.c_MOST_SIGNS)).w (nomark _))
      (sd_one sd_never)
      sd_nil)
    (sd_cons (sd_for PassesOwn.never rfl (i_enumS (by rfl) B.b_enumerate (ep_cons (e_nameP (pv 0)) ep_nil)) (g_tup rfl (gs_cons (g_name (i := 1) sc_need_text.nd rfl (by first | exact .inl rfl | exact .inr rfl)) (gs_cons (g_name (i := 2) sc_need_text.nd rfl (by first | exact .inl rfl | exact .inr rfl)) gs_nil)))
      (sd_one (sd_if (et_not (et_val ((c_call C_is_sign (by exact ⟨rfl, rfl, rfl, rfl, rfl⟩) (by decide) (by exact hr) (by decide) (by rfl) (ep_cons (e_nameP (pv 2)) ep_nil))).w))
      (sd_one sd_never)
      sd_nil)))
    (sd_one (sd_ret (e_nameP (pv 0)))))))

/-! top_of -/
abbrev s_top_of : Stmt := topS 23
theorem sc_top_of : FnScope ["rules"] ["rules"] (defScope s_top_of) := ⟨rfl, rfl, rfl, by decide +kernel, rfl, by decide +kernel, by decide +kernel⟩
theorem ok_top_of {f : Addr} {fd : FuncData} (F : Fun K "top_of" "top_of" s_top_of f fd) (B : Blts mg) : FnOk P w K mg base CX0 1 f fd ["rules"] (spD K cs [.ro] sem_top_of) := by
  refine fn_ds F sc_top_of rfl fun cdv A outer s H E hr => ⟨g_top_of, ?_, co_top_of⟩
  exact (sd_one (sd_ret (e_ix ((e_ix (e_nameW (pv 0)) (e_int).w (fun _ _ => rfl))).w (e_int).w (fun _ _ => rfl))))

/-! enter -/
abbrev s_enter : Stmt := topS 29
theorem sc_enter : FnScope ["table", "least", "begin", "end", "name", "cost"] ["table", "least", "begin", "end"] (defScope s_enter) := ⟨rfl, rfl, rfl, by decide +kernel, rfl, by decide +kernel, by decide +kernel⟩
theorem ok_enter {f : Addr} {fd : FuncData} (F : Fun K "enter" "enter" s_enter f fd) (B : Blts mg) : FnOk P w K mg base CX0 1 f fd ["table", "least", "begin", "end"] (spD K cs [.io, .ro, .ro, .ro] sem_enter) := by
  refine fn_ds F sc_enter rfl fun cdv A outer s H E hr => ⟨g_enter, ?_, co_enter⟩
  exact (sd_one (sd_items PassesOwn.never rfl (pv 1) (g_tup rfl (gs_cons (g_name (i := 4) sc_enter.nd rfl (by first | exact .inl rfl | exact .inr rfl)) (gs_cons (g_name (i := 5) sc_enter.nd rfl (by first | exact .inl rfl | exact .inr rfl)) gs_nil)))
      (sd_one (sd_putT (by exact hu65 hr) (pv 0) (e_keyT (ep_cons (e_nameP (pv 4)) (ep_cons (e_nameP (pv 2)) (ep_cons (e_nameP (pv 3)) ep_nil)))) (e_nameP (pv 5))))))

/-! leaf_cost -/
abbrev s_leaf_cost : Stmt := topS 32
theorem sc_leaf_cost : FnScope ["sign", "text", "begin", "end"] ["sign", "text", "begin", "end"] (defScope s_leaf_cost) := ⟨rfl, rfl, rfl, by decide +kernel, rfl, by decide +kernel, by decide +kernel⟩
theorem ok_leaf_cost {f : Addr} {fd : FuncData} (F : Fun K "leaf_cost" "leaf_cost" s_leaf_cost f fd) (B : Blts mg) : FnOk P w K mg base CX0 1 f fd ["sign", "text", "begin", "end"] (spD K cs [.ro, .ro, .ro, .ro] sem_leaf_cost) := by
  refine fn_ds F sc_leaf_cost rfl fun cdv A outer s H E hr => ⟨g_leaf_cost, ?_, co_leaf_cost⟩
  exact (sd_cons (sd_if (et_cmp (od_eq hr.units) (e_nameW (pv 2)) (e_nameW (pv 3)) (nomark _))
      (sd_one (sd_ret e_int))
      sd_nil)
    (sd_cons (sd_if (et_cmp (od_in (hu65 hr)) (e_nameW (pv 0)) ((e_slS (e_nameW (pv 1)) (eo_some (e_nameP (pv 2))) (eo_some (e_nameP (pv 3))))).w (by rfl))
      (sd_one (sd_ret (e_op od_sub ((e_op od_sub (e_nameW (pv 3)) (e_nameW (pv 2)))).w (e_int).w)))
      sd_nil)
    (sd_one (sd_ret (e_op od_sub (e_nameW (pv 3)) (e_nameW (pv 2)))))))

/-! inside_cost -/
abbrev s_inside_cost : Stmt := topS 31
theorem sc_inside_cost : FnScope ["rule", "text", "table", "begin", "end", "_", "one", "other", "place"] ["rule", "text", "table", "begin", "end"] (defScope s_inside_cost) := ⟨rfl, rfl, rfl, by decide +kernel, rfl, by decide +kernel, by decide +kernel⟩
theorem ok_inside_cost {f : Addr} {fd : FuncData} (F : Fun K "inside_cost" "inside_cost" s_inside_cost f fd) (B : Blts mg) (C_is_fork_rule : Cal P w K mg base cs "is_fork_rule" 1 ["rule"] [.ro] sem_is_fork_rule) (C_leaf_cost : Cal P w K mg base cs "leaf_cost" 1 ["sign", "text", "begin", "end"] [.ro, .ro, .ro, .ro] sem_leaf_cost) : FnOk P w K mg base CX0 2 f fd ["rule", "text", "table", "begin", "end"] (spD K cs [.ro, .ro, .ro, .ro, .ro] sem_inside_cost) := by
  refine fn_ds F sc_inside_cost rfl fun cdv A outer s H E hr => ⟨g_inside_cost, ?_, co_inside_cost⟩
  exact (sd_cons (sd_if (et_not (et_val ((c_call C_is_fork_rule (by exact ⟨rfl, rfl, rfl, rfl, rfl⟩) (by decide) (by exact hr) (by decide) (by rfl) (ep_cons (e_nameP (pv 0)) ep_nil))).w))
      (sd_one (sd_ret (c_call C_leaf_cost (by exact ⟨rfl, rfl, rfl, rfl, rfl⟩) (by decide) (by exact hr) (by decide) (by rfl) (ep_cons (e_ix (e_nameW (pv 0)) (e_int).w (fun _ _ => rfl)) (ep_cons (e_nameP (pv 1)) (ep_cons (e_nameP (pv 3)) (ep_cons (e_nameP (pv 4)) ep_nil)))))))
      sd_nil)
    (sd_cons (sd_asgT (e_nameP (pv 0)) (g_tup rfl (gs_cons (g_name (i := 5) sc_inside_cost.nd rfl (by first | exact .inl rfl | exact .inr rfl)) (gs_cons (g_name (i := 6) sc_inside_cost.nd rfl (by first | exact .inl rfl | exact .inr rfl)) (gs_cons (g_name (i := 7) sc_inside_cost.nd rfl (by first | exact .inl rfl | exact .inr rfl)) gs_nil)))))
    (sd_one (sd_ret (e_minD rfl (by exact hu65 hr) (by rfl) B.b_min ((e_lc rfl sc_inside_cost.nd (i := 8) rfl ((i_rng2 (by rfl) B.b_range (ep_cons (e_op od_add (e_nameW (pv 3)) (e_int).w) (ep_cons (e_nameP (pv 4)) ep_nil)))).comp (blkOk_by (by show blkC ["rule", "text", "table", "begin", "end", "_", "one", "other", "place"] (defScope s_inside_cost) _ _ = true; decide +kernel)) (fun _ _ _ _ _ => by rfl) (fun _ _ _ _ _ => ets_nil) (fun _ _ _ _ _ => (e_op od_add ((e_getT (by exact hu65 hr) (e_nameW (pv 2)) (e_keyT (ep_cons (e_nameP (pv 6)) (ep_cons (e_nameP (pv 3)) (ep_cons (e_nameP (pv 8)) ep_nil)))) (fun _ _ => rfl))).w ((e_getT (by exact hu65 hr) (e_nameW (pv 2)) (e_keyT (ep_cons (e_nameP (pv 7)) (ep_cons (e_nameP (pv 8)) (ep_cons (e_nameP (pv 4)) ep_nil)))) (fun _ _ => rfl))).w)))).w e_none)))))

/-! inside_costs -/
abbrev s_inside_costs : Stmt := topS 30
theorem sc_inside_costs : FnScope ["rules", "text", "table", "begin", "end", "least", "rule", "cost"] ["rules", "text", "table", "begin", "end"] (defScope s_inside_costs) := ⟨rfl, rfl, rfl, by decide +kernel, rfl, by decide +kernel, by decide +kernel⟩
theorem ok_inside_costs {f : Addr} {fd : FuncData} (F : Fun K "inside_costs" "inside_costs" s_inside_costs f fd) (B : Blts mg) (C_keep_lesser : Cal P w K mg base cs "keep_lesser" 1 ["least", "name", "number"] [.io, .ro, .ro] sem_keep_lesser) (C_inside_cost : Cal P w K mg base cs "inside_cost" 2 ["rule", "text", "table", "begin", "end"] [.ro, .ro, .ro, .ro, .ro] sem_inside_cost) : FnOk P w K mg base CX0 3 f fd ["rules", "text", "table", "begin", "end"] (spD K cs [.ro, .ro, .ro, .ro, .ro] sem_inside_costs) := by
  refine fn_ds F sc_inside_costs rfl fun cdv A outer s H E hr => ⟨g_inside_costs, ?_, co_inside_costs⟩
  exact (sd_cons (sd_setN (i := 5) sc_inside_costs.nd rfl (by first | exact .inl rfl | exact .inr rfl) e_dnew)
    (sd_cons (sd_for PassesOwn.never rfl (i_list (e_nameP (pv 0))) (g_name (i := 6) sc_inside_costs.nd rfl (by first | exact .inl rfl | exact .inr rfl))
      (sd_cons (sd_set (i := 7) sc_inside_costs.nd rfl (by first | exact .inl rfl | exact .inr rfl) (c_call C_inside_cost (by exact ⟨rfl, rfl, rfl, rfl, rfl⟩) (by decide) (by exact hr) (by decide) (by rfl) (ep_cons (e_nameP (pv 6)) (ep_cons (e_nameP (pv 1)) (ep_cons (e_nameP (pv 2)) (ep_cons (e_nameP (pv 3)) (ep_cons (e_nameP (pv 4)) ep_nil)))))))
    (sd_one (sd_if (et_cmp od_isnt (e_nameW (pv 7)) (e_none).w (nomark _))
      (sd_one (sd_exprX (x_call C_keep_lesser (by exact ⟨rfl, rfl, rfl, rfl, rfl⟩) (by exact hr) (by decide) (by rfl) (x_io (pv 5) (ep_cons (e_ix (e_nameW (pv 6)) (e_int).w (fun _ _ => rfl)) (ep_cons (e_nameP (pv 7)) ep_nil)) (by decide) 2 rfl))))
      sd_nil))))
    (sd_one (sd_retNm (pv 5)))))

/-! edge_cost -/
abbrev s_edge_cost : Stmt := topS 34
theorem sc_edge_cost : FnScope ["rule", "lengths", "least", "_", "one", "other", "found"] ["rule", "lengths", "least"] (defScope s_edge_cost) := ⟨rfl, rfl, rfl, by decide +kernel, rfl, by decide +kernel, by decide +kernel⟩
theorem ok_edge_cost {f : Addr} {fd : FuncData} (F : Fun K "edge_cost" "edge_cost" s_edge_cost f fd) (B : Blts mg) (C_is_fork_rule : Cal P w K mg base cs "is_fork_rule" 1 ["rule"] [.ro] sem_is_fork_rule) : FnOk P w K mg base CX0 2 f fd ["rule", "lengths", "least"] (spD K cs [.ro, .ro, .ro] sem_edge_cost) := by
  refine fn_ds F sc_edge_cost rfl fun cdv A outer s H E hr => ⟨g_edge_cost, ?_, co_edge_cost⟩
  exact (sd_cons (sd_if (et_not (et_val ((c_call C_is_fork_rule (by exact ⟨rfl, rfl, rfl, rfl, rfl⟩) (by decide) (by exact hr) (by decide) (by rfl) (ep_cons (e_nameP (pv 0)) ep_nil))).w))
      (sd_one (sd_ret e_none))
      sd_nil)
    (sd_cons (sd_asgT (e_nameP (pv 0)) (g_tup rfl (gs_cons (g_name (i := 3) sc_edge_cost.nd rfl (by first | exact .inl rfl | exact .inr rfl)) (gs_cons (g_name (i := 4) sc_edge_cost.nd rfl (by first | exact .inl rfl | exact .inr rfl)) (gs_cons (g_name (i := 5) sc_edge_cost.nd rfl (by first | exact .inl rfl | exact .inr rfl)) gs_nil)))))
    (sd_cons (sd_setN (i := 6) sc_edge_cost.nd rfl (by first | exact .inl rfl | exact .inr rfl) (e_lst ep_nil))
    (sd_cons (sd_if (et_inK (by exact hu65 hr) (e_nameW (pv 5)) (e_nameW (pv 2)) (by rfl))
      (sd_one (sd_app (pv 6) (e_op od_add ((e_getK (by exact hu65 hr) (e_nameW (pv 1)) (e_nameW (pv 4)) (fun _ _ => rfl))).w ((e_getK (by exact hu65 hr) (e_nameW (pv 2)) (e_nameW (pv 5)) (fun _ _ => rfl))).w)))
      sd_nil)
    (sd_cons (sd_if (et_inK (by exact hu65 hr) (e_nameW (pv 4)) (e_nameW (pv 2)) (by rfl))
      (sd_one (sd_app (pv 6) (e_op od_add ((e_getK (by exact hu65 hr) (e_nameW (pv 2)) (e_nameW (pv 4)) (fun _ _ => rfl))).w ((e_getK (by exact hu65 hr) (e_nameW (pv 1)) (e_nameW (pv 5)) (fun _ _ => rfl))).w)))
      sd_nil)
    (sd_one (sd_ret (e_minD rfl (by exact hu65 hr) (by rfl) B.b_min (e_nameW (pv 6)) e_none))))))))

/-! settle -/
abbrev s_settle : Stmt := topS 33
theorem sc_settle : FnScope ["rules", "lengths", "least", "lowered", "rule", "cost"] ["rules", "lengths", "least"] (defScope s_settle) := ⟨rfl, rfl, rfl, by decide +kernel, rfl, by decide +kernel, by decide +kernel⟩
theorem ok_settle {f : Addr} {fd : FuncData} (F : Fun K "settle" "settle" s_settle f fd) (B : Blts mg) (C_keep_lesser : Cal P w K mg base cs "keep_lesser" 1 ["least", "name", "number"] [.io, .ro, .ro] sem_keep_lesser) (C_edge_cost : Cal P w K mg base cs "edge_cost" 2 ["rule", "lengths", "least"] [.ro, .ro, .ro] sem_edge_cost) : FnOk P w K mg base CX0 3 f fd ["rules", "lengths", "least"] (spD K cs [.ro, .ro, .io] sem_settle) := by
  refine fn_ds F sc_settle rfl fun cdv A outer s H E hr => ⟨g_settle, ?_, co_settle⟩
  exact (sd_cons (sd_set (i := 3) sc_settle.nd rfl (by first | exact .inl rfl | exact .inr rfl) e_bool)
    (sd_one (sd_while PassesOwn.never (et_val (e_nameW (pv 3))) (sd_cons (sd_set (i := 3) sc_settle.nd rfl (by first | exact .inl rfl | exact .inr rfl) e_bool)
    (sd_one (sd_for PassesOwn.never rfl (i_list (e_nameP (pv 0))) (g_name (i := 4) sc_settle.nd rfl (by first | exact .inl rfl | exact .inr rfl))
      (sd_cons (sd_set (i := 5) sc_settle.nd rfl (by first | exact .inl rfl | exact .inr rfl) (c_callF C_edge_cost (by exact ⟨rfl, rfl, rfl, rfl, rfl⟩) (by decide) (by exact hr) (by decide) (by rfl) (ewa_cons (e_nameW (pv 4)) (ewa_cons (e_nameW (pv 1)) (ewa_cons (e_nameW (pv 2)) ewa_nil)))))
    (sd_one (sd_ifX (xt_pw (xw_and (et_cmp od_isnt (e_nameW (pv 5)) (e_none).w (nomark _)) (xw_and1 (xt_val (x_call C_keep_lesser (by exact ⟨rfl, rfl, rfl, rfl, rfl⟩) (by exact hr) (by decide) (by rfl) (x_io (pv 2) (ep_cons (e_ix (e_nameW (pv 4)) (e_int).w (fun _ _ => rfl)) (ep_cons (e_nameP (pv 5)) ep_nil)) (by decide) 2 rfl))))))
      (sd_one (sd_set (i := 3) sc_settle.nd rfl (by first | exact .inl rfl | exact .inr rfl) e_bool))
      sd_nil)))))) (fuelC (fun ρ => ((nmW 3) ρ).bind truD) (seqS (setS 3 (fun _ => some (.bool false)))
    (fun ρ => ((fun ρ => ((nmP 0) ρ).bind asL) ρ).bind fun ds => forS (toNm 4) (seqS (setS 5 (callF 3 sem_edge_cost (cons2 (nmW 4) (cons2 (nmW 1) (cons2 (nmW 2) (fun _ => some []))))))
    (ifX (andX (opT isntD (nmW 5) (fun _ => some .none)) (fun ρ => ((callX 3 2 sem_keep_lesser (fun ρ => (nmM 2 ρ).bind fun d => ((cons2 (op2 ixD (nmW 4) (fun _ => some (.int 0))) (cons2 (nmP 5) (fun _ => some []))) ρ).bind fun ds => if ds.length = 2 then some (d :: ds) else none)) ρ).bind fun r => (truD r.1).map fun k => (k, r.2)))
      (setS 3 (fun _ => some (.bool true)))
      (fun ρ => some (.nx ρ)))) ds ρ))))))

/-! costs -/
abbrev s_costs : Stmt := topS 28
theorem sc_costs : FnScope ["rules", "text", "lengths", "table", "place", "length", "begin", "end", "least"] ["rules", "text"] (defScope s_costs) := ⟨rfl, rfl, rfl, by decide +kernel, rfl, by decide +kernel, by decide +kernel⟩
theorem ok_costs {f : Addr} {fd : FuncData} (F : Fun K "costs" "costs" s_costs f fd) (B : Blts mg) (C_enter : Cal P w K mg base cs "enter" 1 ["table", "least", "begin", "end"] [.io, .ro, .ro, .ro] sem_enter) (C_settle : Cal P w K mg base cs "settle" 3 ["rules", "lengths", "least"] [.ro, .ro, .io] sem_settle) (C_inside_costs : Cal P w K mg base cs "inside_costs" 3 ["rules", "text", "table", "begin", "end"] [.ro, .ro, .ro, .ro, .ro] sem_inside_costs) (C_lengths_of : Cal P w K mg base cs "lengths_of" 3 ["rules"] [.ro] sem_lengths_of) (C_need_text : Cal P w K mg base cs "need_text" 2 ["text"] [.ro] sem_need_text) (C_need_rules : Cal P w K mg base cs "need_rules" 6 ["rules"] [.ro] sem_need_rules) : FnOk P w K mg base CX0 7 f fd ["rules", "text"] (spD K cs [.ro, .ro] sem_costs) := by
  refine fn_ds F sc_costs rfl fun cdv A outer s H E hr => ⟨g_costs, ?_, co_costs⟩
  exact (sd_cons (sd_expr (c_call C_need_rules (by exact ⟨rfl, rfl, rfl, rfl, rfl⟩) (by decide) (by exact hr) (by decide) (by rfl) (ep_cons (e_nameP (pv 0)) ep_nil)))
    (sd_cons (sd_expr (c_call C_need_text (by exact ⟨rfl, rfl, rfl, rfl, rfl⟩) (by decide) (by exact hr) (by decide) (by rfl) (ep_cons (e_nameP (pv 1)) ep_nil)))
    (sd_cons (sd_set (i := 2) sc_costs.nd rfl (by first | exact .inl rfl | exact .inr rfl) (c_call C_lengths_of (by exact ⟨rfl, rfl, rfl, rfl, rfl⟩) (by decide) (by exact hr) (by decide) (by rfl) (ep_cons (e_nameP (pv 0)) ep_nil)))
    (sd_cons (sd_setN (i := 3) sc_costs.nd rfl (by first | exact .inl rfl | exact .inr rfl) e_dnew)
    (sd_cons (sd_for PassesOwn.never rfl (i_rng1 (by rfl) B.b_range (ep_cons (e_op od_add ((e_callB cd_len (by rfl) B.b_len PySem.boot_len (ewa_cons (e_nameW (pv 1)) ewa_nil))).w (e_int).w) ep_nil)) (g_name (i := 4) sc_costs.nd rfl (by first | exact .inl rfl | exact .inr rfl))
      (sd_one (sd_exprX (x_call C_enter (by exact ⟨rfl, rfl, rfl, rfl, rfl⟩) (by exact hr) (by decide) (by rfl) (x_io (pv 3) (ep_cons (e_nameP (pv 2)) (ep_cons (e_nameP (pv 4)) (ep_cons (e_nameP (pv 4)) ep_nil))) (by decide) 3 rfl)))))
    (sd_cons (sd_for PassesOwn.never rfl (i_rng2 (by rfl) B.b_range (ep_cons e_int (ep_cons (e_op od_add ((e_callB cd_len (by rfl) B.b_len PySem.boot_len (ewa_cons (e_nameW (pv 1)) ewa_nil))).w (e_int).w) ep_nil))) (g_name (i := 5) sc_costs.nd rfl (by first | exact .inl rfl | exact .inr rfl))
      (sd_one (sd_for PassesOwn.never rfl (i_rng1 (by rfl) B.b_range (ep_cons (e_op od_add ((e_op od_sub ((e_callB cd_len (by rfl) B.b_len PySem.boot_len (ewa_cons (e_nameW (pv 1)) ewa_nil))).w (e_nameW (pv 5)))).w (e_int).w) ep_nil)) (g_name (i := 6) sc_costs.nd rfl (by first | exact .inl rfl | exact .inr rfl))
      (sd_cons (sd_set (i := 7) sc_costs.nd rfl (by first | exact .inl rfl | exact .inr rfl) (e_op od_add (e_nameW (pv 6)) (e_nameW (pv 5))))
    (sd_cons (sd_setN (i := 8) sc_costs.nd rfl (by first | exact .inl rfl | exact .inr rfl) (c_callG C_inside_costs (by exact ⟨rfl, rfl, rfl, rfl, rfl⟩) (by decide) (by exact hr) (by decide) (by rfl) (ewa_cons (e_nameW (pv 0)) (ewa_cons (e_nameW (pv 1)) (ewa_cons (e_nameW (pv 3)) (ewa_cons (e_nameW (pv 6)) (ewa_cons (e_nameW (pv 7)) ewa_nil)))))))
    (sd_cons (sd_exprX (x_call C_settle (by exact ⟨rfl, rfl, rfl, rfl, rfl⟩) (by exact hr) (by decide) (by rfl) (x_ro (e_nameP (pv 0)) (x_ro (e_nameP (pv 2)) (x_io (pv 8) ep_nil (by decide) 0 rfl)))))
    (sd_one (sd_share 8 (sd_exprX (x_call C_enter (by exact ⟨rfl, rfl, rfl, rfl, rfl⟩) (by exact hr) (by decide) (by rfl) (x_io (pv 3) (ep_cons (e_nameP (pv 8)) (ep_cons (e_nameP (pv 6)) (ep_cons (e_nameP (pv 7)) ep_nil))) (by decide) 3 rfl)))))))))))
    (sd_one (sd_retNm (pv 3)))))))))

/-! is_fork -/
abbrev s_is_fork : Stmt := topS 36
theorem sc_is_fork : FnScope ["tree"] ["tree"] (defScope s_is_fork) := ⟨rfl, rfl, rfl, by decide +kernel, rfl, by decide +kernel, by decide +kernel⟩
theorem ok_is_fork {f : Addr} {fd : FuncData} (F : Fun K "is_fork" "is_fork" s_is_fork f fd) (B : Blts mg) : FnOk P w K mg base CX0 1 f fd ["tree"] (spD K cs [.ro] sem_is_fork) := by
  refine fn_ds F sc_is_fork rfl fun cdv A outer s H E hr => ⟨g_is_fork, ?_, co_is_fork⟩
  exact (sd_one (sd_ret (e_cmp (od_eq hr.units) ((e_callB cd_len (by rfl) B.b_len PySem.boot_len (ewa_cons (e_nameW (pv 0)) ewa_nil))).w (e_int).w (nomark _))))

/-! fork_by -/
abbrev s_fork_by : Stmt := topS 43
theorem sc_fork_by : FnScope ["rule", "table", "begin", "end", "cost", "name", "one", "other", "place", "first", "second"] ["rule", "table", "begin", "end", "cost"] (defScope s_fork_by) := ⟨rfl, rfl, rfl, by decide +kernel, rfl, by decide +kernel, by decide +kernel⟩
theorem ok_fork_by {f : Addr} {fd : FuncData} (F : Fun K "fork_by" "fork_by" s_fork_by f fd) (B : Blts mg) : FnOk P w K mg base CX0 1 f fd ["rule", "table", "begin", "end", "cost"] (spD K cs [.ro, .ro, .ro, .ro, .ro] sem_fork_by) := by
  refine fn_ds F sc_fork_by rfl fun cdv A outer s H E hr => ⟨g_fork_by, ?_, co_fork_by⟩
  exact (sd_cons (sd_asgT (e_nameP (pv 0)) (g_tup rfl (gs_cons (g_name (i := 5) sc_fork_by.nd rfl (by first | exact .inl rfl | exact .inr rfl)) (gs_cons (g_name (i := 6) sc_fork_by.nd rfl (by first | exact .inl rfl | exact .inr rfl)) (gs_cons (g_name (i := 7) sc_fork_by.nd rfl (by first | exact .inl rfl | exact .inr rfl)) gs_nil)))))
    (sd_cons (sd_for PassesOwn.never rfl (i_rng2 (by rfl) B.b_range (ep_cons (e_nameP (pv 2)) (ep_cons (e_op od_add (e_nameW (pv 3)) (e_int).w) ep_nil))) (g_name (i := 8) sc_fork_by.nd rfl (by first | exact .inl rfl | exact .inr rfl))
      (sd_cons (sd_set (i := 9) sc_fork_by.nd rfl (by first | exact .inl rfl | exact .inr rfl) (e_tup (ep_cons (e_nameP (pv 6)) (ep_cons (e_nameP (pv 2)) (ep_cons (e_nameP (pv 8)) ep_nil)))))
    (sd_cons (sd_set (i := 10) sc_fork_by.nd rfl (by first | exact .inl rfl | exact .inr rfl) (e_tup (ep_cons (e_nameP (pv 7)) (ep_cons (e_nameP (pv 8)) (ep_cons (e_nameP (pv 3)) ep_nil)))))
    (sd_one (sd_if (et_cmp (od_eq hr.units) ((e_op od_add ((e_getT (by exact hu65 hr) (e_nameW (pv 1)) (e_keyW (e_nameP (pv 9))) (fun _ _ => rfl))).w ((e_getT (by exact hu65 hr) (e_nameW (pv 1)) (e_keyW (e_nameP (pv 10))) (fun _ _ => rfl))).w)).w (e_nameW (pv 4)) (nomark _))
      (sd_one (sd_ret (e_tup (ep_cons (e_nameP (pv 5)) (ep_cons (e_nameP (pv 9)) (ep_cons (e_nameP (pv 10)) ep_nil))))))
      sd_nil)))))
    (sd_one (sd_ret e_none))))

/-! kept_place -/
abbrev s_kept_place : Stmt := topS 44
theorem sc_kept_place : FnScope ["sign", "text", "begin", "end", "found"] ["sign", "text", "begin", "end"] (defScope s_kept_place) := ⟨rfl, rfl, rfl, by decide +kernel, rfl, by decide +kernel, by decide +kernel⟩
theorem ok_kept_place {f : Addr} {fd : FuncData} (F : Fun K "kept_place" "kept_place" s_kept_place f fd) (B : Blts mg) : FnOk P w K mg base CX0 1 f fd ["sign", "text", "begin", "end"] (spD K cs [.ro, .ro, .ro, .ro] sem_kept_place) := by
  refine fn_ds F sc_kept_place rfl fun cdv A outer s H E hr => ⟨g_kept_place, ?_, co_kept_place⟩
  exact (sd_cons (sd_if (et_cmp (od_eq hr.units) (e_nameW (pv 2)) (e_nameW (pv 3)) (nomark _))
      (sd_one (sd_ret e_none))
      sd_nil)
    (sd_cons (sd_set (i := 4) sc_kept_place.nd rfl (by first | exact .inl rfl | exact .inr rfl) (e_find ((e_slS (e_nameW (pv 1)) (eo_some (e_nameP (pv 2))) (eo_some (e_nameP (pv 3))))).w (e_nameW (pv 0))))
    (sd_one (sd_ret (e_op od_add (e_nameW (pv 2)) ((e_callB (cd_max2 rfl) (by rfl) B.b_max PyProof.Rows.boot_max (ewa_cons (e_nameW (pv 4)) (ewa_cons (e_int).w ewa_nil)))).w)))))

/-! step_by -/
abbrev s_step_by : Stmt := topS 42
theorem sc_step_by : FnScope ["rule", "text", "table", "begin", "end", "cost", "name", "sign"] ["rule", "text", "table", "begin", "end"] (defScope s_step_by) := ⟨rfl, rfl, rfl, by decide +kernel, rfl, by decide +kernel, by decide +kernel⟩
theorem ok_step_by {f : Addr} {fd : FuncData} (F : Fun K "step_by" "step_by" s_step_by f fd) (B : Blts mg) (C_kept_place : Cal P w K mg base cs "kept_place" 1 ["sign", "text", "begin", "end"] [.ro, .ro, .ro, .ro] sem_kept_place) (C_leaf_cost : Cal P w K mg base cs "leaf_cost" 1 ["sign", "text", "begin", "end"] [.ro, .ro, .ro, .ro] sem_leaf_cost) (C_is_fork_rule : Cal P w K mg base cs "is_fork_rule" 1 ["rule"] [.ro] sem_is_fork_rule) (C_fork_by : Cal P w K mg base cs "fork_by" 1 ["rule", "table", "begin", "end", "cost"] [.ro, .ro, .ro, .ro, .ro] sem_fork_by) : FnOk P w K mg base CX0 2 f fd ["rule", "text", "table", "begin", "end"] (spD K cs [.ro, .ro, .ro, .ro, .ro] sem_step_by) := by
  refine fn_ds F sc_step_by rfl fun cdv A outer s H E hr => ⟨g_step_by, ?_, co_step_by⟩
  exact (sd_cons (sd_set (i := 5) sc_step_by.nd rfl (by first | exact .inl rfl | exact .inr rfl) (e_getT (by exact hu65 hr) (e_nameW (pv 2)) (e_keyT (ep_cons (e_ix (e_nameW (pv 0)) (e_int).w (fun _ _ => rfl)) (ep_cons (e_nameP (pv 3)) (ep_cons (e_nameP (pv 4)) ep_nil)))) (fun _ _ => rfl)))
    (sd_cons (sd_if (et_val ((c_call C_is_fork_rule (by exact ⟨rfl, rfl, rfl, rfl, rfl⟩) (by decide) (by exact hr) (by decide) (by rfl) (ep_cons (e_nameP (pv 0)) ep_nil))).w)
      (sd_one (sd_ret (c_call C_fork_by (by exact ⟨rfl, rfl, rfl, rfl, rfl⟩) (by decide) (by exact hr) (by decide) (by rfl) (ep_cons (e_nameP (pv 0)) (ep_cons (e_nameP (pv 2)) (ep_cons (e_nameP (pv 3)) (ep_cons (e_nameP (pv 4)) (ep_cons (e_nameP (pv 5)) ep_nil))))))))
      sd_nil)
    (sd_cons (sd_asgT (e_nameP (pv 0)) (g_tup rfl (gs_cons (g_name (i := 6) sc_step_by.nd rfl (by first | exact .inl rfl | exact .inr rfl)) (gs_cons (g_name (i := 7) sc_step_by.nd rfl (by first | exact .inl rfl | exact .inr rfl)) gs_nil))))
    (sd_cons (sd_if (et_cmp (od_ne hr.units) ((c_call C_leaf_cost (by exact ⟨rfl, rfl, rfl, rfl, rfl⟩) (by decide) (by exact hr) (by decide) (by rfl) (ep_cons (e_nameP (pv 7)) (ep_cons (e_nameP (pv 1)) (ep_cons (e_nameP (pv 3)) (ep_cons (e_nameP (pv 4)) ep_nil)))))).w (e_nameW (pv 5)) (nomark _))
      (sd_one (sd_ret e_none))
      sd_nil)
    (sd_one (sd_ret (e_tup (ep_cons (e_nameP (pv 6)) (ep_cons (e_nameP (pv 7)) (ep_cons (e_nameP (pv 3)) (ep_cons (e_nameP (pv 4)) (ep_cons (c_call C_kept_place (by exact ⟨rfl, rfl, rfl, rfl, rfl⟩) (by decide) (by exact hr) (by decide) (by rfl) (ep_cons (e_nameP (pv 7)) (ep_cons (e_nameP (pv 1)) (ep_cons (e_nameP (pv 3)) (ep_cons (e_nameP (pv 4)) ep_nil))))) ep_nil))))))))))))

/-! told_step -/
abbrev s_told_step : Stmt := topS 41
theorem sc_told_step : FnScope ["rules", "text", "table", "key", "name", "begin", "end", "rule", "step"] ["rules", "text", "table", "key"] (defScope s_told_step) := ⟨rfl, rfl, rfl, by decide +kernel, rfl, by decide +kernel, by decide +kernel⟩
theorem ok_told_step {f : Addr} {fd : FuncData} (F : Fun K "told_step" "told_step" s_told_step f fd) (B : Blts mg) (C_step_by : Cal P w K mg base cs "step_by" 2 ["rule", "text", "table", "begin", "end"] [.ro, .ro, .ro, .ro, .ro] sem_step_by) : FnOk P w K mg base CX0 3 f fd ["rules", "text", "table", "key"] (spD K cs [.ro, .ro, .ro, .ro] sem_told_step) := by
  refine fn_ds F sc_told_step rfl fun cdv A outer s H E hr => ⟨g_told_step, ?_, co_told_step⟩
  exact (sd_cons (sd_asgT (e_nameP (pv 3)) (g_tup rfl (gs_cons (g_name (i := 4) sc_told_step.nd rfl (by first | exact .inl rfl | exact .inr rfl)) (gs_cons (g_name (i := 5) sc_told_step.nd rfl (by first | exact .inl rfl | exact .inr rfl)) (gs_cons (g_name (i := 6) sc_told_step.nd rfl (by first | exact .inl rfl | exact .inr rfl)) gs_nil)))))
    (sd_cons (sd_for PassesOwn.never rfl (i_list (e_nameP (pv 0))) (g_name (i := 7) sc_told_step.nd rfl (by first | exact .inl rfl | exact .inr rfl))
      (sd_one (sd_if (et_cmp (od_eq hr.units) ((e_ix (e_nameW (pv 7)) (e_int).w (fun _ _ => rfl))).w (e_nameW (pv 4)) (nomark _))
      (sd_cons (sd_set (i := 8) sc_told_step.nd rfl (by first | exact .inl rfl | exact .inr rfl) (c_call C_step_by (by exact ⟨rfl, rfl, rfl, rfl, rfl⟩) (by decide) (by exact hr) (by decide) (by rfl) (ep_cons (e_nameP (pv 7)) (ep_cons (e_nameP (pv 1)) (ep_cons (e_nameP (pv 2)) (ep_cons (e_nameP (pv 5)) (ep_cons (e_nameP (pv 6)) ep_nil)))))))
    (sd_one (sd_if (et_cmp od_isnt (e_nameW (pv 8)) (e_none).w (nomark _))
      (sd_one (sd_ret (e_nameP (pv 8))))
      sd_nil)))
      sd_nil)))
    (sd_one (sd_ret e_none))))

/-! told_steps -/
abbrev s_told_steps : Stmt := topS 40
theorem sc_told_steps : FnScope ["rules", "text", "table", "top", "steps", "waiting", "key", "step"] ["rules", "text", "table", "top"] (defScope s_told_steps) := ⟨rfl, rfl, rfl, by decide +kernel, rfl, by decide +kernel, by decide +kernel⟩
theorem ok_told_steps {f : Addr} {fd : FuncData} (F : Fun K "told_steps" "told_steps" s_told_steps f fd) (B : Blts mg) (C_is_fork : Cal P w K mg base cs "is_fork" 1 ["tree"] [.ro] sem_is_fork) (C_told_step : Cal P w K mg base cs "told_step" 3 ["rules", "text", "table", "key"] [.ro, .ro, .ro, .ro] sem_told_step) : FnOk P w K mg base CX0 4 f fd ["rules", "text", "table", "top"] (spD K cs [.ro, .ro, .ro, .ro] sem_told_steps) := by
  refine fn_ds F sc_told_steps rfl fun cdv A outer s H E hr => ⟨g_told_steps, ?_, co_told_steps⟩
  exact (sd_cons (sd_setN (i := 4) sc_told_steps.nd rfl (by first | exact .inl rfl | exact .inr rfl) e_dnew)
    (sd_cons (sd_setN (i := 5) sc_told_steps.nd rfl (by first | exact .inl rfl | exact .inr rfl) (e_lst (ep_cons (e_nameP (pv 3)) ep_nil)))
    (sd_cons (sd_while PassesOwn.never (et_val (e_nameW (pv 5))) (sd_cons (sd_setX (i := 6) sc_told_steps.nd rfl (by first | exact .inl rfl | exact .inr rfl) (x_pop (pv 5)))
    (sd_one (sd_if (et_ninT (by exact hu65 hr) (e_keyW (e_nameP (pv 6))) (pv 4))
      (sd_cons (sd_set (i := 7) sc_told_steps.nd rfl (by first | exact .inl rfl | exact .inr rfl) (c_call C_told_step (by exact ⟨rfl, rfl, rfl, rfl, rfl⟩) (by decide) (by exact hr) (by decide) (by rfl) (ep_cons (e_nameP (pv 0)) (ep_cons (e_nameP (pv 1)) (ep_cons (e_nameP (pv 2)) (ep_cons (e_nameP (pv 6)) ep_nil))))))
    (sd_cons (sd_putT (by exact hu65 hr) (pv 4) (e_keyW (e_nameP (pv 6))) (e_nameP (pv 7)))
    (sd_one (sd_if (et_val ((c_call C_is_fork (by exact ⟨rfl, rfl, rfl, rfl, rfl⟩) (by decide) (by exact hr) (by decide) (by rfl) (ep_cons (e_nameP (pv 7)) ep_nil))).w)
      (sd_one (sd_ext (pv 5) (e_lst (ep_cons (e_ix (e_nameW (pv 7)) (e_int).w (fun _ _ => rfl)) (ep_cons (e_ix (e_nameW (pv 7)) (e_int).w (fun _ _ => rfl)) ep_nil)))))
      sd_nil))))
      sd_nil))) (fuelC (fun ρ => ((nmW 5) ρ).bind truD) (seqS (setX 6 (popX 5))
    (ifS (fun ρ => (inTS 4 (fun ρ => ((nmP 6) ρ).bind tupK) ρ).map (! ·))
      (seqS (setS 7 (callS 4 sem_told_step (cons2 (nmP 0) (cons2 (nmP 1) (cons2 (nmP 2) (cons2 (nmP 6) (fun _ => some [])))))))
    (seqS (putTS 4 (fun ρ => ((nmP 6) ρ).bind tupK) (nmP 7))
    (ifS (fun ρ => ((callS 1 sem_is_fork (cons2 (nmP 7) (fun _ => some []))) ρ).bind truD)
      (extS 5 (mkL (cons2 (op2 ixD (nmW 7) (fun _ => some (.int 1))) (cons2 (op2 ixD (nmW 7) (fun _ => some (.int 2))) (fun _ => some [])))))
      (fun ρ => some (.nx ρ)))))
      (fun ρ => some (.nx ρ))))))
    (sd_one (sd_retNm (pv 4))))))

/-! told_tree -/
abbrev s_told_tree : Stmt := topS 39
theorem sc_told_tree : FnScope ["rules", "text", "table", "top", "steps", "trees", "key", "step", "name", "one", "other"] ["rules", "text", "table", "top"] (defScope s_told_tree) := ⟨rfl, rfl, rfl, by decide +kernel, rfl, by decide +kernel, by decide +kernel⟩
theorem ok_told_tree {f c T : Addr} {fd : FuncData} (F : FunC K "told_tree" "told_tree" s_told_tree f fd c) (TB : LamX.TabB base mg c T) (hP : ((T, some ("told_tree.<locals>.<lambda>" : Str)) : Tb) ∈ cs) (hU : ∀ t ∈ cs, t.1 = T → t.2 = some ("told_tree.<locals>.<lambda>" : Str)) (B : Blts mg) (C_is_fork : Cal P w K mg base cs "is_fork" 1 ["tree"] [.ro] sem_is_fork) (C_told_steps : Cal P w K mg base cs "told_steps" 4 ["rules", "text", "table", "top"] [.ro, .ro, .ro, .ro] sem_told_steps) : FnOk P w K mg base CX0 6 f fd ["rules", "text", "table", "top"] (spD K cs [.ro, .ro, .ro, .ro] sem_told_tree) := by
  refine fn_dsC F sc_told_tree rfl fun A outer s H E hr => ⟨g_told_tree, ?_, co_told_tree⟩
  exact (sd_cons (sd_set (i := 4) sc_told_tree.nd rfl (by first | exact .inl rfl | exact .inr rfl) (c_call C_told_steps (by exact ⟨rfl, rfl, rfl, rfl, rfl⟩) (by decide) (by exact hr) (by decide) (by rfl) (ep_cons (e_nameP (pv 0)) (ep_cons (e_nameP (pv 1)) (ep_cons (e_nameP (pv 2)) (ep_cons (e_nameP (pv 3)) ep_nil))))))
    (sd_cons (sd_setN (i := 5) sc_told_tree.nd rfl (by first | exact .inl rfl | exact .inr rfl) e_dnew)
    (sd_cons (sd_for PassesOwn.never rfl (i_list ((e_sortLam (j := 2) (by exact hr) rfl (by rfl) B.b_sorted (by exact TB) rfl (by rfl) hP hU (e_nameW (pv 4)) rfl (by rfl))).p) (g_name (i := 6) sc_told_tree.nd rfl (by first | exact .inl rfl | exact .inr rfl))
      (sd_cons (sd_set (i := 7) sc_told_tree.nd rfl (by first | exact .inl rfl | exact .inr rfl) (e_getT (by exact hu65 hr) (e_nameW (pv 4)) (e_keyW (e_nameP (pv 6))) (fun _ _ => rfl)))
    (sd_one (sd_if (et_val ((c_call C_is_fork (by exact ⟨rfl, rfl, rfl, rfl, rfl⟩) (by decide) (by exact hr) (by decide) (by rfl) (ep_cons (e_nameP (pv 7)) ep_nil))).w)
      (sd_cons (sd_asgT (e_nameP (pv 7)) (g_tup rfl (gs_cons (g_name (i := 8) sc_told_tree.nd rfl (by first | exact .inl rfl | exact .inr rfl)) (gs_cons (g_name (i := 9) sc_told_tree.nd rfl (by first | exact .inl rfl | exact .inr rfl)) (gs_cons (g_name (i := 10) sc_told_tree.nd rfl (by first | exact .inl rfl | exact .inr rfl)) gs_nil)))))
    (sd_one (sd_putT (by exact hu65 hr) (pv 5) (e_keyW (e_nameP (pv 6))) (e_tup (ep_cons (e_nameP (pv 8)) (ep_cons (e_getT (by exact hu65 hr) (e_nameW (pv 5)) (e_keyW (e_nameP (pv 9))) (fun _ _ => rfl)) (ep_cons (e_getT (by exact hu65 hr) (e_nameW (pv 5)) (e_keyW (e_nameP (pv 10))) (fun _ _ => rfl)) ep_nil)))))))
      (sd_one (sd_putT (by exact hu65 hr) (pv 5) (e_keyW (e_nameP (pv 6))) (e_nameP (pv 7))))))))
    (sd_one (sd_ret (e_getT (by exact hu65 hr) (e_nameW (pv 5)) (e_keyW (e_nameP (pv 3))) (fun _ _ => rfl)))))))

/-! mend -/
abbrev s_mend : Stmt := topS 38
theorem sc_mend : FnScope ["rules", "text", "table", "top"] ["rules", "text"] (defScope s_mend) := ⟨rfl, rfl, rfl, by decide +kernel, rfl, by decide +kernel, by decide +kernel⟩
theorem ok_mend {f : Addr} {fd : FuncData} (F : Fun K "mend" "mend" s_mend f fd) (B : Blts mg) (C_told_tree : Cal P w K mg base cs "told_tree" 6 ["rules", "text", "table", "top"] [.ro, .ro, .ro, .ro] sem_told_tree) (C_top_of : Cal P w K mg base cs "top_of" 1 ["rules"] [.ro] sem_top_of) (C_costs : Cal P w K mg base cs "costs" 7 ["rules", "text"] [.ro, .ro] sem_costs) : FnOk P w K mg base CX0 8 f fd ["rules", "text"] (spD K cs [.ro, .ro] sem_mend) := by
  refine fn_ds F sc_mend rfl fun cdv A outer s H E hr => ⟨g_mend, ?_, co_mend⟩
  exact (sd_cons (sd_set (i := 2) sc_mend.nd rfl (by first | exact .inl rfl | exact .inr rfl) (c_call C_costs (by exact ⟨rfl, rfl, rfl, rfl, rfl⟩) (by decide) (by exact hr) (by decide) (by rfl) (ep_cons (e_nameP (pv 0)) (ep_cons (e_nameP (pv 1)) ep_nil))))
    (sd_cons (sd_set (i := 3) sc_mend.nd rfl (by first | exact .inl rfl | exact .inr rfl) (e_tup (ep_cons (c_call C_top_of (by exact ⟨rfl, rfl, rfl, rfl, rfl⟩) (by decide) (by exact hr) (by decide) (by rfl) (ep_cons (e_nameP (pv 0)) ep_nil)) (ep_cons e_int (ep_cons (e_callB cd_len (by rfl) B.b_len PySem.boot_len (ewa_cons (e_nameW (pv 1)) ewa_nil)) ep_nil)))))
    (sd_one (sd_ret (e_tup (ep_cons (c_call C_told_tree (by exact ⟨rfl, rfl, rfl, rfl, rfl⟩) (by decide) (by exact hr) (by decide) (by rfl) (ep_cons (e_nameP (pv 0)) (ep_cons (e_nameP (pv 1)) (ep_cons (e_nameP (pv 2)) (ep_cons (e_nameP (pv 3)) ep_nil))))) (ep_cons (e_getT (by exact hu65 hr) (e_nameW (pv 2)) (e_keyW (e_nameP (pv 3))) (fun _ _ => rfl)) ep_nil)))))))

/-! _law_at -/
abbrev s__law_at : Stmt := topS 46
theorem sc__law_at : FnScope ["_law_script", "_law_place"] ["_law_script", "_law_place"] (defScope s__law_at) := ⟨rfl, rfl, rfl, by decide +kernel, rfl, by decide +kernel, by decide +kernel⟩
theorem ok__law_at {f : Addr} {fd : FuncData} (F : Fun K "_law_at" "_law_at" s__law_at f fd) (B : Blts mg) : FnOk P w K mg base CX0 1 f fd ["_law_script", "_law_place"] (spD K cs [.ro, .ro] sem__law_at) := by
  refine fn_ds F sc__law_at rfl fun cdv A outer s H E hr => ⟨g__law_at, ?_, co__law_at⟩
  exact (sd_cons (sd_if (et_cmp od_ge (e_nameW (pv 1)) ((e_callB cd_len (by rfl) B.b_len PySem.boot_len (ewa_cons (e_nameW (pv 0)) ewa_nil))).w (nomark _))
      (sd_one (sd_ret e_int))
      sd_nil)
    (sd_one (sd_ret (e_ix (e_nameW (pv 0)) (e_nameW (pv 1)) (fun _ _ => rfl)))))

/-! _law_word -/
abbrev s__law_word : Stmt := topS 47
theorem sc__law_word : FnScope ["_law_cell", "_law_k", "_law_letters", "_law_size", "_law_at_here", "_law_word_here", "_law_j", "_law_letter"] ["_law_cell", "_law_k"] (defScope s__law_word) := ⟨rfl, rfl, rfl, by decide +kernel, rfl, by decide +kernel, by decide +kernel⟩
theorem ok__law_word {f : Addr} {fd : FuncData} (F : Fun K "_law_word" "_law_word" s__law_word f fd) (B : Blts mg) : FnOk P w K mg base CX0 1 f fd ["_law_cell", "_law_k"] (spD K cs [.ro, .ro] sem__law_word) := by
  refine fn_ds F sc__law_word rfl fun cdv A outer s H E hr => ⟨g__law_word, ?_, co__law_word⟩
  exact (sd_cons (sd_set (i := 2) sc__law_word.nd rfl (by first | exact .inl rfl | exact .inr rfl) e_str)
    (sd_cons (sd_set (i := 3) sc__law_word.nd rfl (by first | exact .inl rfl | exact .inr rfl) (e_op od_add (e_int).w ((e_op od_mod ((e_op od_fdiv (e_nameW (pv 0)) (e_int).w)).w (e_int).w)).w))
    (sd_cons (sd_set (i := 4) sc__law_word.nd rfl (by first | exact .inl rfl | exact .inr rfl) (e_op od_mod ((e_op od_fdiv (e_nameW (pv 0)) (e_int).w)).w (e_nameW (pv 3))))
    (sd_cons (sd_set (i := 5) sc__law_word.nd rfl (by first | exact .inl rfl | exact .inr rfl) (e_join (e_str).w ((e_lc rfl sc__law_word.nd (i := 6) rfl ((i_rng1 (by rfl) B.b_range (ep_cons (e_nameP (pv 3)) ep_nil))).comp (blkOk_by (by show blkC ["_law_cell", "_law_k", "_law_letters", "_law_size", "_law_at_here", "_law_word_here", "_law_j", "_law_letter"] (defScope s__law_word) _ _ = true; decide +kernel)) (fun _ _ _ _ _ => by rfl) (fun _ _ _ _ _ => ets_nil) (fun _ _ _ _ _ => (e_ix (e_nameW (pv 2)) ((e_op od_mod ((e_op od_add (e_nameW (pv 0)) ((e_op od_mul (e_int).w (e_nameW (pv 6)))).w)).w (e_int).w)).w (fun _ _ => rfl))))).w))
    (sd_cons (sd_set (i := 7) sc__law_word.nd rfl (by first | exact .inl rfl | exact .inr rfl) (e_ix (e_nameW (pv 2)) ((e_op od_mod ((e_op od_add (e_nameW (pv 0)) ((e_op od_mul (e_int).w (e_nameW (pv 1)))).w)).w (e_int).w)).w (fun _ _ => rfl)))
    (sd_one (sd_ret (e_op od_add ((e_op od_add ((e_slS (e_nameW (pv 5)) eo_none (eo_some (e_nameP (pv 4))))).w (e_nameW (pv 7)))).w ((e_slS (e_nameW (pv 5)) (eo_some (e_op od_add (e_nameW (pv 4)) (e_int).w)) eo_none)).w))))))))

/-! _law_sign -/
abbrev s__law_sign : Stmt := topS 48
theorem sc__law_sign : FnScope ["_law_cell", "_law_k", "_law_great", "_law_signs"] ["_law_cell", "_law_k"] (defScope s__law_sign) := ⟨rfl, rfl, rfl, by decide +kernel, rfl, by decide +kernel, by decide +kernel⟩
theorem ok__law_sign {f : Addr} {fd : FuncData} (F : Fun K "_law_sign" "_law_sign" s__law_sign f fd) (B : Blts mg) : FnOk P w K mg base CX0 1 f fd ["_law_cell", "_law_k"] (spD K cs [.ro, .ro] sem__law_sign) := by
  refine fn_ds F sc__law_sign rfl fun cdv A outer s H E hr => ⟨g__law_sign, ?_, co__law_sign⟩
  exact (sd_cons (sd_set (i := 2) sc__law_sign.nd rfl (by first | exact .inl rfl | exact .inr rfl) e_str)
    (sd_cons (sd_set (i := 3) sc__law_sign.nd rfl (by first | exact .inl rfl | exact .inr rfl) (e_op od_add ((e_op od_add ((e_op od_add ((e_op od_add (e_str).w (e_nameW (pv 2)))).w (e_str).w)).w ((e_lower (e_nameW (pv 2)))).w)).w (e_str).w))
    (sd_one (sd_ret (e_ix (e_nameW (pv 3)) ((e_op od_mod ((e_op od_add (e_nameW (pv 0)) ((e_op od_mul (e_int).w (e_nameW (pv 1)))).w)).w (e_int).w)).w (fun _ _ => rfl))))))

/-! _law_rules -/
abbrev s__law_rules : Stmt := topS 49
theorem sc__law_rules : FnScope ["_law_script", "_law_base", "_law_count", "_law_name", "_law_rules_here", "_law_names", "_law_k", "_law_cell", "_law_one", "_law_other"] ["_law_script", "_law_base"] (defScope s__law_rules) := ⟨rfl, rfl, rfl, by decide +kernel, rfl, by decide +kernel, by decide +kernel⟩
theorem ok__law_rules {f : Addr} {fd : FuncData} (F : Fun K "_law_rules" "_law_rules" s__law_rules f fd) (B : Blts mg) (C__law_at : Cal P w K mg base cs "_law_at" 1 ["_law_script", "_law_place"] [.ro, .ro] sem__law_at) (C__law_sign : Cal P w K mg base cs "_law_sign" 1 ["_law_cell", "_law_k"] [.ro, .ro] sem__law_sign) (C__law_word : Cal P w K mg base cs "_law_word" 1 ["_law_cell", "_law_k"] [.ro, .ro] sem__law_word) : FnOk P w K mg base CX0 2 f fd ["_law_script", "_law_base"] (spD K cs [.ro, .ro] sem__law_rules) := by
  refine fn_ds F sc__law_rules rfl fun cdv A outer s H E hr => ⟨g__law_rules, ?_, co__law_rules⟩
  exact (sd_cons (sd_set (i := 2) sc__law_rules.nd rfl (by first | exact .inl rfl | exact .inr rfl) (e_op od_add (e_int).w ((e_op od_mod (e_nameW (pv 1)) (e_int).w)).w))
    (sd_cons (sd_if (et_cmp (od_eq hr.units) ((e_op od_mod ((e_op od_fdiv (e_nameW (pv 1)) (e_int).w)).w (e_int).w)).w (e_int).w (nomark _))
      (sd_cons (sd_set (i := 3) sc__law_rules.nd rfl (by first | exact .inl rfl | exact .inr rfl) (c_call C__law_word (by exact ⟨rfl, rfl, rfl, rfl, rfl⟩) (by decide) (by exact hr) (by decide) (by rfl) (ep_cons (e_op od_fdiv (e_nameW (pv 1)) (e_int).w) (ep_cons e_int ep_nil))))
    (sd_cons (sd_setN (i := 4) sc__law_rules.nd rfl (by first | exact .inl rfl | exact .inr rfl) (e_lst (ep_cons (e_tup (ep_cons (e_nameP (pv 3)) (ep_cons (c_call C__law_sign (by exact ⟨rfl, rfl, rfl, rfl, rfl⟩) (by decide) (by exact hr) (by decide) (by rfl) (ep_cons (e_nameP (pv 1)) (ep_cons e_int ep_nil))) ep_nil))) (ep_cons (e_tup (ep_cons (e_nameP (pv 3)) (ep_cons (e_nameP (pv 3)) (ep_cons (e_nameP (pv 3)) ep_nil)))) (ep_cons (e_tup (ep_cons (e_nameP (pv 3)) (ep_cons (c_call C__law_sign (by exact ⟨rfl, rfl, rfl, rfl, rfl⟩) (by decide) (by exact hr) (by decide) (by rfl) (ep_cons (e_nameP (pv 1)) (ep_cons e_int ep_nil))) ep_nil))) ep_nil)))))
    (sd_one (sd_retN (e_catN ((e_slL (e_nameW (pv 4)) (eo_some (e_op od_mod ((e_op od_fdiv (e_nameW (pv 1)) (e_int).w)).w (e_int).w)) eo_none)).w ((e_slL (e_nameW (pv 4)) eo_none (eo_some (e_op od_mod ((e_op od_fdiv (e_nameW (pv 1)) (e_int).w)).w (e_int).w)))).w)))))
      sd_nil)
    (sd_cons (sd_if (et_cmp (od_eq hr.units) ((e_op od_mod ((e_op od_fdiv (e_nameW (pv 1)) (e_int).w)).w (e_int).w)).w (e_int).w (nomark _))
      (sd_one (sd_set (i := 2) sc__law_rules.nd rfl (by first | exact .inl rfl | exact .inr rfl) (e_op od_add (e_int).w ((e_op od_mod ((e_op od_fdiv (e_nameW (pv 1)) (e_int).w)).w (e_int).w)).w)))
      sd_nil)
    (sd_cons (by first | exact (sd_setLcS (j := 5) rfl sc__law_rules.nd rfl rfl (sw_true rfl rfl rfl (by decide +kernel)) (i := 6) rfl ((i_rng1 (by rfl) B.b_range (ep_cons (e_nameP (pv 2)) ep_nil))).comp (blkOk_by (by show blkC ["_law_script", "_law_base", "_law_count", "_law_name", "_law_rules_here", "_law_names", "_law_k", "_law_cell", "_law_one", "_law_other"] (defScope s__law_rules) _ _ = true; decide +kernel)) (fun _ _ _ _ _ => by rfl) (fun _ _ _ _ _ => ets_nil) (fun _ _ _ _ _ => (c_call C__law_word (by exact ⟨rfl, rfl, rfl, rfl, rfl⟩) (by decide) (by exact hr) (by decide) (by rfl) (ep_cons (e_op od_fdiv (e_nameW (pv 1)) (e_int).w) (ep_cons (e_nameP (pv 6)) ep_nil))))) | exact (sd_set (i := 5) sc__law_rules.nd rfl (by first | exact .inl rfl | exact .inr rfl) (e_lc rfl sc__law_rules.nd (i := 6) rfl ((i_rng1 (by rfl) B.b_range (ep_cons (e_nameP (pv 2)) ep_nil))).comp (blkOk_by (by show blkC ["_law_script", "_law_base", "_law_count", "_law_name", "_law_rules_here", "_law_names", "_law_k", "_law_cell", "_law_one", "_law_other"] (defScope s__law_rules) _ _ = true; decide +kernel)) (fun _ _ _ _ _ => by rfl) (fun _ _ _ _ _ => ets_nil) (fun _ _ _ _ _ => (c_call C__law_word (by exact ⟨rfl, rfl, rfl, rfl, rfl⟩) (by decide) (by exact hr) (by decide) (by rfl) (ep_cons (e_op od_fdiv (e_nameW (pv 1)) (e_int).w) (ep_cons (e_nameP (pv 6)) ep_nil))))).p))
    (sd_cons (sd_setN (i := 4) sc__law_rules.nd rfl (by first | exact .inl rfl | exact .inr rfl) (e_lst ep_nil))
    (sd_cons (sd_for PassesOwn.never rfl (i_rng1 (by rfl) B.b_range (ep_cons (e_nameP (pv 2)) ep_nil)) (g_name (i := 6) sc__law_rules.nd rfl (by first | exact .inl rfl | exact .inr rfl))
      (sd_cons (sd_set (i := 7) sc__law_rules.nd rfl (by first | exact .inl rfl | exact .inr rfl) (c_call C__law_at (by exact ⟨rfl, rfl, rfl, rfl, rfl⟩) (by decide) (by exact hr) (by decide) (by rfl) (ep_cons (e_nameP (pv 0)) (ep_cons (e_op od_add (e_int).w (e_nameW (pv 6))) ep_nil))))
    (sd_one (sd_if (et_pw (ew_or (et_cmp (od_eq hr.units) (e_nameW (pv 6)) (e_int).w (nomark _)) (ew_or1 (et_cmp (od_eq hr.units) ((e_op od_mod (e_nameW (pv 7)) (e_int).w)).w (e_int).w (nomark _)))))
      (sd_one (sd_app (pv 4) (e_tup (ep_cons (e_ix (e_nameW (pv 5)) (e_nameW (pv 6)) (fun _ _ => rfl)) (ep_cons (c_call C__law_sign (by exact ⟨rfl, rfl, rfl, rfl, rfl⟩) (by decide) (by exact hr) (by decide) (by rfl) (ep_cons (e_nameP (pv 1)) (ep_cons (e_op od_mod ((e_op od_fdiv (e_nameW (pv 7)) (e_int).w)).w (e_int).w) ep_nil))) ep_nil)))))
      (sd_one (sd_if (et_cmp od_gt (e_nameW (pv 6)) (e_int).w (nomark _))
      (sd_one (sd_app (pv 4) (e_tup (ep_cons (e_ix (e_nameW (pv 5)) (e_nameW (pv 6)) (fun _ _ => rfl)) (ep_cons (e_ix (e_nameW (pv 5)) ((e_op od_sub ((e_op od_sub (e_nameW (pv 6)) (e_int).w)).w ((e_op od_mod ((e_op od_fdiv (e_nameW (pv 7)) (e_int).w)).w (e_int).w)).w)).w (fun _ _ => rfl)) (ep_cons (e_ix (e_nameW (pv 5)) ((e_op od_mod ((e_op od_fdiv (e_nameW (pv 7)) (e_int).w)).w (e_int).w)).w (fun _ _ => rfl)) ep_nil))))))
      (sd_one (sd_app (pv 4) (e_tup (ep_cons (e_ix (e_nameW (pv 5)) (e_nameW (pv 6)) (fun _ _ => rfl)) (ep_cons (e_ix (e_nameW (pv 5)) ((e_op od_mod ((e_op od_fdiv (e_nameW (pv 7)) (e_int).w)).w (e_nameW (pv 6)))).w (fun _ _ => rfl)) (ep_cons (e_ix (e_nameW (pv 5)) ((e_op od_mod ((e_op od_fdiv (e_nameW (pv 7)) (e_int).w)).w (e_nameW (pv 6)))).w (fun _ _ => rfl)) ep_nil))))))))))))
    (sd_cons (sd_for PassesOwn.never rfl (i_rng1 (by rfl) B.b_range (ep_cons (e_op od_mod ((c_call C__law_at (by exact ⟨rfl, rfl, rfl, rfl, rfl⟩) (by decide) (by exact hr) (by decide) (by rfl) (ep_cons (e_nameP (pv 0)) (ep_cons e_int ep_nil)))).w (e_int).w) ep_nil)) (g_name (i := 6) sc__law_rules.nd rfl (by first | exact .inl rfl | exact .inr rfl))
      (sd_cons (sd_set (i := 7) sc__law_rules.nd rfl (by first | exact .inl rfl | exact .inr rfl) (c_call C__law_at (by exact ⟨rfl, rfl, rfl, rfl, rfl⟩) (by decide) (by exact hr) (by decide) (by rfl) (ep_cons (e_nameP (pv 0)) (ep_cons (e_op od_add (e_int).w (e_nameW (pv 6))) ep_nil))))
    (sd_cons (sd_par (i := 8) (j := 9) rfl sc__law_rules.nd rfl rfl (by decide) rfl rfl (ep_cons (e_ix (e_nameW (pv 5)) ((e_op od_mod ((e_op od_fdiv (e_nameW (pv 7)) (e_int).w)).w (e_nameW (pv 2)))).w (fun _ _ => rfl)) (ep_cons (e_ix (e_nameW (pv 5)) ((e_op od_mod ((e_op od_fdiv (e_nameW (pv 7)) (e_int).w)).w (e_nameW (pv 2)))).w (fun _ _ => rfl)) ep_nil)))
    (sd_one (sd_if (et_cmp (od_eq hr.units) ((e_op od_mod (e_nameW (pv 7)) (e_int).w)).w (e_int).w (nomark _))
      (sd_one (sd_app (pv 4) (e_tup (ep_cons (e_nameP (pv 8)) (ep_cons (c_call C__law_sign (by exact ⟨rfl, rfl, rfl, rfl, rfl⟩) (by decide) (by exact hr) (by decide) (by rfl) (ep_cons (e_nameP (pv 1)) (ep_cons (e_op od_mod ((e_op od_fdiv (e_nameW (pv 7)) (e_int).w)).w (e_int).w) ep_nil))) ep_nil)))))
      (sd_one (sd_app (pv 4) (e_tup (ep_cons (e_ix (e_nameW (pv 5)) ((e_op od_mod ((e_op od_fdiv (e_nameW (pv 7)) (e_int).w)).w (e_nameW (pv 2)))).w (fun _ _ => rfl)) (ep_cons (e_nameP (pv 8)) (ep_cons (e_nameP (pv 9)) ep_nil)))))))))))
    (sd_cons (sd_if (et_cmp (od_eq hr.units) ((e_op od_mod ((e_op od_fdiv (e_nameW (pv 1)) (e_int).w)).w (e_int).w)).w (e_int).w (nomark _))
      (sd_one (sd_rev (pv 4)))
      sd_nil)
    (sd_one (sd_retNm (pv 4)))))))))))

/-! _law_text -/
abbrev s__law_text : Stmt := topS 50
theorem sc__law_text : FnScope ["_law_script", "_law_base", "_law_size", "_law_k"] ["_law_script", "_law_base"] (defScope s__law_text) := ⟨rfl, rfl, rfl, by decide +kernel, rfl, by decide +kernel, by decide +kernel⟩
theorem ok__law_text {f : Addr} {fd : FuncData} (F : Fun K "_law_text" "_law_text" s__law_text f fd) (B : Blts mg) (C__law_sign : Cal P w K mg base cs "_law_sign" 1 ["_law_cell", "_law_k"] [.ro, .ro] sem__law_sign) (C__law_at : Cal P w K mg base cs "_law_at" 1 ["_law_script", "_law_place"] [.ro, .ro] sem__law_at) : FnOk P w K mg base CX0 2 f fd ["_law_script", "_law_base"] (spD K cs [.ro, .ro] sem__law_text) := by
  refine fn_ds F sc__law_text rfl fun cdv A outer s H E hr => ⟨g__law_text, ?_, co__law_text⟩
  exact (sd_cons (sd_set (i := 2) sc__law_text.nd rfl (by first | exact .inl rfl | exact .inr rfl) (e_op od_mod ((c_call C__law_at (by exact ⟨rfl, rfl, rfl, rfl, rfl⟩) (by decide) (by exact hr) (by decide) (by rfl) (ep_cons (e_nameP (pv 0)) (ep_cons e_int ep_nil)))).w (e_int).w))
    (sd_cons (sd_if (et_cmp (od_eq hr.units) ((e_op od_mod ((e_op od_fdiv ((c_call C__law_at (by exact ⟨rfl, rfl, rfl, rfl, rfl⟩) (by decide) (by exact hr) (by decide) (by rfl) (ep_cons (e_nameP (pv 0)) (ep_cons e_int ep_nil)))).w (e_int).w)).w (e_int).w)).w (e_int).w (nomark _))
      (sd_one (sd_set (i := 2) sc__law_text.nd rfl (by first | exact .inl rfl | exact .inr rfl) (e_op od_add (e_int).w ((e_op od_mod ((e_op od_fdiv ((c_call C__law_at (by exact ⟨rfl, rfl, rfl, rfl, rfl⟩) (by decide) (by exact hr) (by decide) (by rfl) (ep_cons (e_nameP (pv 0)) (ep_cons e_int ep_nil)))).w (e_int).w)).w (e_int).w)).w)))
      sd_nil)
    (sd_cons (sd_if (et_cmp (od_eq hr.units) ((e_op od_mod ((e_op od_fdiv (e_nameW (pv 1)) (e_int).w)).w (e_int).w)).w (e_int).w (nomark _))
      (sd_one (sd_set (i := 2) sc__law_text.nd rfl (by first | exact .inl rfl | exact .inr rfl) (e_op od_add (e_int).w ((e_op od_mod ((c_call C__law_at (by exact ⟨rfl, rfl, rfl, rfl, rfl⟩) (by decide) (by exact hr) (by decide) (by rfl) (ep_cons (e_nameP (pv 0)) (ep_cons e_int ep_nil)))).w (e_int).w)).w)))
      (sd_one (sd_if (et_cmp (od_eq hr.units) ((e_op od_mod ((e_op od_fdiv (e_nameW (pv 1)) (e_int).w)).w (e_int).w)).w (e_int).w (nomark _))
      (sd_one (sd_set (i := 2) sc__law_text.nd rfl (by first | exact .inl rfl | exact .inr rfl) (e_op od_mod (e_nameW (pv 2)) (e_int).w)))
      (sd_one (sd_if (et_cmp od_gt ((e_op od_mod ((c_call C__law_at (by exact ⟨rfl, rfl, rfl, rfl, rfl⟩) (by decide) (by exact hr) (by decide) (by rfl) (ep_cons (e_nameP (pv 0)) (ep_cons e_int ep_nil)))).w (e_int).w)).w (e_int).w (nomark _))
      (sd_one (sd_set (i := 2) sc__law_text.nd rfl (by first | exact .inl rfl | exact .inr rfl) (e_callB (cd_min2 rfl) (by rfl) B.b_min PyProof.Rows.boot_min (ewa_cons (e_nameW (pv 2)) (ewa_cons (e_int).w ewa_nil)))))
      sd_nil)))))
    (sd_one (sd_ret (e_join (e_str).w ((e_lc rfl sc__law_text.nd (i := 3) rfl ((i_rng1 (by rfl) B.b_range (ep_cons (e_nameP (pv 2)) ep_nil))).comp (blkOk_by (by show blkC ["_law_script", "_law_base", "_law_size", "_law_k"] (defScope s__law_text) _ _ = true; decide +kernel)) (fun _ _ _ _ _ => by rfl) (fun _ _ _ _ _ => ets_nil) (fun _ _ _ _ _ => (c_call C__law_sign (by exact ⟨rfl, rfl, rfl, rfl, rfl⟩) (by decide) (by exact hr) (by decide) (by rfl) (ep_cons (e_nameP (pv 1)) (ep_cons (e_op od_mod ((c_call C__law_at (by exact ⟨rfl, rfl, rfl, rfl, rfl⟩) (by decide) (by exact hr) (by decide) (by rfl) (ep_cons (e_nameP (pv 0)) (ep_cons (e_op od_add (e_int).w (e_nameW (pv 3))) ep_nil)))).w (e_int).w) ep_nil)))))).w))))))

/-! _law_options -/
abbrev s__law_options : Stmt := topS 51
theorem sc__law_options : FnScope ["_law_table", "_law_rule", "_law_text_here", "_law_begin", "_law_end", "_law_k"] ["_law_table", "_law_rule", "_law_text_here", "_law_begin", "_law_end"] (defScope s__law_options) := ⟨rfl, rfl, rfl, by decide +kernel, rfl, by decide +kernel, by decide +kernel⟩
noncomputable def g__law_options : Nv → Option SR := (seqS (ifS (opT eqD (callD lenD (cons2 (nmW 1) (fun _ => some []))) (fun _ => some (.int 2)))
      (seqS (ifS (opT eqD (nmW 3) (nmW 4))
      (fun ρ => ((mkL (cons2 (fun _ => some (.int 1)) (fun _ => some []))) ρ).map fun d => .rt d true ρ)
      (fun ρ => some (.nx ρ)))
    (fun ρ => ((mkL (cons2 (op2 subD (op2 subD (nmW 4) (nmW 3)) (callD intD (cons2 (op2 inD' (op2 ixD (nmW 1) (fun _ => some (.int 1))) (slS (nmW 2) (fun ρ => ((nmP 3) ρ).bind fun x => (asI x).map some) (fun ρ => ((nmP 4) ρ).bind fun x => (asI x).map some))) (fun _ => some [])))) (fun _ => some []))) ρ).map fun d => .rt d true ρ))
      (fun ρ => some (.nx ρ)))
    (fun ρ => ((lcV 5 (fun ρ => ((cons2 (nmP 3) (cons2 (op2 addD (nmW 4) (fun _ => some (.int 1))) (fun _ => some []))) ρ).bind rng2) (fun _ => some true) (op2 addD (fun ρ => ((nmW 0) ρ).bind fun d => ((keysV (cons2 (op2 ixD (nmW 1) (fun _ => some (.int 1))) (cons2 (nmP 3) (cons2 (nmP 5) (fun _ => some []))))) ρ).bind fun ks => getTD d ks) (fun ρ => ((nmW 0) ρ).bind fun d => ((keysV (cons2 (op2 ixD (nmW 1) (fun _ => some (.int 2))) (cons2 (nmP 5) (cons2 (nmP 4) (fun _ => some []))))) ρ).bind fun ks => getTD d ks))) ρ).map fun d => .rt d true ρ))
noncomputable def sem__law_options : List D → Option Ou := semR 5 1 g__law_options
theorem co__law_options : Comes [.ro, .ro, .ro, .ro, .ro] 1 g__law_options sem__law_options := comes_ro (by decide)
theorem ok__law_options {f : Addr} {fd : FuncData} (F : Fun K "_law_options" "_law_options" s__law_options f fd) (B : Blts mg) : FnOk P w K mg base CX0 1 f fd ["_law_table", "_law_rule", "_law_text_here", "_law_begin", "_law_end"] (spD K cs [.ro, .ro, .ro, .ro, .ro] sem__law_options) := by
  refine fn_ds F sc__law_options rfl fun cdv A outer s H E hr => ⟨g__law_options, ?_, co__law_options⟩
  exact (sd_cons (sd_if (et_cmp (od_eq hr.units) ((e_callB cd_len (by rfl) B.b_len PySem.boot_len (ewa_cons (e_nameW (pv 1)) ewa_nil))).w (e_int).w (nomark _))
      (sd_cons (sd_if (et_cmp (od_eq hr.units) (e_nameW (pv 3)) (e_nameW (pv 4)) (nomark _))
      (sd_one (sd_retN (e_lst (ep_cons e_int ep_nil))))
      sd_nil)
    (sd_one (sd_retN (e_lst (ep_cons (e_op od_sub ((e_op od_sub (e_nameW (pv 4)) (e_nameW (pv 3)))).w ((e_callT cd_int (by rfl) B.b_int PyProof.Rows.boot_int (ewa_cons ((e_cmp (od_in (hu65 hr)) ((e_ix (e_nameW (pv 1)) (e_int).w (fun _ _ => rfl))).w ((e_slS (e_nameW (pv 2)) (eo_some (e_nameP (pv 3))) (eo_some (e_nameP (pv 4))))).w (by rfl))).w ewa_nil))).w) ep_nil)))))
      sd_nil)
    (sd_one (sd_retN (e_lc rfl sc__law_options.nd (i := 5) rfl ((i_rng2 (by rfl) B.b_range (ep_cons (e_nameP (pv 3)) (ep_cons (e_op od_add (e_nameW (pv 4)) (e_int).w) ep_nil)))).comp (blkOk_by (by show blkC ["_law_table", "_law_rule", "_law_text_here", "_law_begin", "_law_end", "_law_k"] (defScope s__law_options) _ _ = true; decide +kernel)) (fun _ _ _ _ _ => by rfl) (fun _ _ _ _ _ => ets_nil) (fun _ _ _ _ _ => (e_op od_add ((e_getT (by exact hu65 hr) (e_nameW (pv 0)) (e_keyT (ep_cons (e_ix (e_nameW (pv 1)) (e_int).w (fun _ _ => rfl)) (ep_cons (e_nameP (pv 3)) (ep_cons (e_nameP (pv 5)) ep_nil)))) (fun _ _ => rfl))).w ((e_getT (by exact hu65 hr) (e_nameW (pv 0)) (e_keyT (ep_cons (e_ix (e_nameW (pv 1)) (e_int).w (fun _ _ => rfl)) (ep_cons (e_nameP (pv 5)) (ep_cons (e_nameP (pv 4)) ep_nil)))) (fun _ _ => rfl))).w))))))

/-! _law_rests -/
abbrev s__law_rests : Stmt := topS 52
theorem sc__law_rests : FnScope ["_law_table", "_law_rule", "_law_begin", "_law_end", "_law_cost", "_law_k", "_law_one", "_law_other"] ["_law_table", "_law_rule", "_law_begin", "_law_end", "_law_cost"] (defScope s__law_rests) := ⟨rfl, rfl, rfl, by decide +kernel, rfl, by decide +kernel, by decide +kernel⟩
noncomputable def g__law_rests : Nv → Option SR := (seqS (ifS (opT eqD (callD lenD (cons2 (nmW 1) (fun _ => some []))) (fun _ => some (.int 2)))
      (fun ρ => ((fun _ => some (.bool true)) ρ).map fun d => .rt d false ρ)
      (fun ρ => some (.nx ρ)))
    (seqS (fun ρ => ((fun ρ => ((cons2 (nmP 2) (cons2 (op2 addD (nmW 3) (fun _ => some (.int 1))) (fun _ => some []))) ρ).bind rng2) ρ).bind fun ds => forS (toNm 5) (seqS (parS 6 7 (cons2 (fun ρ => ((nmW 0) ρ).bind fun d => ((keysV (cons2 (op2 ixD (nmW 1) (fun _ => some (.int 1))) (cons2 (nmP 2) (cons2 (nmP 5) (fun _ => some []))))) ρ).bind fun ks => getTD d ks) (cons2 (fun ρ => ((nmW 0) ρ).bind fun d => ((keysV (cons2 (op2 ixD (nmW 1) (fun _ => some (.int 2))) (cons2 (nmP 5) (cons2 (nmP 3) (fun _ => some []))))) ρ).bind fun ks => getTD d ks) (fun _ => some []))))
    (ifS (andT (opT eqD (op2 addD (nmW 6) (nmW 7)) (nmW 4)) (andT (orT (opT ltD (nmW 2) (nmW 5)) (opT ltD (nmW 7) (nmW 4))) (orT (opT ltD (nmW 5) (nmW 3)) (opT ltD (nmW 6) (nmW 4)))))
      (fun ρ => ((fun _ => some (.bool true)) ρ).map fun d => .rt d false ρ)
      (fun ρ => some (.nx ρ)))) ds ρ)
    (fun ρ => ((fun _ => some (.bool false)) ρ).map fun d => .rt d false ρ)))
noncomputable def sem__law_rests : List D → Option Ou := semR 5 3 g__law_rests
theorem co__law_rests : Comes [.ro, .ro, .ro, .ro, .ro] 3 g__law_rests sem__law_rests := comes_ro (by decide)
theorem ok__law_rests {f : Addr} {fd : FuncData} (F : Fun K "_law_rests" "_law_rests" s__law_rests f fd) (B : Blts mg) : FnOk P w K mg base CX0 1 f fd ["_law_table", "_law_rule", "_law_begin", "_law_end", "_law_cost"] (spD K cs [.ro, .ro, .ro, .ro, .ro] sem__law_rests) := by
  refine fn_ds F sc__law_rests rfl fun cdv A outer s H E hr => ⟨g__law_rests, ?_, co__law_rests⟩
  exact (sd_cons (sd_if (et_cmp (od_eq hr.units) ((e_callB cd_len (by rfl) B.b_len PySem.boot_len (ewa_cons (e_nameW (pv 1)) ewa_nil))).w (e_int).w (nomark _))
      (sd_one (sd_ret e_bool))
      sd_nil)
    (sd_cons (sd_for PassesOwn.never rfl (i_rng2 (by rfl) B.b_range (ep_cons (e_nameP (pv 2)) (ep_cons (e_op od_add (e_nameW (pv 3)) (e_int).w) ep_nil))) (g_name (i := 5) sc__law_rests.nd rfl (by first | exact .inl rfl | exact .inr rfl))
      (sd_cons (sd_par (i := 6) (j := 7) rfl sc__law_rests.nd rfl rfl (by decide) rfl rfl (ep_cons (e_getT (by exact hu65 hr) (e_nameW (pv 0)) (e_keyT (ep_cons (e_ix (e_nameW (pv 1)) (e_int).w (fun _ _ => rfl)) (ep_cons (e_nameP (pv 2)) (ep_cons (e_nameP (pv 5)) ep_nil)))) (fun _ _ => rfl)) (ep_cons (e_getT (by exact hu65 hr) (e_nameW (pv 0)) (e_keyT (ep_cons (e_ix (e_nameW (pv 1)) (e_int).w (fun _ _ => rfl)) (ep_cons (e_nameP (pv 5)) (ep_cons (e_nameP (pv 3)) ep_nil)))) (fun _ _ => rfl)) ep_nil)))
    (sd_one (sd_if (et_pw (ew_and (et_cmp (od_eq hr.units) ((e_op od_add (e_nameW (pv 6)) (e_nameW (pv 7)))).w (e_nameW (pv 4)) (nomark _)) (ew_and (et_pw (ew_or (et_cmp od_lt (e_nameW (pv 2)) (e_nameW (pv 5)) (nomark _)) (ew_or1 (et_cmp od_lt (e_nameW (pv 7)) (e_nameW (pv 4)) (nomark _))))) (ew_and1 (et_pw (ew_or (et_cmp od_lt (e_nameW (pv 5)) (e_nameW (pv 3)) (nomark _)) (ew_or1 (et_cmp od_lt (e_nameW (pv 6)) (e_nameW (pv 4)) (nomark _)))))))))
      (sd_one (sd_ret e_bool))
      sd_nil))))
    (sd_one (sd_ret e_bool))))

/-! _law_good -/
abbrev s__law_good : Stmt := topS 53
theorem sc__law_good : FnScope ["_law_table", "_law_rules_here", "_law_text_here", "_law_key", "_law_name", "_law_begin", "_law_end", "_law_least", "_law_rests_here", "_law_rule", "_law_here"] ["_law_table", "_law_rules_here", "_law_text_here", "_law_key"] (defScope s__law_good) := ⟨rfl, rfl, rfl, by decide +kernel, rfl, by decide +kernel, by decide +kernel⟩
noncomputable def g__law_good : Nv → Option SR := (seqS (fun ρ => ((nmP 3) ρ).bind fun d => ((toTu 3 (toCons (toNm 4) (toCons (toNm 5) (toCons (toNm 6) toNil)))) d ρ).map .nx)
    (seqS (setS 7 (fun _ => some .none))
    (seqS (setS 8 (fun _ => some (.bool false)))
    (seqS (fun ρ => ((fun ρ => ((nmP 1) ρ).bind asL) ρ).bind fun ds => forS (toNm 9) (ifS (opT eqD (op2 ixD (nmW 9) (fun _ => some (.int 0))) (nmW 4))
      (seqS (setS 10 (callD minD (cons2 (callO 5 sem__law_options (cons2 (nmP 0) (cons2 (nmP 9) (cons2 (nmP 2) (cons2 (nmP 5) (cons2 (nmP 6) (fun _ => some []))))))) (fun _ => some []))))
    (seqS (ifS (orT (opT isD (nmW 7) (fun _ => some .none)) (opT ltD (nmW 10) (nmW 7)))
      (setS 7 (nmP 10))
      (fun ρ => some (.nx ρ)))
    (ifS (opT eqD (nmW 10) (fun ρ => ((nmW 0) ρ).bind fun d => ((fun ρ => ((nmP 3) ρ).bind tupK) ρ).bind fun ks => getTD d ks))
      (setS 8 (orV (nmP 8) (callS 5 sem__law_rests (cons2 (nmP 0) (cons2 (nmP 9) (cons2 (nmP 5) (cons2 (nmP 6) (cons2 (nmP 10) (fun _ => some [])))))))))
      (fun ρ => some (.nx ρ)))))
      (fun ρ => some (.nx ρ))) ds ρ)
    (fun ρ => ((andV (op2 eqD (nmW 7) (fun ρ => ((nmW 0) ρ).bind fun d => ((fun ρ => ((nmP 3) ρ).bind tupK) ρ).bind fun ks => getTD d ks)) (nmP 8)) ρ).map fun d => .rt d false ρ)))))
noncomputable def sem__law_good : List D → Option Ou := semR 4 7 g__law_good
theorem co__law_good : Comes [.ro, .ro, .ro, .ro] 7 g__law_good sem__law_good := comes_ro (by decide)
theorem ok__law_good {f : Addr} {fd : FuncData} (F : Fun K "_law_good" "_law_good" s__law_good f fd) (B : Blts mg) (C__law_rests : Cal P w K mg base cs "_law_rests" 1 ["_law_table", "_law_rule", "_law_begin", "_law_end", "_law_cost"] [.ro, .ro, .ro, .ro, .ro] sem__law_rests) (C__law_options : Cal P w K mg base cs "_law_options" 1 ["_law_table", "_law_rule", "_law_text_here", "_law_begin", "_law_end"] [.ro, .ro, .ro, .ro, .ro] sem__law_options) : FnOk P w K mg base CX0 2 f fd ["_law_table", "_law_rules_here", "_law_text_here", "_law_key"] (spD K cs [.ro, .ro, .ro, .ro] sem__law_good) := by
  refine fn_ds F sc__law_good rfl fun cdv A outer s H E hr => ⟨g__law_good, ?_, co__law_good⟩
  exact (sd_cons (sd_asgT (e_nameP (pv 3)) (g_tup rfl (gs_cons (g_name (i := 4) sc__law_good.nd rfl (by first | exact .inl rfl | exact .inr rfl)) (gs_cons (g_name (i := 5) sc__law_good.nd rfl (by first | exact .inl rfl | exact .inr rfl)) (gs_cons (g_name (i := 6) sc__law_good.nd rfl (by first | exact .inl rfl | exact .inr rfl)) gs_nil)))))
    (sd_cons (sd_set (i := 7) sc__law_good.nd rfl (by first | exact .inl rfl | exact .inr rfl) e_none)
    (sd_cons (sd_set (i := 8) sc__law_good.nd rfl (by first | exact .inl rfl | exact .inr rfl) e_bool)
    (sd_cons (sd_for PassesOwn.never rfl (i_list (e_nameP (pv 1))) (g_name (i := 9) sc__law_good.nd rfl (by first | exact .inl rfl | exact .inr rfl))
      (sd_one (sd_if (et_cmp (od_eq hr.units) ((e_ix (e_nameW (pv 9)) (e_int).w (fun _ _ => rfl))).w (e_nameW (pv 4)) (nomark _))
      (sd_cons (sd_set (i := 10) sc__law_good.nd rfl (by first | exact .inl rfl | exact .inr rfl) (e_callB (cd_min rfl) (by rfl) B.b_min PyProof.Rows.boot_min (ewa_cons ((c_callO C__law_options (by exact ⟨rfl, rfl, rfl, rfl, rfl⟩) (by decide) (by exact hr) (by decide) (by rfl) (ep_cons (e_nameP (pv 0)) (ep_cons (e_nameP (pv 9)) (ep_cons (e_nameP (pv 2)) (ep_cons (e_nameP (pv 5)) (ep_cons (e_nameP (pv 6)) ep_nil))))))).w ewa_nil)))
    (sd_cons (sd_if (et_pw (ew_or (et_cmp od_is (e_nameW (pv 7)) (e_none).w (nomark _)) (ew_or1 (et_cmp od_lt (e_nameW (pv 10)) (e_nameW (pv 7)) (nomark _)))))
      (sd_one (sd_set (i := 7) sc__law_good.nd rfl (by first | exact .inl rfl | exact .inr rfl) (e_nameP (pv 10))))
      sd_nil)
    (sd_one (sd_if (et_cmp (od_eq hr.units) (e_nameW (pv 10)) ((e_getT (by exact hu65 hr) (e_nameW (pv 0)) (e_keyW (e_nameP (pv 3))) (fun _ _ => rfl))).w (nomark _))
      (sd_one (sd_set (i := 8) sc__law_good.nd rfl (by first | exact .inl rfl | exact .inr rfl) (e_or (e_nameP (pv 8)) (e_one (c_call C__law_rests (by exact ⟨rfl, rfl, rfl, rfl, rfl⟩) (by decide) (by exact hr) (by decide) (by rfl) (ep_cons (e_nameP (pv 0)) (ep_cons (e_nameP (pv 9)) (ep_cons (e_nameP (pv 5)) (ep_cons (e_nameP (pv 6)) (ep_cons (e_nameP (pv 10)) ep_nil))))))))))
      sd_nil))))
      sd_nil)))
    (sd_one (sd_ret (e_and (e_cmp (od_eq hr.units) (e_nameW (pv 7)) ((e_getT (by exact hu65 hr) (e_nameW (pv 0)) (e_keyW (e_nameP (pv 3))) (fun _ _ => rfl))).w (nomark _)) (e_one (e_nameP (pv 8))))))))))

/-! law -/
abbrev s_law : Stmt := topS 54
theorem sc_law : FnScope ["_law_script", "_law_base", "_law_rules_here", "_law_text_here", "_law_given", "_law_table", "_law_names", "_law_rule", "_law_keys", "_law_name", "_law_begin", "_law_end", "_law_key", "_law_found"] ["_law_script"] (defScope s_law) := ⟨rfl, rfl, rfl, by decide +kernel, rfl, by decide +kernel, by decide +kernel⟩
noncomputable def g_law : Nv → Option SR := (seqS (setS 1 (callS 2 sem__law_at (cons2 (nmP 0) (cons2 (fun _ => some (.int 0)) (fun _ => some [])))))
    (seqS (setS 2 (callO 2 sem__law_rules (cons2 (nmP 0) (cons2 (nmP 1) (fun _ => some [])))))
    (seqS (setS 3 (callS 2 sem__law_text (cons2 (nmP 0) (cons2 (nmP 1) (fun _ => some [])))))
    (seqS (setS 4 (callD listD (cons2 (nmW 2) (fun _ => some []))))
    (seqS (setS 5 (callS 2 sem_costs (cons2 (nmP 4) (cons2 (nmP 3) (fun _ => some [])))))
    (seqS (setN 6 (fun _ => some (.dict [])))
    (seqS (fun ρ => ((fun ρ => ((nmP 2) ρ).bind asL) ρ).bind fun ds => forS (toNm 7) (putS 6 (op2 ixD (nmW 7) (fun _ => some (.int 0))) (fun _ => some (.bool true))) ds ρ)
    (seqS (setN 8 (mkL (fun _ => some [])))
    (seqS (fun ρ => (shrS 6 ρ).bind (keysS 6 (toNm 9) (fun ρ => ((fun ρ => ((cons2 (op2 addD (callD lenD (cons2 (nmW 3) (fun _ => some []))) (fun _ => some (.int 1))) (fun _ => some [])) ρ).bind rng1) ρ).bind fun ds => forS (toNm 10) (fun ρ => ((fun ρ => ((cons2 (nmP 10) (cons2 (op2 addD (callD lenD (cons2 (nmW 3) (fun _ => some []))) (fun _ => some (.int 1))) (fun _ => some []))) ρ).bind rng2) ρ).bind fun ds => forS (toNm 11) (appS 8 (mkT (cons2 (nmP 9) (cons2 (nmP 10) (cons2 (nmP 11) (fun _ => some [])))))) ds ρ) ds ρ)))
    (seqS (ifS (orT (notT (fun ρ => ((fun ρ => ((nmW 5) ρ).map fun d => .bool (isiB "dict" d)) ρ).bind truD)) (orT (opT neD (callD sortD (cons2 (nmW 5) (fun _ => some []))) (callD sortD (cons2 (nmW 8) (fun _ => some [])))) (opT neD (nmW 4) (nmW 2))))
      (fun ρ => ((fun _ => some (.bool false)) ρ).map fun d => .rt d false ρ)
      (fun ρ => some (.nx ρ)))
    (seqS (fun ρ => (shrS 8 ρ).bind (fun ρ => ((fun ρ => ((nmP 8) ρ).bind asL) ρ).bind fun ds => forS (toNm 12) (ifS (orT (notT (fun ρ => ((fun ρ => ((fun ρ => ((nmW 5) ρ).bind fun d => ((fun ρ => ((nmP 12) ρ).bind tupK) ρ).bind fun ks => getTD d ks) ρ).map fun d => .bool (isiB "int" d)) ρ).bind truD)) (orT (fun ρ => ((fun ρ => ((fun ρ => ((nmW 5) ρ).bind fun d => ((fun ρ => ((nmP 12) ρ).bind tupK) ρ).bind fun ks => getTD d ks) ρ).map fun d => .bool (isiB "bool" d)) ρ).bind truD) (opT ltD (fun ρ => ((nmW 5) ρ).bind fun d => ((fun ρ => ((nmP 12) ρ).bind tupK) ρ).bind fun ks => getTD d ks) (fun _ => some (.int 0)))))
      (fun ρ => ((fun _ => some (.bool false)) ρ).map fun d => .rt d false ρ)
      (fun ρ => some (.nx ρ))) ds ρ))
    (seqS (ifS (notT (fun ρ => ((callD allLD (cons2 (lcV 12 (fun ρ => ((nmW 8) ρ).bind asL) (fun _ => some true) (callS 4 sem__law_good (cons2 (nmP 5) (cons2 (nmP 2) (cons2 (nmP 3) (cons2 (nmP 12) (fun _ => some []))))))) (fun _ => some []))) ρ).bind truD))
      (fun ρ => ((fun _ => some (.bool false)) ρ).map fun d => .rt d false ρ)
      (fun ρ => some (.nx ρ)))
    (seqS (setS 13 (callS 2 sem_mend (cons2 (nmP 4) (cons2 (nmP 3) (fun _ => some [])))))
    (fun ρ => ((andV (fun ρ => ((nmW 13) ρ).map fun d => .bool (isiB "tuple" d)) (andV (op2 eqD (callD lenD (cons2 (nmW 13) (fun _ => some []))) (fun _ => some (.int 2))) (op2 eqD (op2 ixD (nmW 13) (fun _ => some (.int 1))) (fun ρ => ((nmW 5) ρ).bind fun d => ((keysV (cons2 (op2 ixD (op2 ixD (nmW 2) (fun _ => some (.int 0))) (fun _ => some (.int 0))) (cons2 (fun _ => some (.int 0)) (cons2 (callD lenD (cons2 (nmW 3) (fun _ => some []))) (fun _ => some []))))) ρ).bind fun ks => getTD d ks)))) ρ).map fun d => .rt d false ρ))))))))))))))
noncomputable def sem_law : List D → Option Ou := semR 1 13 g_law
theorem co_law : Comes [.ro] 13 g_law sem_law := comes_ro (by decide)
theorem ok_law {f : Addr} {fd : FuncData} (F : Fun K "law" "law" s_law f fd) (B : Blts mg) (C_mend : Cal P w K mg base cs "mend" 8 ["rules", "text"] [.ro, .ro] sem_mend) (C__law_good : Cal P w K mg base cs "_law_good" 2 ["_law_table", "_law_rules_here", "_law_text_here", "_law_key"] [.ro, .ro, .ro, .ro] sem__law_good) (C_costs : Cal P w K mg base cs "costs" 7 ["rules", "text"] [.ro, .ro] sem_costs) (C__law_text : Cal P w K mg base cs "_law_text" 2 ["_law_script", "_law_base"] [.ro, .ro] sem__law_text) (C__law_rules : Cal P w K mg base cs "_law_rules" 2 ["_law_script", "_law_base"] [.ro, .ro] sem__law_rules) (C__law_at : Cal P w K mg base cs "_law_at" 1 ["_law_script", "_law_place"] [.ro, .ro] sem__law_at) : FnOk P w K mg base CX0 9 f fd ["_law_script"] (spD K cs [.ro] sem_law) := by
  refine fn_ds F sc_law rfl fun cdv A outer s H E hr => ⟨g_law, ?_, co_law⟩
  exact (sd_cons (sd_set (i := 1) sc_law.nd rfl (by first | exact .inl rfl | exact .inr rfl) (c_call C__law_at (by exact ⟨rfl, rfl, rfl, rfl, rfl⟩) (by decide) (by exact hr) (by decide) (by rfl) (ep_cons (e_nameP (pv 0)) (ep_cons e_int ep_nil))))
    (sd_cons (sd_set (i := 2) sc_law.nd rfl (by first | exact .inl rfl | exact .inr rfl) ((c_callO C__law_rules (by exact ⟨rfl, rfl, rfl, rfl, rfl⟩) (by decide) (by exact hr) (by decide) (by rfl) (ep_cons (e_nameP (pv 0)) (ep_cons (e_nameP (pv 1)) ep_nil)))).p)
    (sd_cons (sd_set (i := 3) sc_law.nd rfl (by first | exact .inl rfl | exact .inr rfl) (c_call C__law_text (by exact ⟨rfl, rfl, rfl, rfl, rfl⟩) (by decide) (by exact hr) (by decide) (by rfl) (ep_cons (e_nameP (pv 0)) (ep_cons (e_nameP (pv 1)) ep_nil))))
    (sd_cons (sd_set (i := 4) sc_law.nd rfl (by first | exact .inl rfl | exact .inr rfl) ((e_callTN cn_list (by rfl) B.b_list PyProof.Rows.boot_list (ewa_cons (e_nameW (pv 2)) ewa_nil))).p)
    (sd_cons (sd_set (i := 5) sc_law.nd rfl (by first | exact .inl rfl | exact .inr rfl) (c_call C_costs (by exact ⟨rfl, rfl, rfl, rfl, rfl⟩) (by decide) (by exact hr) (by decide) (by rfl) (ep_cons (e_nameP (pv 4)) (ep_cons (e_nameP (pv 3)) ep_nil))))
    (sd_cons (sd_setN (i := 6) sc_law.nd rfl (by first | exact .inl rfl | exact .inr rfl) e_dnew)
    (sd_cons (sd_for PassesOwn.never rfl (i_list (e_nameP (pv 2))) (g_name (i := 7) sc_law.nd rfl (by first | exact .inl rfl | exact .inr rfl))
      (sd_one (sd_put (by exact hu65 hr) (pv 6) ((e_ix (e_nameW (pv 7)) (e_int).w (fun _ _ => rfl))).w e_bool)))
    (sd_cons (sd_setN (i := 8) sc_law.nd rfl (by first | exact .inl rfl | exact .inr rfl) (e_lst ep_nil))
    (sd_cons (sd_share 6 (sd_keys PassesOwn.never rfl (pv 6) (g_name (i := 9) sc_law.nd rfl (by first | exact .inl rfl | exact .inr rfl))
      (sd_one (sd_for PassesOwn.never rfl (i_rng1 (by rfl) B.b_range (ep_cons (e_op od_add ((e_callB cd_len (by rfl) B.b_len PySem.boot_len (ewa_cons (e_nameW (pv 3)) ewa_nil))).w (e_int).w) ep_nil)) (g_name (i := 10) sc_law.nd rfl (by first | exact .inl rfl | exact .inr rfl))
      (sd_one (sd_for PassesOwn.never rfl (i_rng2 (by rfl) B.b_range (ep_cons (e_nameP (pv 10)) (ep_cons (e_op od_add ((e_callB cd_len (by rfl) B.b_len PySem.boot_len (ewa_cons (e_nameW (pv 3)) ewa_nil))).w (e_int).w) ep_nil))) (g_name (i := 11) sc_law.nd rfl (by first | exact .inl rfl | exact .inr rfl))
      (sd_one (sd_app (pv 8) (e_tup (ep_cons (e_nameP (pv 9)) (ep_cons (e_nameP (pv 10)) (ep_cons (e_nameP (pv 11)) ep_nil))))))))))))
    (sd_cons (sd_if (et_pw (ew_or (et_not (et_val ((e_isi isi_dict (by rfl) B.b_isinstance (e_nameW (pv 5)) (by rfl) B.b_dict PyProof.Rows.boot_dict)).w)) (ew_or (et_cmp (od_ne hr.units) ((e_callBN (cn_sorted rfl (by exact hu65 hr)) (by rfl) B.b_sorted PyProof.Rows.boot_sorted (ewa_cons (e_nameW (pv 5)) ewa_nil))).w ((e_callBN (cn_sorted rfl (by exact hu65 hr)) (by rfl) B.b_sorted PyProof.Rows.boot_sorted (ewa_cons (e_nameW (pv 8)) ewa_nil))).w (nomark _)) (ew_or1 (et_cmp (od_ne hr.units) (e_nameW (pv 4)) (e_nameW (pv 2)) (nomark _))))))
      (sd_one (sd_ret e_bool))
      sd_nil)
    (sd_cons (sd_share 8 (sd_for PassesOwn.never rfl (i_list (e_nameP (pv 8))) (g_name (i := 12) sc_law.nd rfl (by first | exact .inl rfl | exact .inr rfl))
      (sd_one (sd_if (et_pw (ew_or (et_not (et_val ((e_isi isi_int (by rfl) B.b_isinstance ((e_getT (by exact hu65 hr) (e_nameW (pv 5)) (e_keyW (e_nameP (pv 12))) (fun _ _ => rfl))).w (by rfl) B.b_int PyProof.Rows.boot_int)).w)) (ew_or (et_val ((e_isi isi_bool (by rfl) B.b_isinstance ((e_getT (by exact hu65 hr) (e_nameW (pv 5)) (e_keyW (e_nameP (pv 12))) (fun _ _ => rfl))).w (by rfl) B.b_bool PyProof.Rows.boot_bool)).w) (ew_or1 (et_cmp od_lt ((e_getT (by exact hu65 hr) (e_nameW (pv 5)) (e_keyW (e_nameP (pv 12))) (fun _ _ => rfl))).w (e_int).w (nomark _))))))
      (sd_one (sd_ret e_bool))
      sd_nil))))
    (sd_cons (sd_if (et_not (et_val ((e_callB (cd_allL rfl) (by rfl) B.b_all PyProof.Rows.boot_all (ewa_cons ((e_lc rfl sc_law.nd (i := 12) rfl (i_listW (e_nameW (pv 8))) (blkOk_by (by show blkC ["_law_script", "_law_base", "_law_rules_here", "_law_text_here", "_law_given", "_law_table", "_law_names", "_law_rule", "_law_keys", "_law_name", "_law_begin", "_law_end", "_law_key", "_law_found"] (defScope s_law) _ _ = true; decide +kernel)) (fun _ _ _ _ _ => by rfl) (fun _ _ _ _ _ => ets_nil) (fun _ _ _ _ _ => (c_call C__law_good (by exact ⟨rfl, rfl, rfl, rfl, rfl⟩) (by decide) (by exact hr) (by decide) (by rfl) (ep_cons (e_nameP (pv 5)) (ep_cons (e_nameP (pv 2)) (ep_cons (e_nameP (pv 3)) (ep_cons (e_nameP (pv 12)) ep_nil)))))))).w ewa_nil))).w))
      (sd_one (sd_ret e_bool))
      sd_nil)
    (sd_cons (sd_set (i := 13) sc_law.nd rfl (by first | exact .inl rfl | exact .inr rfl) (c_call C_mend (by exact ⟨rfl, rfl, rfl, rfl, rfl⟩) (by decide) (by exact hr) (by decide) (by rfl) (ep_cons (e_nameP (pv 4)) (ep_cons (e_nameP (pv 3)) ep_nil))))
    (sd_one (sd_ret (e_and (e_isi isi_tuple (by rfl) B.b_isinstance (e_nameW (pv 13)) (by rfl) B.b_tuple PyProof.Rows.boot_tuple) (e_and (e_cmp (od_eq hr.units) ((e_callB cd_len (by rfl) B.b_len PySem.boot_len (ewa_cons (e_nameW (pv 13)) ewa_nil))).w (e_int).w (nomark _)) (e_one (e_cmp (od_eq hr.units) ((e_ix (e_nameW (pv 13)) (e_int).w (fun _ _ => rfl))).w ((e_getT (by exact hu65 hr) (e_nameW (pv 5)) (e_keyT (ep_cons (e_ix ((e_ix (e_nameW (pv 2)) (e_int).w (fun _ _ => rfl))).w (e_int).w (fun _ _ => rfl)) (ep_cons e_int (ep_cons (e_callB cd_len (by rfl) B.b_len PySem.boot_len (ewa_cons (e_nameW (pv 3)) ewa_nil)) ep_nil)))) (fun _ _ => rfl))).w (nomark _))))))))))))))))))))
end
end K7

namespace K7
open PySem L2 DS MD ML LB
def optsL (cs : List Nat) (C : CF) (b e : Nat) : Ru → List Int
  | .leaf _ s => [lc cs s b e]
  | .fork _ x y => (List.range (e + 1 - b)).map fun k => C x b (b + k) + C y (b + k) e
theorem mem_opts {cs : List Nat} {C : CF} {b e : Nat} (hb : b ≤ e) {r : Ru} {c : Int} : c ∈ optsL cs C b e r ↔ opt cs C r b e c := by
  cases r with
  | leaf n s => exact List.mem_singleton
  | fork n x y =>
    constructor
    · intro h
      obtain ⟨k, hk, rfl⟩ := List.mem_map.mp h
      have := List.mem_range.mp hk
      exact ⟨b + k, by omega, by omega, rfl⟩
    · rintro ⟨p, h1, h2, rfl⟩
      refine List.mem_map.mpr ⟨p - b, List.mem_range.mpr (by omega), ?_⟩
      have : b + (p - b) = p := by omega
      rw [this]
theorem opts_ne {cs : List Nat} {C : CF} {b e : Nat} (hb : b ≤ e) (r : Ru) : ∃ c, leastD (optsL cs C b e r) = some c := by
  cases q : leastD (optsL cs C b e r) with
  | some c => exact ⟨c, rfl⟩
  | none =>
    have := leastD_none q
    cases r with
    | leaf n s => cases this
    | fork n x y =>
      have h2 := List.map_eq_nil_iff.mp this
      have := congrArg List.length h2
      rw [List.length_range, List.length_nil] at this
      omega
theorem len_ru (r : Ru) (ρ : Nv) (i : Nat) (h : nmW i ρ = some r.d) : callD lenD (cons2 (nmW i) (fun _ => some [])) ρ = some (.int (if r.isF then 3 else 2)) := by
  unfold callD
  rw [cons2_is h rfl]
  cases r <;> rfl
section
variable {rs : List Ru} {cs : List Nat} {T : TB}
theorem options_is (V : Tab rs cs T) {r : Ru} (hr : r ∈ rs) {b e : Nat} (hb : b ≤ e) (he : e ≤ cs.length) : sem__law_options [tbD T, r.d, .str (txt cs), .int (b : Nat), .int (e : Nat)] = some (.ret (.list ((optsL cs (ct T) b e r).map .int)) true []) := by
  have h40 := V.len
  unfold sem__law_options g__law_options
  refine sem_eq rfl ?_
  cases r with
  | leaf n s =>
    have hs := Ru.sign1 (V.good.ok _ hr) n s rfl
    refine rs_if (b := true) (opT_is (len_ru (.leaf n s) _ 1 rfl) rfl (eqD_int _ _)) (fun _ => ?_) fun z => by cases z
    refine rs_if (b := decide (b = e)) (eqT_int rfl rfl) (fun hq => ?_) fun hq => ?_
    · refine run_ret (d := .list [.int 1]) (mkL_of (cons2_is rfl rfl)) (thn_rt (thn_rt (ret_ok (Nat.le_of_ble_eq_true rfl) ?_)))
      show _ = PyData.list [.int (lc cs s b e)]
      unfold lc
      rw [if_pos (of_decide_eq_true hq)]
    · refine run_ret (d := .list [.int ((e : Int) - b - (if decide (sc s ∈ seg cs b e) = true then 1 else 0))]) (mkL_of (cons2_is (op2_is (x := .int ((e : Int) - b)) (op2_is rfl rfl rfl) (show callD intD _ _ = some (.int (if decide (sc s ∈ seg cs b e) = true then 1 else 0)) from ?_) rfl) rfl)) (thn_rt (ret_ok (Nat.le_of_ble_eq_true rfl) ?_))
      · unfold callD
        rw [cons2_is (op2_is (op2_is rfl rfl rfl) (slS_txt hb he (by omega) rfl rfl rfl) (in_txt hs _)) rfl]
        rfl
      · show _ = PyData.list [.int (lc cs s b e)]
        unfold lc
        rw [if_neg (of_decide_eq_false hq)]
        by_cases h : sc s ∈ seg cs b e
        · rw [if_pos h, if_pos (decide_eq_true h)]
        · rw [if_neg h, if_neg (by rw [decide_eq_false h]; exact Bool.false_ne_true), Int.sub_zero]
  | fork n x y =>
    obtain ⟨kx, kz⟩ := V.good.known n x y hr
    refine rs_if (b := false) (opT_is (len_ru (.fork n x y) _ 1 rfl) rfl (eqD_int _ _)) (fun z => by cases z) fun _ => ?_
    refine run_ret (lcV_to (List.range (e + 1 - b)) (fun i => .int ((b + i : Nat) : Int)) (fun k => .int (ct T x b (b + k) + ct T y (b + k) e)) ?_ rfl (by rw [List.length_range]; omega) fun k hk => ?_) (ret_ok (Nat.le_of_ble_eq_true rfl) ?_)
    · exact bind_of (cons2_is rfl (cons2_is (op2_is rfl rfl rfl) rfl)) (rng2_nat (a := b) (n := e + 1) (by omega) (by omega))
    · have := List.mem_range.mp hk
      exact op2_is (getT_of (T := T) (k := ky x b (b + k)) rfl (keys_ky (op2_is rfl rfl rfl) rfl rfl) (V.get ⟨kx, by omega, by omega⟩)) (getT_of (T := T) (k := ky y (b + k) e) rfl (keys_ky (op2_is rfl rfl rfl) rfl rfl) (V.get ⟨kz, by omega, he⟩)) rfl
    · show PyData.list _ = PyData.list (((List.range (e + 1 - b)).map fun k => ct T x b (b + k) + ct T y (b + k) e).map .int)
      rw [List.map_map]
      rfl
/-- some place at which both parts come to it -/
theorem rests_is (V : Tab rs cs T) {r : Ru} (hr : r ∈ rs) {b e : Nat} (hb : b ≤ e) (he : e ≤ cs.length) {c : Int} (ho : opt cs (ct T) r b e c) : sem__law_rests [tbD T, r.d, .int (b : Nat), .int (e : Nat), .int c] = some (.ret (.bool true) false []) := by
  have h40 := V.len
  unfold sem__law_rests g__law_rests
  refine sem_eq rfl ?_
  cases r with
  | leaf n s =>
    refine rs_if (b := true) (opT_is (len_ru (.leaf n s) _ 1 rfl) rfl (eqD_int _ _)) (fun _ => ?_) fun z => by cases z
    exact run_ret (d := .bool true) rfl (thn_rt (ret_ok (Nat.le_of_ble_eq_true rfl) rfl))
  | fork n x y =>
    obtain ⟨kx, kz⟩ := V.good.known n x y hr
    obtain ⟨p, p1, p2, pc⟩ := ho
    refine rs_if (b := false) (opT_is (len_ru (.fork n x y) _ 1 rfl) rfl (eqD_int _ _)) (fun z => by cases z) fun _ => ?_
    refine rs_forOf (List.range (e + 1 - b)) (fun i => .int ((b + i : Nat) : Int)) (fun ys ρ => ∃ a5 a6 a7, ρ = [some (.sh (tbD T)), some (.sh (Ru.fork n x y).d), some (.sh (.int (b : Nat))), some (.sh (.int (e : Nat))), some (.sh (.int c)), a5, a6, a7] ∧ ∀ i ∈ ys, b + i ≠ p) ?_ ⟨none, none, none, rfl, fun _ h => by cases h⟩ ?_ ?_
    · exact bind_of (cons2_is rfl (cons2_is (op2_is rfl rfl rfl) rfl)) (rng2_nat (a := b) (n := e + 1) (by omega) (by omega))
    · rintro ys i rest ρ hxs ⟨a5, a6, a7, rfl, hno⟩
      obtain ⟨hi, hlt⟩ := range_at hxs
      refine ⟨_, rfl, rs_par (x := .int (ct T x b (b + i))) (y := .int (ct T y (b + i) e)) (cons2_is (getT_of (T := T) (k := ky x b (b + i)) rfl (keys_ky (op2_is rfl rfl rfl) rfl rfl) (V.get ⟨kx, by omega, by omega⟩)) (cons2_is (getT_of (T := T) (k := ky y (b + i) e) rfl (keys_ky (op2_is rfl rfl rfl) rfl rfl) (V.get ⟨kz, by omega, he⟩)) rfl)) ?_⟩
      refine run_if (b := decide (ct T x b (b + i) + ct T y (b + i) e = c) && ((decide ((b : Int) < (b + i : Nat)) || decide (ct T y (b + i) e < c)) && (decide (((b + i : Nat) : Int) < e) || decide (ct T x b (b + i) < c)))) (andT_of (opT_is (op2_is (x := .int (ct T x b (b + i))) (y := .int (ct T y (b + i) e)) rfl rfl rfl) rfl (eqD_int _ _)) fun _ => andT_of (orT_of (opT_is rfl rfl rfl) fun _ => opT_is rfl rfl rfl) fun _ => orT_of (opT_is rfl rfl rfl) fun _ => opT_is rfl rfl rfl) (fun _ => ?_) fun hq => ?_
      · exact run_ret (d := .bool true) rfl (turn_rt (thn_rt (ret_ok (Nat.le_of_ble_eq_true rfl) rfl)))
      · refine run_nx ⟨_, _, _, rfl, fun j hj => ?_⟩
        rcases List.mem_append.mp hj with hj | hj
        · exact hno j hj
        · rcases List.mem_singleton.mp hj with rfl
          intro z
          subst z
          have px := V.pos x kx b (by omega)
          have py := V.pos y kz e he
          have h1 : decide (ct T x b (b + j) + ct T y (b + j) e = c) = true := decide_eq_true pc.symm
          have h2 : (decide ((b : Int) < (b + j : Nat)) || decide (ct T y (b + j) e < c)) = true := by
            by_cases q : 0 < j
            · rw [decide_eq_true (show (b : Int) < (b + j : Nat) by omega)]
              rfl
            · have : j = 0 := by omega
              subst this
              rw [Nat.add_zero] at pc ⊢
              rw [decide_eq_true (show ct T y b e < c by omega), Bool.or_true]
          have h3 : (decide (((b + j : Nat) : Int) < e) || decide (ct T x b (b + j) < c)) = true := by
            by_cases q : b + j < e
            · rw [decide_eq_true (show ((b + j : Nat) : Int) < e by omega)]
              rfl
            · have : b + j = e := by omega
              rw [this] at pc ⊢
              rw [decide_eq_true (show ct T x b e < c by omega), Bool.or_true]
          rw [h1, h2, h3] at hq
          cases hq
    · rintro ρ ⟨a5, a6, a7, rfl, hno⟩
      exact absurd (show b + (p - b) = p by omega) (hno (p - b) (List.mem_range.mpr (by omega)))
theorem rests_any (V : Tab rs cs T) {r : Ru} (hr : r ∈ rs) {b e : Nat} (hb : b ≤ e) (he : e ≤ cs.length) {c : Int} (hm : leastD (optsL cs (ct T) b e r) = some c) : sem__law_rests [tbD T, r.d, .int (b : Nat), .int (e : Nat), .int c] = some (.ret (.bool true) false []) :=
  rests_is V hr hb he ((mem_opts hb).mp (leastD_is hm).1)
theorem orV_bool {fa fb : Nv → Option D} {ρ : Nv} {q : Bool} (h1 : fa ρ = some (.bool q)) (h2 : fb ρ = some (.bool true)) : orV fa fb ρ = some (.bool true) := by
  rw [orV_of h1 fun _ => h2]
  cases q <;> rfl
theorem good_is (V : Tab rs cs T) {n : Str} {b e : Nat} (hk : Ky rs cs n b e) : sem__law_good [tbD T, .list (rs.map Ru.d), .str (txt cs), kyD n b e] = some (.ret (.bool true) false []) := by
  have h40 := V.len
  unfold sem__law_good g__law_good
  refine sem_eq rfl ?_
  refine rs_asg (d := kyD n b e) (ρ' := [some (.sh (tbD T)), some (.sh (.list (rs.map Ru.d))), some (.sh (.str (txt cs))), some (.sh (kyD n b e)), some (.sh (.str n)), some (.sh (.int (b : Nat))), some (.sh (.int (e : Nat))), none, none, none, none]) rfl rfl ?_
  refine rs_set (d := .none) rfl (rs_set (d := .bool false) rfl ?_)
  have keyv : ∀ a7 a8 a9 a10, (fun ρ => ((nmW 0) ρ).bind fun d => ((fun ρ => ((nmP 3) ρ).bind tupK) ρ).bind fun ks => getTD d ks) [some (Cell.sh (tbD T)), some (.sh (.list (rs.map Ru.d))), some (.sh (.str (txt cs))), some (.sh (kyD n b e)), some (.sh (.str n)), some (.sh (.int (b : Nat))), some (.sh (.int (e : Nat))), a7, a8, a9, a10] = some (.int (ct T n b e)) := fun a7 a8 a9 a10 =>
    getT_nm (T := T) (n := n) (b := b) (e := e) rfl rfl (V.get hk)
  refine rs_forOf rs Ru.d (fun ys ρ => ∃ l q a9 a10, ρ = [some (.sh (tbD T)), some (.sh (.list (rs.map Ru.d))), some (.sh (.str (txt cs))), some (.sh (kyD n b e)), some (.sh (.str n)), some (.sh (.int (b : Nat))), some (.sh (.int (e : Nat))), some (.sh (optD l)), some (.sh (.bool q)), a9, a10] ∧ (∀ v, l = some v → ct T n b e ≤ v) ∧ ((∃ r ∈ ys, r.hd = n ∧ leastD (optsL cs (ct T) b e r) = some (ct T n b e)) → l = some (ct T n b e) ∧ q = true)) rfl ⟨none, false, none, none, rfl, fun _ z => (by cases z), fun ⟨r, h, _⟩ => (by cases h)⟩ ?_ ?_
  · rintro ys r rest ρ hxs ⟨l, q, a9, a10, rfl, hA, hB⟩
    have hr : r ∈ rs := by rw [hxs]; exact List.mem_append_right _ List.mem_cons_self
    refine ⟨_, rfl, ?_⟩
    refine run_if (b := decide (r.hd = n)) (opT_is (op2_is rfl rfl (ix0 r)) rfl (eqD_str (V.good.txok (List.mem_map.mpr ⟨r, hr, rfl⟩)) (V.good.txok hk.1))) (fun hq => ?_) fun hq => ?_
    · have hn : r.hd = n := of_decide_eq_true hq
      obtain ⟨m, hm⟩ := opts_ne (cs := cs) (C := ct T) hk.2.1 r
      have hlow : ct T n b e ≤ m := by
        rw [← hn]
        exact V.ci.low r hr b e hk.2 m ((mem_opts hk.2.1).mp (leastD_is hm).1)
      refine rs_set (d := .int m) ?_ ?_
      · unfold callD
        rw [cons2_is (callO_of (cons2_is rfl (cons2_is rfl (cons2_is rfl (cons2_is rfl (cons2_is rfl rfl))))) (options_is V hr hk.2.1 hk.2.2)) rfl]
        show (intsD ((optsL cs (ct T) b e r).map PyData.int)).bind _ = _
        rw [intsD_of]
        show (leastD _).map _ = _
        rw [hm]
        rfl
      -- the least so far
      have fin : ∀ (l' : Option Int), (∀ v, l' = some v → ct T n b e ≤ v) → ((l = some (ct T n b e) ∨ m = ct T n b e) → l' = some (ct T n b e)) → Run ((ifS (opT eqD (nmW 10) (fun ρ => ((nmW 0) ρ).bind fun d => ((fun ρ => ((nmP 3) ρ).bind tupK) ρ).bind fun ks => getTD d ks))
      (setS 8 (orV (nmP 8) (callS 5 sem__law_rests (cons2 (nmP 0) (cons2 (nmP 9) (cons2 (nmP 5) (cons2 (nmP 6) (cons2 (nmP 10) (fun _ => some [])))))))))
      (fun ρ => some (.nx ρ))) [some (Cell.sh (tbD T)), some (.sh (.list (rs.map Ru.d))), some (.sh (.str (txt cs))), some (.sh (kyD n b e)), some (.sh (.str n)), some (.sh (.int (b : Nat))), some (.sh (.int (e : Nat))), some (.sh (optD l')), some (.sh (.bool q)), some (.sh r.d), some (.sh (.int m))]) (Turn (fun ρ => ∃ l q a9 a10, ρ = [some (.sh (tbD T)), some (.sh (.list (rs.map Ru.d))), some (.sh (.str (txt cs))), some (.sh (kyD n b e)), some (.sh (.str n)), some (.sh (.int (b : Nat))), some (.sh (.int (e : Nat))), some (.sh (optD l)), some (.sh (.bool q)), a9, a10] ∧ (∀ v, l = some v → ct T n b e ≤ v) ∧ ((∃ r_1 ∈ ys ++ [r], r_1.hd = n ∧ leastD (optsL cs (ct T) b e r_1) = some (ct T n b e)) → l = some (ct T n b e) ∧ q = true)) (Thn (fun ρ => ((andV (op2 eqD (nmW 7) (fun ρ => ((nmW 0) ρ).bind fun d => ((fun ρ => ((nmP 3) ρ).bind tupK) ρ).bind fun ks => getTD d ks)) (nmP 8)) ρ).map fun d => .rt d false ρ) (Ret 4 false (· = .bool true)))) := by
        intro l' hA' hl'
        refine run_if (b := decide (m = ct T n b e)) (opT_is rfl (keyv _ _ _ _) (eqD_int _ _)) (fun hq2 => ?_) fun hq2 => ?_
        · have hmc := of_decide_eq_true hq2
          refine run_set (orV_bool (q := q) rfl (callS_of (cons2_is rfl (cons2_is rfl (cons2_is rfl (cons2_is rfl (cons2_is rfl rfl))))) (rests_any V hr hk.2.1 hk.2.2 hm))) ⟨l', true, _, _, rfl, hA', fun _ => ⟨hl' (.inr hmc), rfl⟩⟩
        · have hmc := of_decide_eq_false hq2
          refine run_nx ⟨l', q, _, _, rfl, hA', fun ⟨r1, hr1, h1, h2⟩ => ?_⟩
          rcases List.mem_append.mp hr1 with hr1 | hr1
          · obtain ⟨g1, g2⟩ := hB ⟨r1, hr1, h1, h2⟩
            exact ⟨hl' (.inl g1), g2⟩
          · rcases List.mem_singleton.mp hr1 with rfl
            rw [hm] at h2
            exact absurd (Option.some.inj h2) hmc
      cases l with
      | none =>
        refine rs_ifs (b := true) (orT_of (a := true) (b := true) rfl fun z => by cases z) (fun _ => ?_) fun z => by cases z
        refine run_set (d := .int m) rfl (fin (some m) (fun v hv => by cases hv; exact hlow) fun h => ?_)
        rcases h with h | h
        · cases h
        · rw [h]
      | some v =>
        refine rs_ifs (b := decide (m < v)) (orT_of (a := false) rfl fun _ => opT_is rfl rfl rfl) (fun hq2 => ?_) fun hq2 => ?_
        · have hmv := of_decide_eq_true hq2
          refine run_set (d := .int m) rfl (fin (some m) (fun v' hv => by cases hv; exact hlow) fun h => ?_)
          rcases h with h | h
          · have := Option.some.inj h
            have := hA v rfl
            omega
          · rw [h]
        · have hmv := of_decide_eq_false hq2
          refine run_nx (fin (some v) hA fun h => ?_)
          rcases h with h | h
          · exact h
          · have := hA v rfl
            congr 1
            omega
    · have hn := of_decide_eq_false hq
      refine run_nx ⟨l, q, _, _, rfl, hA, fun ⟨r1, hr1, h1, h2⟩ => ?_⟩
      rcases List.mem_append.mp hr1 with hr1 | hr1
      · exact hB ⟨r1, hr1, h1, h2⟩
      · rcases List.mem_singleton.mp hr1 with rfl
        exact absurd h1 hn
  · rintro ρ ⟨l, q, a9, a10, rfl, hA, hB⟩
    obtain ⟨r, hr, hn, ho⟩ := V.ci.att n hk.1 b e hk.2
    have hl : leastD (optsL cs (ct T) b e r) = some (ct T n b e) := by
      obtain ⟨m, hm, hle⟩ := leastD_ne ((mem_opts hk.2.1).mpr ho)
      have := V.ci.low r hr b e hk.2 m ((mem_opts hk.2.1).mp (leastD_is hm).1)
      rw [hn] at this
      have : m = ct T n b e := by omega
      rw [hm, this]
    obtain ⟨rfl, rfl⟩ := hB ⟨r, hr, hn, hl⟩
    exact run_ret (andV_of (a := true) (b := true) (op2_is (x := .int (ct T n b e)) rfl (keyv _ _ _ _) (by rw [eqD_int, decide_eq_true rfl])) fun _ => rfl) (ret_ok (Nat.le_of_ble_eq_true rfl) rfl)
end
end K7

namespace K7
open PySem L2 DS MD ML LB
/-! ## the keys -/
def tp (k : List Key) : D := .tuple (k.map kD)
def rowE (L : Nat) (n : Str) (b : Nat) : List (List Key) := (List.range (L + 1 - b)).map fun i => ky n b (b + i)
def rowB (L : Nat) (n : Str) : List (List Key) := (List.range (L + 1)).flatMap (rowE L n)
def rowN (L : Nat) (ws : List Str) : List (List Key) := ws.flatMap (rowB L)
theorem rowE_len {L : Nat} (n : Str) (b : Nat) : (rowE L n b).length ≤ L + 1 := by
  unfold rowE
  rw [List.length_map, List.length_range]
  omega
theorem rowB_len {L : Nat} (n : Str) : (rowB L n).length ≤ (L + 1) * (L + 1) := by
  unfold rowB
  have := flat_len (f := rowE L n) (c := L + 1) (List.range (L + 1)) fun b _ => rowE_len n b
  rw [List.length_range] at this
  exact this
theorem rowN_len {L : Nat} (ws : List Str) : (rowN L ws).length ≤ ws.length * ((L + 1) * (L + 1)) := flat_len ws fun n _ => rowB_len n
theorem mem_rowN {L : Nat} {ws : List Str} {k : List Key} : k ∈ rowN L ws ↔ ∃ n b e, n ∈ ws ∧ b ≤ e ∧ e ≤ L ∧ k = ky n b e := by
  unfold rowN rowB rowE
  simp only [List.mem_flatMap, List.mem_map, List.mem_range]
  constructor
  · rintro ⟨n, hn, b, hb, i, hi, rfl⟩
    exact ⟨n, b, b + i, hn, by omega, by omega, rfl⟩
  · rintro ⟨n, b, e, hn, h1, h2, rfl⟩
    exact ⟨n, hn, b, by omega, e - b, by omega, by rw [show b + (e - b) = e by omega]⟩
theorem nodup_rowN {L : Nat} {ws : List Str} (h : ws.Nodup) : (rowN L ws).Nodup := by
  unfold rowN
  refine List.pairwise_flatMap.mpr ⟨fun n _ => ?_, h.imp fun {n m} hnm x hx y hy z => ?_⟩
  · unfold rowB
    refine List.pairwise_flatMap.mpr ⟨fun b _ => ?_, (List.nodup_range (n := L + 1)).imp fun {b c} hbc x hx y hy z => ?_⟩
    · unfold rowE
      refine List.pairwise_map.mpr ((List.nodup_range (n := L + 1 - b)).imp fun {i j} hij z => hij ?_)
      obtain ⟨_, _, h3⟩ := ky_inj z
      omega
    · subst z
      obtain ⟨i, _, rfl⟩ := List.mem_map.mp hx
      obtain ⟨j, _, e⟩ := List.mem_map.mp hy
      obtain ⟨_, h2, _⟩ := ky_inj e
      exact hbc h2.symm
  · subst z
    obtain ⟨b, _, hx⟩ := List.mem_flatMap.mp hx
    obtain ⟨i, _, rfl⟩ := List.mem_map.mp hx
    obtain ⟨c, _, hy⟩ := List.mem_flatMap.mp hy
    obtain ⟨j, _, e⟩ := List.mem_map.mp hy
    obtain ⟨h1, _, _⟩ := ky_inj e
    exact hnm h1.symm
section
variable {rs : List Ru} {cs : List Nat} {T : TB}
theorem tab_perm (V : Tab rs cs T) : (T.map (·.1)).Perm (rowN cs.length (uniq (rs.map Ru.hd))) := by
  refine (List.perm_ext_iff_of_nodup V.ci.nd (nodup_rowN (nodup_uniq _))).mpr fun k => ?_
  rw [mem_rowN]
  constructor
  · intro h
    obtain ⟨p, hp, rfl⟩ := List.mem_map.mp h
    obtain ⟨n, b, e, c, h1, h2, rfl⟩ := V.ci.keys p hp
    exact ⟨n, b, e, mem_uniq.mpr h1, h2.1, h2.2, rfl⟩
  · rintro ⟨n, b, e, h1, h2, h3, rfl⟩
    exact List.mem_map.mpr ⟨_, lookD_mem (V.get ⟨mem_uniq.mp h1, h2, h3⟩), rfl⟩
theorem tab_len (V : Tab rs cs T) : T.length ≤ 67240 := by
  have h := (tab_perm V).length_eq
  rw [List.length_map] at h
  have h2 := rowN_len (L := cs.length) (uniq (rs.map Ru.hd))
  have h3 := len_uniq (rs.map Ru.hd)
  rw [List.length_map] at h3
  have h4 := V.good.le
  have h5 := V.len
  have h6 : (cs.length + 1) * (cs.length + 1) ≤ 41 * 41 := Nat.mul_le_mul (by omega) (by omega)
  have h7 : (uniq (rs.map Ru.hd)).length * ((cs.length + 1) * (cs.length + 1)) ≤ 40 * (41 * 41) := Nat.mul_le_mul (by omega) h6
  omega
theorem tri_ky {n : Str} (h : TxOk n) (b e : Nat) : tri (tp (ky n b e)) = true := by
  show (decide (n.length ≤ 100000) && PyData.strOk n) = true
  rw [h.2, decide_eq_true h.1]
  rfl
theorem le_ky (n m : Str) (b e c f : Nat) (h1 : PySem.W.dataLe false id (tp (ky n b e)) (tp (ky m c f)) = true) (h2 : PySem.W.dataLe false id (tp (ky m c f)) (tp (ky n b e)) = true) : tp (ky n b e) = tp (ky m c f) := by
  rw [PySem.W.dataLe_eq] at h1 h2
  have h1 : (!PySem.W.dataLt (.tuple [.str m, .int (c : Nat), .int (f : Nat)]) (.tuple [.str n, .int (b : Nat), .int (e : Nat)])) = true := h1
  have h2 : (!PySem.W.dataLt (.tuple [.str n, .int (b : Nat), .int (e : Nat)]) (.tuple [.str m, .int (c : Nat), .int (f : Nat)])) = true := h2
  have as : ∀ x y : Str, PySem.W.alike (.str x) (.str y) = true := fun x y => by simp [PySem.W.alike]
  have ai : ∀ x y : Int, PySem.W.alike (.int x) (.int y) = true := fun x y => by simp [PySem.W.alike]
  rw [PySem.W.dataLt_tuple, PySem.W.dataLt_cons (as _ _), PySem.W.dataLt_cons (ai _ _), PySem.W.dataLt_cons (ai _ _), PySem.W.dataLt_str, PySem.W.dataLt_int, PySem.W.dataLt_int, DS.eqv_str, DS.eqv_int, DS.eqv_int] at h1 h2
  have e0 : PyProof.Rows.lexLt PyProof.Rows.itemOrd (PySem.W.keyToksAll []) (PySem.W.keyToksAll []) = false := PyProof.Rows.lex_irrefl _
  rw [e0] at h1 h2
  rw [Bool.not_eq_true'] at h1 h2
  by_cases q1 : n = m
  · subst q1
    rw [if_pos (decide_eq_true rfl)] at h1 h2
    by_cases q2 : b = c
    · subst q2
      rw [if_pos (decide_eq_true rfl)] at h1 h2
      by_cases q3 : e = f
      · rw [q3]
      · rw [if_neg (by rw [decide_eq_false (by omega)]; exact Bool.false_ne_true)] at h1 h2
        have := of_decide_eq_false h1
        have := of_decide_eq_false h2
        omega
    · rw [if_neg (by rw [decide_eq_false (by omega)]; exact Bool.false_ne_true)] at h1 h2
      have := of_decide_eq_false h1
      have := of_decide_eq_false h2
      omega
  · rw [if_neg (by rw [decide_eq_false (fun z => q1 z.symm)]; exact Bool.false_ne_true)] at h1
    rw [if_neg (by rw [decide_eq_false q1]; exact Bool.false_ne_true)] at h2
    have h3 := of_decide_eq_false h1
    have h4 := of_decide_eq_false h2
    exact absurd (str_ext (List.le_antisymm h3 h4)) q1
theorem sorted_same (V : Tab rs cs T) : (T.map fun p => tp p.1).mergeSort (PySem.W.dataLe false id) = ((rowN cs.length (uniq (rs.map Ru.hd))).map tp).mergeSort (PySem.W.dataLe false id) := by
  have hp : (T.map fun p => tp p.1).Perm ((rowN cs.length (uniq (rs.map Ru.hd))).map tp) := by
    have := (tab_perm V).map tp
    rw [List.map_map] at this
    exact this
  have tot : PySem.W.TotalLe (PySem.W.dataLe false (id : D → D)) := PySem.W.sortLe_total _ _ _
  refine List.Perm.eq_of_pairwise (le := fun a b => PySem.W.dataLe false id a b = true) (fun a c ha hc h1 h2 => ?_) (PySem.W.sort_pairwise tot _) (PySem.W.sort_pairwise tot _) (((List.mergeSort_perm _ _).trans hp).trans (List.mergeSort_perm _ _).symm)
  have ha := List.mem_mergeSort.mp ha
  have hc := List.mem_mergeSort.mp hc
  have ha := hp.mem_iff.mp ha
  obtain ⟨k1, hk1, rfl⟩ := List.mem_map.mp ha
  obtain ⟨k2, hk2, rfl⟩ := List.mem_map.mp hc
  obtain ⟨n, b, e, _, _, _, rfl⟩ := mem_rowN.mp hk1
  obtain ⟨m, c, f, _, _, _, rfl⟩ := mem_rowN.mp hk2
  exact le_ky n m b e c f h1 h2
theorem key_tri (V : Tab rs cs T) : ∀ k ∈ rowN cs.length (uniq (rs.map Ru.hd)), tri (tp k) = true := fun k hk => by
  obtain ⟨n, b, e, h1, _, _, rfl⟩ := mem_rowN.mp hk
  exact tri_ky (V.good.txok (mem_uniq.mp h1)) b e
theorem sort_tab (V : Tab rs cs T) : sortD [tbD T] = some (.list (((rowN cs.length (uniq (rs.map Ru.hd))).map tp).mergeSort (PySem.W.dataLe false id))) := by
  show (decT (T.map enTD)).bind _ = _
  rw [decT_en]
  show (if _ then _ else _) = _
  have ht := topN_in V.good.ne
  have hne : T ≠ [] := fun z => by
    have := V.get (n := topN rs) (b := 0) (e := 0) ⟨ht, Nat.le_refl _, Nat.zero_le _⟩
    rw [z] at this
    cases this
  have hall : (T.all fun p => tri (.tuple (p.1.map kD))) = true := List.all_eq_true.mpr fun p hp => key_tri V p.1 ((tab_perm V).mem_iff.mp (List.mem_map.mpr ⟨p, hp, rfl⟩))
  have hl := tab_len V
  rw [if_pos ⟨hne, hall, by omega⟩]
  exact congrArg (fun l => some (PyData.list l)) (sorted_same V)
theorem rows_len (V : Tab rs cs T) : (rowN cs.length (uniq (rs.map Ru.hd))).length ≤ 67240 := by
  have h := (tab_perm V).length_eq
  rw [List.length_map] at h
  have := tab_len V
  omega
theorem sort_keys (V : Tab rs cs T) : sortD [.list ((rowN cs.length (uniq (rs.map Ru.hd))).map tp)] = some (.list (((rowN cs.length (uniq (rs.map Ru.hd))).map tp).mergeSort (PySem.W.dataLe false id))) := by
  show (if _ then _ else _) = _
  have hall : srtOk ((rowN cs.length (uniq (rs.map Ru.hd))).map tp) = true := by
    refine Bool.or_eq_true_iff.mpr (.inl ?_)
    rw [List.all_map]
    exact List.all_eq_true.mpr fun k hk => key_tri V k hk
  have := rows_len V
  rw [if_pos ⟨hall, by rw [List.length_map]; omega⟩]
theorem ne_same {d : D} (h : SeqAt.shaped d = true) (e : PyData.eqv d d = true) : neD d d = some (.bool false) := by
  unfold neD
  rw [if_pos ⟨h, h⟩, e]
  rfl
theorem ne_sorted (V : Tab rs cs T) : neD (.list (((rowN cs.length (uniq (rs.map Ru.hd))).map tp).mergeSort (PySem.W.dataLe false id))) (.list (((rowN cs.length (uniq (rs.map Ru.hd))).map tp).mergeSort (PySem.W.dataLe false id))) = some (.bool false) := by
  have hin : ∀ d ∈ ((rowN cs.length (uniq (rs.map Ru.hd))).map tp).mergeSort (PySem.W.dataLe false id), ∃ n b e, TxOk n ∧ d = .tuple [.str n, .int ((b : Nat) : Int), .int ((e : Nat) : Int)] := fun d hd => by
    obtain ⟨k, hk, rfl⟩ := List.mem_map.mp (List.mem_mergeSort.mp hd)
    obtain ⟨n, b, e, h1, _, _, rfl⟩ := mem_rowN.mp hk
    exact ⟨n, b, e, V.good.txok (mem_uniq.mp h1), rfl⟩
  refine ne_same (shaped_fine (n := 2) ?_ (by decide)) ?_
  · show List.all _ (fine 1) = true
    refine List.all_eq_true.mpr fun d hd => ?_
    obtain ⟨n, b, e, h1, rfl⟩ := hin d hd
    show List.all _ (fine 0) = true
    simp [fine, sgOk]
    exact h1
  · rw [PyData.eqv]
    refine eqvAll_self _ fun d hd => ?_
    obtain ⟨n, b, e, h1, rfl⟩ := hin d hd
    rw [PyData.eqv]
    simp [PyData.eqvAll, DS.eqv_str, DS.eqv_int]
end
/-! ## steps -/
theorem putS_of {i : Nat} {fk fv : Nv → Option D} {ρ : Nv} {k : Key} {v : V} {kvs : List (Key × V)} {c : Cell} (h1 : fk ρ = some (kD k)) (h2 : fv ρ = some (sD v)) (hv : flat v = true) (hc : ρ[i]? = some (some c)) (hm : c.mine = true) (hg : c.got = .dict (kvs.map enK)) (hf : (kvs.all fun p => flat p.2) = true) (hl : kvs.length < 100000) :
    putS i fk fv ρ = some (.nx (ρ.set i (some (c.put (.dict ((putK kvs k v).map enK)))))) := by
  unfold putS
  rw [h2, Option.bind_some, h1, Option.bind_some]
  unfold mutS
  rw [hc]
  show (if _ then _ else _) = _
  rw [if_pos hm, hg]
  show Option.map _ ((keyD (kD k)).bind _) = _
  rw [keyD_k]
  show Option.map _ ((flatD (sD v)).bind _) = _
  rw [flatD_s hv]
  show Option.map _ ((decK (kvs.map enK)).bind _) = _
  rw [decK_en hf]
  show Option.map _ (if _ then _ else _) = _
  rw [if_pos hl]
  rfl
theorem run_keys {j : Nat} {a : D → Nv → Option Nv} {g : Nv → Option SR} {ρ : Nv} {kvs : List (Key × V)} {ψ : SR → Prop} (hc : ρ[j]? = some (some (.sh (.dict (kvs.map enK))))) (hf : (kvs.all fun p => flat p.2) = true) (h : Run (forS a g (keysLD kvs) ρ) (fun r => ∃ ρ', r = .nx ρ' ∧ ψ (.nx ρ'))) : Run (keysS j a g ρ) ψ := by
  obtain ⟨r, e, ρ', rfl, q⟩ := h
  refine ⟨.nx ρ', ?_, q⟩
  unfold keysS
  rw [hc]
  show (decK (kvs.map enK)).bind _ = _
  rw [decK_en hf]
  show Option.bind (forS a g (keysLD kvs) ρ) noExc = _
  rw [e]
  rfl
theorem bools_true : ∀ (xs : List (List Key)), boolsD (xs.map fun _ => PyData.bool true) = some (xs.map fun _ => true)
  | [] => rfl
  | x :: r => by
    show (boolsD (r.map fun _ => PyData.bool true)).map _ = _
    rw [bools_true r]
    rfl
abbrev stL (ns : List Int) (b : Int) (rs : List Ru) (cs : List Nat) (T : TB) (x6 x7 x8 x9 x10 x11 x12 x13 : Option Cell) : Nv := [some (.sh (.list (ns.map .int))), some (.sh (.int b)), some (.sh (.list (rs.map Ru.d))), some (.sh (.str (txt cs))), some (.sh (.list (rs.map Ru.d))), some (.sh (tbD T)), x6, x7, x8, x9, x10, x11, x12, x13]
def nmD (ws : List Str) : D := .dict ((ws.map nmE).map enK)
theorem law_is (ns : List Int) : sem_law [.list (ns.map .int)] = some (.ret (.bool true) false []) := by
  unfold sem_law g_law
  refine sem_eq rfl ?_
  refine rs_set (d := .int (AT ns 0)) (call_at rfl rfl (by omega)) ?_
  generalize AT ns 0 = b
  obtain ⟨rs, hrs, G⟩ := rules_is ns b
  refine rs_set (d := .list (rs.map Ru.d)) (callO_of (cons2_is rfl (cons2_is rfl rfl)) hrs) ?_
  obtain ⟨cs, hcs, hcl, hsg⟩ := text_is ns b
  refine rs_set (d := .str (txt cs)) (callS_of (cons2_is rfl (cons2_is rfl rfl)) hcs) ?_
  refine rs_set (d := .list (rs.map Ru.d)) rfl ?_
  obtain ⟨T, hT, V⟩ := tab_of G hcl hsg
  refine rs_set (d := tbD T) (callS_of (cons2_is rfl (cons2_is rfl rfl)) hT) ?_
  refine rs_setN (d := .dict []) rfl ?_
  have gle := G.le
  refine rs_forOf rs Ru.d (fun ys ρ => ∃ x7, ρ = stL ns b rs cs T (some (.ow (nmD ((ys.map Ru.hd).foldl addN [])))) x7 none none none none none none) rfl ⟨none, rfl⟩ ?_ ?_
  · rintro ys r rest ρ hxs ⟨x7, rfl⟩
    have hyl : ys.length ≤ 40 := by
      have := congrArg List.length hxs
      rw [List.length_append] at this
      omega
    have hfl := len_fold (ys.map Ru.hd) []
    rw [List.length_map, List.length_nil] at hfl
    refine ⟨_, rfl, ⟨_, putS_of (k := .inr r.hd) (v := .bl true) (kvs := ((ys.map Ru.hd).foldl addN []).map nmE) (c := .ow (nmD ((ys.map Ru.hd).foldl addN []))) (op2_is rfl rfl (ix0 r)) rfl rfl rfl rfl rfl (flat_nm _) (by rw [List.length_map]; omega), some (.sh r.d), ?_⟩⟩
    rw [put_nm, List.map_append, List.foldl_append]
    rfl
  rintro ρ ⟨x7, rfl⟩
  have hu : (rs.map Ru.hd).foldl addN [] = uniq (rs.map Ru.hd) := rfl
  rw [hu]
  have hul := len_uniq (rs.map Ru.hd)
  rw [List.length_map] at hul
  have klen := rows_len V
  have rlen : ∀ ys zs, uniq (rs.map Ru.hd) = ys ++ zs → (rowN cs.length ys).length ≤ 67240 := fun ys zs h => by
    rw [h] at klen
    unfold rowN at klen ⊢
    rw [List.flatMap_append, List.length_append] at klen
    omega
  have ktri := key_tri V
  have hst := sort_tab V
  have hsk := sort_keys V
  have hne := ne_sorted V
  have hmem : ∀ k, k ∈ rowN cs.length (uniq (rs.map Ru.hd)) → ∃ n b e, Ky rs cs n b e ∧ k = ky n b e := fun k hk => by
    obtain ⟨n, b, e, h1, h2, h3, h4⟩ := mem_rowN.mp hk
    exact ⟨n, b, e, ⟨mem_uniq.mp h1, h2, h3⟩, h4⟩
  generalize hU : uniq (rs.map Ru.hd) = us at *
  refine rs_setN (d := .list []) rfl ?_
  refine run_seq (run_share (ρ' := stL ns b rs cs T (some (.sh (nmD us))) x7 (some (.ow (.list []))) none none none none none) rfl ?_)
  have e4 : ∀ x6 x7 x8 x9 x10 x11 x12 x13, (cons2 (op2 addD (callD lenD (cons2 (nmW 3) (fun _ => some []))) (fun _ => some (.int 1))) (fun _ => some [])) (stL ns b rs cs T x6 x7 x8 x9 x10 x11 x12 x13) = some [.int ((cs.length + 1 : Nat) : Int)] := fun _ _ _ _ _ _ _ _ => cons2_is (op2_is (len_txt (by omega) rfl) rfl rfl) rfl
  refine run_keys (kvs := us.map nmE) rfl (flat_nm _) ?_
  refine run_forOf (x := some (keysLD (us.map nmE))) us .str (fun ys ρ => ∃ x9 x10 x11, ρ = stL ns b rs cs T (some (.sh (nmD us))) x7 (some (.ow (.list ((rowN cs.length ys).map tp)))) x9 x10 x11 none none) (congrArg some (by unfold keysLD; rw [List.map_map]; rfl)) ⟨none, none, none, rfl⟩ ?_ ?_
  · rintro ys n zs ρ hxs ⟨x9, x10, x11, rfl⟩
    have hl1 := rlen (ys ++ [n]) zs (by rw [hxs, List.append_assoc]; rfl)
    unfold rowN at hl1
    rw [List.flatMap_append, List.flatMap_singleton] at hl1
    refine ⟨_, rfl, ?_⟩
    refine run_forOf (List.range (cs.length + 1)) (fun i => .int (i : Nat)) (fun bs ρ => ∃ x10 x11, ρ = stL ns b rs cs T (some (.sh (nmD us))) x7 (some (.ow (.list ((rowN cs.length ys ++ bs.flatMap (rowE cs.length n)).map tp)))) (some (.sh (.str n))) x10 x11 none none) (bind_of (e4 _ _ _ _ _ _ _ _) (rng1_nat (by omega))) ⟨x10, x11, by rw [List.flatMap_nil, List.append_nil]; rfl⟩ ?_ ?_
    · rintro bs c rest ρ hbs ⟨x10, x11, rfl⟩
      obtain ⟨hcl2, hlt⟩ := range_at hbs
      have hl2 : (rowN cs.length ys ++ (bs.flatMap (rowE cs.length n) ++ rowE cs.length n c)).length ≤ 67240 := by
        have : rowB cs.length n = bs.flatMap (rowE cs.length n) ++ (rowE cs.length n c ++ rest.flatMap (rowE cs.length n)) := by
          unfold rowB
          rw [hbs, List.flatMap_append, List.flatMap_cons]
        rw [this] at hl1
        rw [List.length_append, List.length_append] at hl1 ⊢
        rw [List.length_append] at hl1
        have hl1 : (rowN cs.length ys).length + _ ≤ _ := hl1
        omega
      refine ⟨_, rfl, ?_⟩
      refine run_forOf (List.range (cs.length + 1 - c)) (fun i => .int ((c + i : Nat) : Int)) (fun es ρ => ∃ x11, ρ = stL ns b rs cs T (some (.sh (nmD us))) x7 (some (.ow (.list ((rowN cs.length ys ++ (bs.flatMap (rowE cs.length n) ++ es.map fun i => ky n c (c + i))).map tp)))) (some (.sh (.str n))) (some (.sh (.int (c : Nat)))) x11 none none) (bind_of (cons2_is rfl (cons2_is (op2_is (len_txt (by omega) rfl) rfl rfl) rfl)) (rng2_nat (a := c) (n := cs.length + 1) (by omega) (by omega))) ⟨x11, by rw [List.map_nil, List.append_nil]; rfl⟩ ?_ ?_
      · rintro es i rest3 ρ hes ⟨x11, rfl⟩
        have hl3 : (rowN cs.length ys ++ (bs.flatMap (rowE cs.length n) ++ es.map fun i => ky n c (c + i))).length < 67240 := by
          have : rowE cs.length n c = (es.map fun i => ky n c (c + i)) ++ ky n c (c + i) :: (rest3.map fun i => ky n c (c + i)) := by
            unfold rowE
            rw [hes, List.map_append, List.map_cons]
          rw [this] at hl2
          simp only [List.length_append, List.length_cons] at hl2 ⊢
          omega
        refine ⟨_, rfl, ?_⟩
        refine run_app (xs := (rowN cs.length ys ++ (bs.flatMap (rowE cs.length n) ++ es.map fun i => ky n c (c + i))).map tp) (c := .ow (.list ((rowN cs.length ys ++ (bs.flatMap (rowE cs.length n) ++ es.map fun i => ky n c (c + i))).map tp))) (d := tp (ky n c (c + i))) (mkT_of (cons2_is rfl (cons2_is rfl (cons2_is rfl rfl)))) rfl rfl rfl (by rw [List.length_map]; omega) ⟨some (.sh (.int ((c + i : Nat) : Int))), ?_⟩
        have e2 : (rowN cs.length ys ++ (bs.flatMap (rowE cs.length n) ++ (es ++ [i]).map fun i => ky n c (c + i))).map tp = (rowN cs.length ys ++ (bs.flatMap (rowE cs.length n) ++ es.map fun i => ky n c (c + i))).map tp ++ [tp (ky n c (c + i))] := by
          rw [List.map_append (l₁ := es), ← List.append_assoc, ← List.append_assoc, List.map_append, List.append_assoc (rowN cs.length ys)]
          rfl
        unfold stL
        rw [e2]
        rfl
      · rintro ρ ⟨x11, rfl⟩
        refine ⟨some (.sh (.int (c : Nat))), x11, ?_⟩
        rw [List.flatMap_append, List.flatMap_singleton]
        rfl
    · rintro ρ ⟨x10, x11, rfl⟩
      refine ⟨some (.sh (.str n)), x10, x11, ?_⟩
      unfold rowN
      rw [List.flatMap_append, List.flatMap_singleton]
      rfl
  rintro ρ ⟨x9, x10, x11, rfl⟩
  refine ⟨_, rfl, ?_⟩
  generalize hR : rowN cs.length us = R at *
  show Run (seqS _ _ _) _
  refine rs_if (b := false) (orT_of (a := false) (b := false) (notT_of (a := true) rfl) fun _ => orT_of (a := false) (b := false) (opT_is ?_ ?_ hne) fun _ => opT_is rfl rfl (ne_same (shaped_rules G.ok) (eqv_rules rs))) (fun z => by cases z) fun _ => ?_
  · unfold callD
    rw [cons2_is rfl rfl]
    exact hst
  · unfold callD
    rw [cons2_is rfl rfl]
    exact hsk
  refine run_seq (run_share (ρ' := stL ns b rs cs T (some (.sh (nmD us))) x7 (some (.sh (.list (R.map tp)))) x9 x10 x11 none none) rfl ?_)
  refine run_forOf R tp (fun ys ρ => ∃ x12, ρ = stL ns b rs cs T (some (.sh (nmD us))) x7 (some (.sh (.list (R.map tp)))) x9 x10 x11 x12 none ∧ noMine [x12] 0 = true) rfl ⟨none, rfl, rfl⟩ ?_ ?_
  · rintro ys k zs ρ hxs ⟨x12, rfl, _⟩
    obtain ⟨n, c, e, hk, rfl⟩ := hmem k (by rw [hxs]; exact List.mem_append_right _ List.mem_cons_self)
    have hv : ∀ x12, (fun ρ => ((nmW 5) ρ).bind fun d => ((fun ρ => ((nmP 12) ρ).bind tupK) ρ).bind fun ks => getTD d ks) (stL ns b rs cs T (some (.sh (nmD us))) x7 (some (.sh (.list (R.map tp)))) x9 x10 x11 (some (.sh (tp (ky n c e)))) x12) = some (.int (ct T n c e)) := fun x12 => getT_nm (T := T) (n := n) (b := c) (e := e) rfl rfl (V.get hk)
    have hnn := V.ci.nn n hk.1 c e hk.2
    refine ⟨_, rfl, ?_⟩
    refine run_if (b := false) (orT_of (a := false) (b := false) (notT_of (a := true) (trT_of (d := .bool true) ?_ rfl)) fun _ => orT_of (a := false) (b := false) (trT_of (d := .bool false) ?_ rfl) fun _ => opT_is (x := .int (ct T n c e)) (y := .int 0) (hv none) rfl ?_) (fun z => by cases z) fun _ => run_nx ⟨_, rfl, rfl⟩
    · show Option.map _ ((fun ρ => ((nmW 5) ρ).bind fun d => ((fun ρ => ((nmP 12) ρ).bind tupK) ρ).bind fun ks => getTD d ks) (stL ns b rs cs T (some (.sh (nmD us))) x7 (some (.sh (.list (R.map tp)))) x9 x10 x11 (some (.sh (tp (ky n c e)))) none)) = _
      rw [hv]
      rfl
    · show Option.map _ ((fun ρ => ((nmW 5) ρ).bind fun d => ((fun ρ => ((nmP 12) ρ).bind tupK) ρ).bind fun ks => getTD d ks) (stL ns b rs cs T (some (.sh (nmD us))) x7 (some (.sh (.list (R.map tp)))) x9 x10 x11 (some (.sh (tp (ky n c e)))) none)) = _
      rw [hv]
      rfl
    · show some (PyData.bool (decide (ct T n c e < 0))) = _
      rw [decide_eq_false (by omega)]
  rintro ρ ⟨x12, rfl, hx12⟩
  show Run (seqS _ _ _) _
  obtain ⟨t, ht, hq⟩ := mend_is V hT
  have hk : Ky rs cs (topN rs) 0 cs.length := ⟨topN_in G.ne, Nat.zero_le _, Nat.le_refl _⟩
  have htop : ∀ ρ : Nv, nmW 2 ρ = some (.list (rs.map Ru.d)) → op2 ixD (op2 ixD (nmW 2) (fun _ => some (.int 0))) (fun _ => some (.int 0)) ρ = some (.str (topN rs)) := fun ρ h => by
    have gne := G.ne
    cases rs with
    | nil => exact absurd gne (by decide)
    | cons r rest => exact op2_is (op2_is h rfl (at0 r.d (rest.map Ru.d))) rfl (ix0 r)
  refine rs_if (b := !true) (notT_of (trT_of (d := .bool true) ?_ rfl)) (fun z => by cases z) fun _ => ?_
  · unfold callD
    have e1 : lcV 12 (fun ρ => ((nmW 8) ρ).bind asL) (fun _ => some true) (callS 4 sem__law_good (cons2 (nmP 5) (cons2 (nmP 2) (cons2 (nmP 3) (cons2 (nmP 12) (fun _ => some [])))))) (stL ns b rs cs T (some (.sh (nmD us))) x7 (some (.sh (.list (R.map tp)))) x9 x10 x11 x12 none) = some (.list (R.map fun _ => .bool true)) := by
      refine lcV_to R tp (fun _ => .bool true) rfl hx12 (by omega) fun k hk => ?_
      obtain ⟨n, c, e, hk2, rfl⟩ := hmem k hk
      exact callS_of (cons2_is rfl (cons2_is rfl (cons2_is rfl (cons2_is rfl rfl)))) (good_is V hk2)
    rw [cons2_is e1 rfl]
    show (boolsD _).map _ = _
    rw [bools_true]
    show some (PyData.bool ((R.map fun _ => true).all id)) = _
    congr 2
    exact List.all_eq_true.mpr fun x hx => by
      obtain ⟨_, _, rfl⟩ := List.mem_map.mp hx
      rfl
  refine rs_set (callS_of (cons2_is rfl (cons2_is rfl rfl)) ht) ?_
  refine run_ret (andV_of (a := true) (b := true) rfl fun _ => andV_of (a := true) (b := true) (op2_is (x := .int 2) (y := .int 2) rfl rfl (eqD_int 2 2)) fun _ => op2_is (x := .int (ct T (topN rs) 0 cs.length)) (op2_is rfl rfl rfl) (getT_of (T := T) (k := ky (topN rs) 0 cs.length) rfl (keys_ky (htop _ rfl) rfl (len_txt (by omega) rfl)) (V.get hk)) (by rw [eqD_int, decide_eq_true rfl])) (ret_ok (Nat.le_of_ble_eq_true rfl) rfl)
end K7

namespace K7
open PySem L2 DS MD ML LB
theorem law_sem : ∀ ds o, semLaw 63 ds = some o → sem_law ds = some o := by
  intro ds o h
  unfold semLaw at h
  split at h
  · rename_i hx
    obtain ⟨ns, rfl, _⟩ := hx
    cases h
    exact law_is ns
  · cases h
theorem all_mk {l : PySem.W.OpenLaw} {w : World} {K : PySem.W.Frag} {h : Heap} {mg : Str → Option Value} {fa : Addr} {f_is_sign : Addr} {od_is_sign an_is_sign : Option Addr} {sl_is_sign : Array (Option Value)} {oc_is_sign kV_is_sign dc_is_sign pm_is_sign ct_is_sign : Value} {cd_is_sign : Value}
    {f_is_name : Addr} {od_is_name an_is_name : Option Addr} {sl_is_name : Array (Option Value)} {oc_is_name kV_is_name dc_is_name pm_is_name ct_is_name : Value} {c_is_name P_is_name : Addr} {og_is_name : Value} {oh_is_name : Option Addr} {vs_is_name : Array Value} {oi_is_name : Array (Option Value)}
    {f_is_rule : Addr} {od_is_rule an_is_rule : Option Addr} {sl_is_rule : Array (Option Value)} {oc_is_rule kV_is_rule dc_is_rule pm_is_rule ct_is_rule : Value} {c_is_rule P_is_rule : Addr} {og_is_rule : Value} {oh_is_rule : Option Addr} {vs_is_rule : Array Value} {oi_is_rule : Array (Option Value)}
    {f_is_fork_rule : Addr} {od_is_fork_rule an_is_fork_rule : Option Addr} {sl_is_fork_rule : Array (Option Value)} {oc_is_fork_rule kV_is_fork_rule dc_is_fork_rule pm_is_fork_rule ct_is_fork_rule : Value} {cd_is_fork_rule : Value}
    {f_need_only_rules : Addr} {od_need_only_rules an_need_only_rules : Option Addr} {sl_need_only_rules : Array (Option Value)} {oc_need_only_rules kV_need_only_rules dc_need_only_rules pm_need_only_rules ct_need_only_rules : Value} {cd_need_only_rules : Value}
    {f_names_of : Addr} {od_names_of an_names_of : Option Addr} {sl_names_of : Array (Option Value)} {oc_names_of kV_names_of dc_names_of pm_names_of ct_names_of : Value} {cd_names_of : Value}
    {f_need_known_names : Addr} {od_need_known_names an_need_known_names : Option Addr} {sl_need_known_names : Array (Option Value)} {oc_need_known_names kV_need_known_names dc_need_known_names pm_need_known_names ct_need_known_names : Value} {cd_need_known_names : Value}
    {f_length_by : Addr} {od_length_by an_length_by : Option Addr} {sl_length_by : Array (Option Value)} {oc_length_by kV_length_by dc_length_by pm_length_by ct_length_by : Value} {cd_length_by : Value}
    {f_keep_lesser : Addr} {od_keep_lesser an_keep_lesser : Option Addr} {sl_keep_lesser : Array (Option Value)} {oc_keep_lesser kV_keep_lesser dc_keep_lesser pm_keep_lesser ct_keep_lesser : Value} {cd_keep_lesser : Value}
    {f_lengths_of : Addr} {od_lengths_of an_lengths_of : Option Addr} {sl_lengths_of : Array (Option Value)} {oc_lengths_of kV_lengths_of dc_lengths_of pm_lengths_of ct_lengths_of : Value} {cd_lengths_of : Value}
    {f_need_ends : Addr} {od_need_ends an_need_ends : Option Addr} {sl_need_ends : Array (Option Value)} {oc_need_ends kV_need_ends dc_need_ends pm_need_ends ct_need_ends : Value} {cd_need_ends : Value}
    {f_need_rules : Addr} {od_need_rules an_need_rules : Option Addr} {sl_need_rules : Array (Option Value)} {oc_need_rules kV_need_rules dc_need_rules pm_need_rules ct_need_rules : Value} {cd_need_rules : Value}
    {f_need_text : Addr} {od_need_text an_need_text : Option Addr} {sl_need_text : Array (Option Value)} {oc_need_text kV_need_text dc_need_text pm_need_text ct_need_text : Value} {cd_need_text : Value}
    {f_top_of : Addr} {od_top_of an_top_of : Option Addr} {sl_top_of : Array (Option Value)} {oc_top_of kV_top_of dc_top_of pm_top_of ct_top_of : Value} {cd_top_of : Value}
    {f_enter : Addr} {od_enter an_enter : Option Addr} {sl_enter : Array (Option Value)} {oc_enter kV_enter dc_enter pm_enter ct_enter : Value} {cd_enter : Value}
    {f_leaf_cost : Addr} {od_leaf_cost an_leaf_cost : Option Addr} {sl_leaf_cost : Array (Option Value)} {oc_leaf_cost kV_leaf_cost dc_leaf_cost pm_leaf_cost ct_leaf_cost : Value} {cd_leaf_cost : Value}
    {f_inside_cost : Addr} {od_inside_cost an_inside_cost : Option Addr} {sl_inside_cost : Array (Option Value)} {oc_inside_cost kV_inside_cost dc_inside_cost pm_inside_cost ct_inside_cost : Value} {cd_inside_cost : Value}
    {f_inside_costs : Addr} {od_inside_costs an_inside_costs : Option Addr} {sl_inside_costs : Array (Option Value)} {oc_inside_costs kV_inside_costs dc_inside_costs pm_inside_costs ct_inside_costs : Value} {cd_inside_costs : Value}
    {f_edge_cost : Addr} {od_edge_cost an_edge_cost : Option Addr} {sl_edge_cost : Array (Option Value)} {oc_edge_cost kV_edge_cost dc_edge_cost pm_edge_cost ct_edge_cost : Value} {cd_edge_cost : Value}
    {f_settle : Addr} {od_settle an_settle : Option Addr} {sl_settle : Array (Option Value)} {oc_settle kV_settle dc_settle pm_settle ct_settle : Value} {cd_settle : Value}
    {f_costs : Addr} {od_costs an_costs : Option Addr} {sl_costs : Array (Option Value)} {oc_costs kV_costs dc_costs pm_costs ct_costs : Value} {cd_costs : Value}
    {f_is_fork : Addr} {od_is_fork an_is_fork : Option Addr} {sl_is_fork : Array (Option Value)} {oc_is_fork kV_is_fork dc_is_fork pm_is_fork ct_is_fork : Value} {cd_is_fork : Value}
    {f_fork_by : Addr} {od_fork_by an_fork_by : Option Addr} {sl_fork_by : Array (Option Value)} {oc_fork_by kV_fork_by dc_fork_by pm_fork_by ct_fork_by : Value} {cd_fork_by : Value}
    {f_kept_place : Addr} {od_kept_place an_kept_place : Option Addr} {sl_kept_place : Array (Option Value)} {oc_kept_place kV_kept_place dc_kept_place pm_kept_place ct_kept_place : Value} {cd_kept_place : Value}
    {f_step_by : Addr} {od_step_by an_step_by : Option Addr} {sl_step_by : Array (Option Value)} {oc_step_by kV_step_by dc_step_by pm_step_by ct_step_by : Value} {cd_step_by : Value}
    {f_told_step : Addr} {od_told_step an_told_step : Option Addr} {sl_told_step : Array (Option Value)} {oc_told_step kV_told_step dc_told_step pm_told_step ct_told_step : Value} {cd_told_step : Value}
    {f_told_steps : Addr} {od_told_steps an_told_steps : Option Addr} {sl_told_steps : Array (Option Value)} {oc_told_steps kV_told_steps dc_told_steps pm_told_steps ct_told_steps : Value} {cd_told_steps : Value}
    {f_told_tree : Addr} {od_told_tree an_told_tree : Option Addr} {sl_told_tree : Array (Option Value)} {oc_told_tree kV_told_tree dc_told_tree pm_told_tree ct_told_tree : Value} {c_told_tree P_told_tree : Addr} {og_told_tree : Value} {oh_told_tree : Option Addr} {vs_told_tree : Array Value} {oi_told_tree : Array (Option Value)}
    {f_mend : Addr} {od_mend an_mend : Option Addr} {sl_mend : Array (Option Value)} {oc_mend kV_mend dc_mend pm_mend ct_mend : Value} {cd_mend : Value}
    {f__law_at : Addr} {od__law_at an__law_at : Option Addr} {sl__law_at : Array (Option Value)} {oc__law_at kV__law_at dc__law_at pm__law_at ct__law_at : Value} {cd__law_at : Value}
    {f__law_word : Addr} {od__law_word an__law_word : Option Addr} {sl__law_word : Array (Option Value)} {oc__law_word kV__law_word dc__law_word pm__law_word ct__law_word : Value} {cd__law_word : Value}
    {f__law_sign : Addr} {od__law_sign an__law_sign : Option Addr} {sl__law_sign : Array (Option Value)} {oc__law_sign kV__law_sign dc__law_sign pm__law_sign ct__law_sign : Value} {cd__law_sign : Value}
    {f__law_rules : Addr} {od__law_rules an__law_rules : Option Addr} {sl__law_rules : Array (Option Value)} {oc__law_rules kV__law_rules dc__law_rules pm__law_rules ct__law_rules : Value} {cd__law_rules : Value}
    {f__law_text : Addr} {od__law_text an__law_text : Option Addr} {sl__law_text : Array (Option Value)} {oc__law_text kV__law_text dc__law_text pm__law_text ct__law_text : Value} {cd__law_text : Value}
    {f__law_options : Addr} {od__law_options an__law_options : Option Addr} {sl__law_options : Array (Option Value)} {oc__law_options kV__law_options dc__law_options pm__law_options ct__law_options : Value} {cd__law_options : Value}
    {f__law_rests : Addr} {od__law_rests an__law_rests : Option Addr} {sl__law_rests : Array (Option Value)} {oc__law_rests kV__law_rests dc__law_rests pm__law_rests ct__law_rests : Value} {cd__law_rests : Value}
    {f__law_good : Addr} {od__law_good an__law_good : Option Addr} {sl__law_good : Array (Option Value)} {oc__law_good kV__law_good dc__law_good pm__law_good ct__law_good : Value} {cd__law_good : Value}
    {f_law : Addr} {od_law an_law : Option Addr} {sl_law : Array (Option Value)} {oc_law kV_law dc_law pm_law ct_law : Value} {cd_law : Value}
    {tk_BLANK : Tok} {tk_MOST_LETTERS : Tok} {tk_MOST_RULES : Tok} {tk_MOST_SIGNS : Tok} {tk_PERCENT : Tok} {tk_TILDE : Tok}
    (X : K.In h) (G : h.Ns mainGlobals mg) (hfa : mg "law" = some (.ref fa)) (TF : ∀ (x : Str) (c P : Addr), x ∈ (["is_name", "is_rule", "told_tree"] : List Str) → PySem.W.tabIn K x = some (c, P) → PySem.W.CodeHd h c P ∧ h.get? P = some { cls := .none, data := .fields #[] })
    (a_is_sign : PySem.W.nsIn K mainGlobals "is_sign" = some (some (.ref f_is_sign))) (l_is_sign : K.lookup f_is_sign = some ⟨oc_is_sign, od_is_sign, .func (PySem.W.fnOf "is_sign" "is_sign" (defArgs s_is_sign) (defBody s_is_sign) (defScope s_is_sign) .none kV_is_sign dc_is_sign pm_is_sign an_is_sign cd_is_sign ct_is_sign), sl_is_sign⟩) (q_is_sign : PySem.W.codeIn K cd_is_sign "is_sign" = true) (k_is_sign : PySem.W.keepIn K (.ref f_is_sign) = true)
    (a_is_name : PySem.W.nsIn K mainGlobals "is_name" = some (some (.ref f_is_name))) (l_is_name : K.lookup f_is_name = some ⟨oc_is_name, od_is_name, .func (PySem.W.fnOf "is_name" "is_name" (defArgs s_is_name) (defBody s_is_name) (defScope s_is_name) .none kV_is_name dc_is_name pm_is_name an_is_name (.ref c_is_name) ct_is_name), sl_is_name⟩) (q_is_name : PySem.W.codeIn K (.ref c_is_name) "is_name" = true) (k_is_name : PySem.W.keepIn K (.ref f_is_name) = true)
    (g_is_name : K.lookup c_is_name = some ⟨og_is_name, oh_is_name, .fields vs_is_name, oi_is_name⟩) (v_is_name : vs_is_name[11]? = some (.ref P_is_name)) (n_is_name : K.lookup P_is_name = none)
    (a_is_rule : PySem.W.nsIn K mainGlobals "is_rule" = some (some (.ref f_is_rule))) (l_is_rule : K.lookup f_is_rule = some ⟨oc_is_rule, od_is_rule, .func (PySem.W.fnOf "is_rule" "is_rule" (defArgs s_is_rule) (defBody s_is_rule) (defScope s_is_rule) .none kV_is_rule dc_is_rule pm_is_rule an_is_rule (.ref c_is_rule) ct_is_rule), sl_is_rule⟩) (q_is_rule : PySem.W.codeIn K (.ref c_is_rule) "is_rule" = true) (k_is_rule : PySem.W.keepIn K (.ref f_is_rule) = true)
    (g_is_rule : K.lookup c_is_rule = some ⟨og_is_rule, oh_is_rule, .fields vs_is_rule, oi_is_rule⟩) (v_is_rule : vs_is_rule[11]? = some (.ref P_is_rule)) (n_is_rule : K.lookup P_is_rule = none)
    (a_is_fork_rule : PySem.W.nsIn K mainGlobals "is_fork_rule" = some (some (.ref f_is_fork_rule))) (l_is_fork_rule : K.lookup f_is_fork_rule = some ⟨oc_is_fork_rule, od_is_fork_rule, .func (PySem.W.fnOf "is_fork_rule" "is_fork_rule" (defArgs s_is_fork_rule) (defBody s_is_fork_rule) (defScope s_is_fork_rule) .none kV_is_fork_rule dc_is_fork_rule pm_is_fork_rule an_is_fork_rule cd_is_fork_rule ct_is_fork_rule), sl_is_fork_rule⟩) (q_is_fork_rule : PySem.W.codeIn K cd_is_fork_rule "is_fork_rule" = true) (k_is_fork_rule : PySem.W.keepIn K (.ref f_is_fork_rule) = true)
    (a_need_only_rules : PySem.W.nsIn K mainGlobals "need_only_rules" = some (some (.ref f_need_only_rules))) (l_need_only_rules : K.lookup f_need_only_rules = some ⟨oc_need_only_rules, od_need_only_rules, .func (PySem.W.fnOf "need_only_rules" "need_only_rules" (defArgs s_need_only_rules) (defBody s_need_only_rules) (defScope s_need_only_rules) .none kV_need_only_rules dc_need_only_rules pm_need_only_rules an_need_only_rules cd_need_only_rules ct_need_only_rules), sl_need_only_rules⟩) (q_need_only_rules : PySem.W.codeIn K cd_need_only_rules "need_only_rules" = true) (k_need_only_rules : PySem.W.keepIn K (.ref f_need_only_rules) = true)
    (a_names_of : PySem.W.nsIn K mainGlobals "names_of" = some (some (.ref f_names_of))) (l_names_of : K.lookup f_names_of = some ⟨oc_names_of, od_names_of, .func (PySem.W.fnOf "names_of" "names_of" (defArgs s_names_of) (defBody s_names_of) (defScope s_names_of) .none kV_names_of dc_names_of pm_names_of an_names_of cd_names_of ct_names_of), sl_names_of⟩) (q_names_of : PySem.W.codeIn K cd_names_of "names_of" = true) (k_names_of : PySem.W.keepIn K (.ref f_names_of) = true)
    (a_need_known_names : PySem.W.nsIn K mainGlobals "need_known_names" = some (some (.ref f_need_known_names))) (l_need_known_names : K.lookup f_need_known_names = some ⟨oc_need_known_names, od_need_known_names, .func (PySem.W.fnOf "need_known_names" "need_known_names" (defArgs s_need_known_names) (defBody s_need_known_names) (defScope s_need_known_names) .none kV_need_known_names dc_need_known_names pm_need_known_names an_need_known_names cd_need_known_names ct_need_known_names), sl_need_known_names⟩) (q_need_known_names : PySem.W.codeIn K cd_need_known_names "need_known_names" = true) (k_need_known_names : PySem.W.keepIn K (.ref f_need_known_names) = true)
    (a_length_by : PySem.W.nsIn K mainGlobals "length_by" = some (some (.ref f_length_by))) (l_length_by : K.lookup f_length_by = some ⟨oc_length_by, od_length_by, .func (PySem.W.fnOf "length_by" "length_by" (defArgs s_length_by) (defBody s_length_by) (defScope s_length_by) .none kV_length_by dc_length_by pm_length_by an_length_by cd_length_by ct_length_by), sl_length_by⟩) (q_length_by : PySem.W.codeIn K cd_length_by "length_by" = true) (k_length_by : PySem.W.keepIn K (.ref f_length_by) = true)
    (a_keep_lesser : PySem.W.nsIn K mainGlobals "keep_lesser" = some (some (.ref f_keep_lesser))) (l_keep_lesser : K.lookup f_keep_lesser = some ⟨oc_keep_lesser, od_keep_lesser, .func (PySem.W.fnOf "keep_lesser" "keep_lesser" (defArgs s_keep_lesser) (defBody s_keep_lesser) (defScope s_keep_lesser) .none kV_keep_lesser dc_keep_lesser pm_keep_lesser an_keep_lesser cd_keep_lesser ct_keep_lesser), sl_keep_lesser⟩) (q_keep_lesser : PySem.W.codeIn K cd_keep_lesser "keep_lesser" = true) (k_keep_lesser : PySem.W.keepIn K (.ref f_keep_lesser) = true)
    (a_lengths_of : PySem.W.nsIn K mainGlobals "lengths_of" = some (some (.ref f_lengths_of))) (l_lengths_of : K.lookup f_lengths_of = some ⟨oc_lengths_of, od_lengths_of, .func (PySem.W.fnOf "lengths_of" "lengths_of" (defArgs s_lengths_of) (defBody s_lengths_of) (defScope s_lengths_of) .none kV_lengths_of dc_lengths_of pm_lengths_of an_lengths_of cd_lengths_of ct_lengths_of), sl_lengths_of⟩) (q_lengths_of : PySem.W.codeIn K cd_lengths_of "lengths_of" = true) (k_lengths_of : PySem.W.keepIn K (.ref f_lengths_of) = true)
    (a_need_ends : PySem.W.nsIn K mainGlobals "need_ends" = some (some (.ref f_need_ends))) (l_need_ends : K.lookup f_need_ends = some ⟨oc_need_ends, od_need_ends, .func (PySem.W.fnOf "need_ends" "need_ends" (defArgs s_need_ends) (defBody s_need_ends) (defScope s_need_ends) .none kV_need_ends dc_need_ends pm_need_ends an_need_ends cd_need_ends ct_need_ends), sl_need_ends⟩) (q_need_ends : PySem.W.codeIn K cd_need_ends "need_ends" = true) (k_need_ends : PySem.W.keepIn K (.ref f_need_ends) = true)
    (a_need_rules : PySem.W.nsIn K mainGlobals "need_rules" = some (some (.ref f_need_rules))) (l_need_rules : K.lookup f_need_rules = some ⟨oc_need_rules, od_need_rules, .func (PySem.W.fnOf "need_rules" "need_rules" (defArgs s_need_rules) (defBody s_need_rules) (defScope s_need_rules) .none kV_need_rules dc_need_rules pm_need_rules an_need_rules cd_need_rules ct_need_rules), sl_need_rules⟩) (q_need_rules : PySem.W.codeIn K cd_need_rules "need_rules" = true) (k_need_rules : PySem.W.keepIn K (.ref f_need_rules) = true)
    (a_need_text : PySem.W.nsIn K mainGlobals "need_text" = some (some (.ref f_need_text))) (l_need_text : K.lookup f_need_text = some ⟨oc_need_text, od_need_text, .func (PySem.W.fnOf "need_text" "need_text" (defArgs s_need_text) (defBody s_need_text) (defScope s_need_text) .none kV_need_text dc_need_text pm_need_text an_need_text cd_need_text ct_need_text), sl_need_text⟩) (q_need_text : PySem.W.codeIn K cd_need_text "need_text" = true) (k_need_text : PySem.W.keepIn K (.ref f_need_text) = true)
    (a_top_of : PySem.W.nsIn K mainGlobals "top_of" = some (some (.ref f_top_of))) (l_top_of : K.lookup f_top_of = some ⟨oc_top_of, od_top_of, .func (PySem.W.fnOf "top_of" "top_of" (defArgs s_top_of) (defBody s_top_of) (defScope s_top_of) .none kV_top_of dc_top_of pm_top_of an_top_of cd_top_of ct_top_of), sl_top_of⟩) (q_top_of : PySem.W.codeIn K cd_top_of "top_of" = true) (k_top_of : PySem.W.keepIn K (.ref f_top_of) = true)
    (a_enter : PySem.W.nsIn K mainGlobals "enter" = some (some (.ref f_enter))) (l_enter : K.lookup f_enter = some ⟨oc_enter, od_enter, .func (PySem.W.fnOf "enter" "enter" (defArgs s_enter) (defBody s_enter) (defScope s_enter) .none kV_enter dc_enter pm_enter an_enter cd_enter ct_enter), sl_enter⟩) (q_enter : PySem.W.codeIn K cd_enter "enter" = true) (k_enter : PySem.W.keepIn K (.ref f_enter) = true)
    (a_leaf_cost : PySem.W.nsIn K mainGlobals "leaf_cost" = some (some (.ref f_leaf_cost))) (l_leaf_cost : K.lookup f_leaf_cost = some ⟨oc_leaf_cost, od_leaf_cost, .func (PySem.W.fnOf "leaf_cost" "leaf_cost" (defArgs s_leaf_cost) (defBody s_leaf_cost) (defScope s_leaf_cost) .none kV_leaf_cost dc_leaf_cost pm_leaf_cost an_leaf_cost cd_leaf_cost ct_leaf_cost), sl_leaf_cost⟩) (q_leaf_cost : PySem.W.codeIn K cd_leaf_cost "leaf_cost" = true) (k_leaf_cost : PySem.W.keepIn K (.ref f_leaf_cost) = true)
    (a_inside_cost : PySem.W.nsIn K mainGlobals "inside_cost" = some (some (.ref f_inside_cost))) (l_inside_cost : K.lookup f_inside_cost = some ⟨oc_inside_cost, od_inside_cost, .func (PySem.W.fnOf "inside_cost" "inside_cost" (defArgs s_inside_cost) (defBody s_inside_cost) (defScope s_inside_cost) .none kV_inside_cost dc_inside_cost pm_inside_cost an_inside_cost cd_inside_cost ct_inside_cost), sl_inside_cost⟩) (q_inside_cost : PySem.W.codeIn K cd_inside_cost "inside_cost" = true) (k_inside_cost : PySem.W.keepIn K (.ref f_inside_cost) = true)
    (a_inside_costs : PySem.W.nsIn K mainGlobals "inside_costs" = some (some (.ref f_inside_costs))) (l_inside_costs : K.lookup f_inside_costs = some ⟨oc_inside_costs, od_inside_costs, .func (PySem.W.fnOf "inside_costs" "inside_costs" (defArgs s_inside_costs) (defBody s_inside_costs) (defScope s_inside_costs) .none kV_inside_costs dc_inside_costs pm_inside_costs an_inside_costs cd_inside_costs ct_inside_costs), sl_inside_costs⟩) (q_inside_costs : PySem.W.codeIn K cd_inside_costs "inside_costs" = true) (k_inside_costs : PySem.W.keepIn K (.ref f_inside_costs) = true)
    (a_edge_cost : PySem.W.nsIn K mainGlobals "edge_cost" = some (some (.ref f_edge_cost))) (l_edge_cost : K.lookup f_edge_cost = some ⟨oc_edge_cost, od_edge_cost, .func (PySem.W.fnOf "edge_cost" "edge_cost" (defArgs s_edge_cost) (defBody s_edge_cost) (defScope s_edge_cost) .none kV_edge_cost dc_edge_cost pm_edge_cost an_edge_cost cd_edge_cost ct_edge_cost), sl_edge_cost⟩) (q_edge_cost : PySem.W.codeIn K cd_edge_cost "edge_cost" = true) (k_edge_cost : PySem.W.keepIn K (.ref f_edge_cost) = true)
    (a_settle : PySem.W.nsIn K mainGlobals "settle" = some (some (.ref f_settle))) (l_settle : K.lookup f_settle = some ⟨oc_settle, od_settle, .func (PySem.W.fnOf "settle" "settle" (defArgs s_settle) (defBody s_settle) (defScope s_settle) .none kV_settle dc_settle pm_settle an_settle cd_settle ct_settle), sl_settle⟩) (q_settle : PySem.W.codeIn K cd_settle "settle" = true) (k_settle : PySem.W.keepIn K (.ref f_settle) = true)
    (a_costs : PySem.W.nsIn K mainGlobals "costs" = some (some (.ref f_costs))) (l_costs : K.lookup f_costs = some ⟨oc_costs, od_costs, .func (PySem.W.fnOf "costs" "costs" (defArgs s_costs) (defBody s_costs) (defScope s_costs) .none kV_costs dc_costs pm_costs an_costs cd_costs ct_costs), sl_costs⟩) (q_costs : PySem.W.codeIn K cd_costs "costs" = true) (k_costs : PySem.W.keepIn K (.ref f_costs) = true)
    (a_is_fork : PySem.W.nsIn K mainGlobals "is_fork" = some (some (.ref f_is_fork))) (l_is_fork : K.lookup f_is_fork = some ⟨oc_is_fork, od_is_fork, .func (PySem.W.fnOf "is_fork" "is_fork" (defArgs s_is_fork) (defBody s_is_fork) (defScope s_is_fork) .none kV_is_fork dc_is_fork pm_is_fork an_is_fork cd_is_fork ct_is_fork), sl_is_fork⟩) (q_is_fork : PySem.W.codeIn K cd_is_fork "is_fork" = true) (k_is_fork : PySem.W.keepIn K (.ref f_is_fork) = true)
    (a_fork_by : PySem.W.nsIn K mainGlobals "fork_by" = some (some (.ref f_fork_by))) (l_fork_by : K.lookup f_fork_by = some ⟨oc_fork_by, od_fork_by, .func (PySem.W.fnOf "fork_by" "fork_by" (defArgs s_fork_by) (defBody s_fork_by) (defScope s_fork_by) .none kV_fork_by dc_fork_by pm_fork_by an_fork_by cd_fork_by ct_fork_by), sl_fork_by⟩) (q_fork_by : PySem.W.codeIn K cd_fork_by "fork_by" = true) (k_fork_by : PySem.W.keepIn K (.ref f_fork_by) = true)
    (a_kept_place : PySem.W.nsIn K mainGlobals "kept_place" = some (some (.ref f_kept_place))) (l_kept_place : K.lookup f_kept_place = some ⟨oc_kept_place, od_kept_place, .func (PySem.W.fnOf "kept_place" "kept_place" (defArgs s_kept_place) (defBody s_kept_place) (defScope s_kept_place) .none kV_kept_place dc_kept_place pm_kept_place an_kept_place cd_kept_place ct_kept_place), sl_kept_place⟩) (q_kept_place : PySem.W.codeIn K cd_kept_place "kept_place" = true) (k_kept_place : PySem.W.keepIn K (.ref f_kept_place) = true)
    (a_step_by : PySem.W.nsIn K mainGlobals "step_by" = some (some (.ref f_step_by))) (l_step_by : K.lookup f_step_by = some ⟨oc_step_by, od_step_by, .func (PySem.W.fnOf "step_by" "step_by" (defArgs s_step_by) (defBody s_step_by) (defScope s_step_by) .none kV_step_by dc_step_by pm_step_by an_step_by cd_step_by ct_step_by), sl_step_by⟩) (q_step_by : PySem.W.codeIn K cd_step_by "step_by" = true) (k_step_by : PySem.W.keepIn K (.ref f_step_by) = true)
    (a_told_step : PySem.W.nsIn K mainGlobals "told_step" = some (some (.ref f_told_step))) (l_told_step : K.lookup f_told_step = some ⟨oc_told_step, od_told_step, .func (PySem.W.fnOf "told_step" "told_step" (defArgs s_told_step) (defBody s_told_step) (defScope s_told_step) .none kV_told_step dc_told_step pm_told_step an_told_step cd_told_step ct_told_step), sl_told_step⟩) (q_told_step : PySem.W.codeIn K cd_told_step "told_step" = true) (k_told_step : PySem.W.keepIn K (.ref f_told_step) = true)
    (a_told_steps : PySem.W.nsIn K mainGlobals "told_steps" = some (some (.ref f_told_steps))) (l_told_steps : K.lookup f_told_steps = some ⟨oc_told_steps, od_told_steps, .func (PySem.W.fnOf "told_steps" "told_steps" (defArgs s_told_steps) (defBody s_told_steps) (defScope s_told_steps) .none kV_told_steps dc_told_steps pm_told_steps an_told_steps cd_told_steps ct_told_steps), sl_told_steps⟩) (q_told_steps : PySem.W.codeIn K cd_told_steps "told_steps" = true) (k_told_steps : PySem.W.keepIn K (.ref f_told_steps) = true)
    (a_told_tree : PySem.W.nsIn K mainGlobals "told_tree" = some (some (.ref f_told_tree))) (l_told_tree : K.lookup f_told_tree = some ⟨oc_told_tree, od_told_tree, .func (PySem.W.fnOf "told_tree" "told_tree" (defArgs s_told_tree) (defBody s_told_tree) (defScope s_told_tree) .none kV_told_tree dc_told_tree pm_told_tree an_told_tree (.ref c_told_tree) ct_told_tree), sl_told_tree⟩) (q_told_tree : PySem.W.codeIn K (.ref c_told_tree) "told_tree" = true) (k_told_tree : PySem.W.keepIn K (.ref f_told_tree) = true)
    (g_told_tree : K.lookup c_told_tree = some ⟨og_told_tree, oh_told_tree, .fields vs_told_tree, oi_told_tree⟩) (v_told_tree : vs_told_tree[11]? = some (.ref P_told_tree)) (n_told_tree : K.lookup P_told_tree = none)
    (a_mend : PySem.W.nsIn K mainGlobals "mend" = some (some (.ref f_mend))) (l_mend : K.lookup f_mend = some ⟨oc_mend, od_mend, .func (PySem.W.fnOf "mend" "mend" (defArgs s_mend) (defBody s_mend) (defScope s_mend) .none kV_mend dc_mend pm_mend an_mend cd_mend ct_mend), sl_mend⟩) (q_mend : PySem.W.codeIn K cd_mend "mend" = true) (k_mend : PySem.W.keepIn K (.ref f_mend) = true)
    (a__law_at : PySem.W.nsIn K mainGlobals "_law_at" = some (some (.ref f__law_at))) (l__law_at : K.lookup f__law_at = some ⟨oc__law_at, od__law_at, .func (PySem.W.fnOf "_law_at" "_law_at" (defArgs s__law_at) (defBody s__law_at) (defScope s__law_at) .none kV__law_at dc__law_at pm__law_at an__law_at cd__law_at ct__law_at), sl__law_at⟩) (q__law_at : PySem.W.codeIn K cd__law_at "_law_at" = true) (k__law_at : PySem.W.keepIn K (.ref f__law_at) = true)
    (a__law_word : PySem.W.nsIn K mainGlobals "_law_word" = some (some (.ref f__law_word))) (l__law_word : K.lookup f__law_word = some ⟨oc__law_word, od__law_word, .func (PySem.W.fnOf "_law_word" "_law_word" (defArgs s__law_word) (defBody s__law_word) (defScope s__law_word) .none kV__law_word dc__law_word pm__law_word an__law_word cd__law_word ct__law_word), sl__law_word⟩) (q__law_word : PySem.W.codeIn K cd__law_word "_law_word" = true) (k__law_word : PySem.W.keepIn K (.ref f__law_word) = true)
    (a__law_sign : PySem.W.nsIn K mainGlobals "_law_sign" = some (some (.ref f__law_sign))) (l__law_sign : K.lookup f__law_sign = some ⟨oc__law_sign, od__law_sign, .func (PySem.W.fnOf "_law_sign" "_law_sign" (defArgs s__law_sign) (defBody s__law_sign) (defScope s__law_sign) .none kV__law_sign dc__law_sign pm__law_sign an__law_sign cd__law_sign ct__law_sign), sl__law_sign⟩) (q__law_sign : PySem.W.codeIn K cd__law_sign "_law_sign" = true) (k__law_sign : PySem.W.keepIn K (.ref f__law_sign) = true)
    (a__law_rules : PySem.W.nsIn K mainGlobals "_law_rules" = some (some (.ref f__law_rules))) (l__law_rules : K.lookup f__law_rules = some ⟨oc__law_rules, od__law_rules, .func (PySem.W.fnOf "_law_rules" "_law_rules" (defArgs s__law_rules) (defBody s__law_rules) (defScope s__law_rules) .none kV__law_rules dc__law_rules pm__law_rules an__law_rules cd__law_rules ct__law_rules), sl__law_rules⟩) (q__law_rules : PySem.W.codeIn K cd__law_rules "_law_rules" = true) (k__law_rules : PySem.W.keepIn K (.ref f__law_rules) = true)
    (a__law_text : PySem.W.nsIn K mainGlobals "_law_text" = some (some (.ref f__law_text))) (l__law_text : K.lookup f__law_text = some ⟨oc__law_text, od__law_text, .func (PySem.W.fnOf "_law_text" "_law_text" (defArgs s__law_text) (defBody s__law_text) (defScope s__law_text) .none kV__law_text dc__law_text pm__law_text an__law_text cd__law_text ct__law_text), sl__law_text⟩) (q__law_text : PySem.W.codeIn K cd__law_text "_law_text" = true) (k__law_text : PySem.W.keepIn K (.ref f__law_text) = true)
    (a__law_options : PySem.W.nsIn K mainGlobals "_law_options" = some (some (.ref f__law_options))) (l__law_options : K.lookup f__law_options = some ⟨oc__law_options, od__law_options, .func (PySem.W.fnOf "_law_options" "_law_options" (defArgs s__law_options) (defBody s__law_options) (defScope s__law_options) .none kV__law_options dc__law_options pm__law_options an__law_options cd__law_options ct__law_options), sl__law_options⟩) (q__law_options : PySem.W.codeIn K cd__law_options "_law_options" = true) (k__law_options : PySem.W.keepIn K (.ref f__law_options) = true)
    (a__law_rests : PySem.W.nsIn K mainGlobals "_law_rests" = some (some (.ref f__law_rests))) (l__law_rests : K.lookup f__law_rests = some ⟨oc__law_rests, od__law_rests, .func (PySem.W.fnOf "_law_rests" "_law_rests" (defArgs s__law_rests) (defBody s__law_rests) (defScope s__law_rests) .none kV__law_rests dc__law_rests pm__law_rests an__law_rests cd__law_rests ct__law_rests), sl__law_rests⟩) (q__law_rests : PySem.W.codeIn K cd__law_rests "_law_rests" = true) (k__law_rests : PySem.W.keepIn K (.ref f__law_rests) = true)
    (a__law_good : PySem.W.nsIn K mainGlobals "_law_good" = some (some (.ref f__law_good))) (l__law_good : K.lookup f__law_good = some ⟨oc__law_good, od__law_good, .func (PySem.W.fnOf "_law_good" "_law_good" (defArgs s__law_good) (defBody s__law_good) (defScope s__law_good) .none kV__law_good dc__law_good pm__law_good an__law_good cd__law_good ct__law_good), sl__law_good⟩) (q__law_good : PySem.W.codeIn K cd__law_good "_law_good" = true) (k__law_good : PySem.W.keepIn K (.ref f__law_good) = true)
    (a_law : PySem.W.nsIn K mainGlobals "law" = some (some (.ref f_law))) (l_law : K.lookup f_law = some ⟨oc_law, od_law, .func (PySem.W.fnOf "law" "law" (defArgs s_law) (defBody s_law) (defScope s_law) .none kV_law dc_law pm_law an_law cd_law ct_law), sl_law⟩) (q_law : PySem.W.codeIn K cd_law "law" = true) (k_law : PySem.W.keepIn K (.ref f_law) = true)
    (x_told_tree_is_name : P_told_tree ≠ P_is_name)
    (x_told_tree_is_rule : P_told_tree ≠ P_is_rule)
    (z_all : PySem.W.nsIn K mainGlobals "all" = some none) (z_bool : PySem.W.nsIn K mainGlobals "bool" = some none) (z_dict : PySem.W.nsIn K mainGlobals "dict" = some none) (z_enumerate : PySem.W.nsIn K mainGlobals "enumerate" = some none) (z_int : PySem.W.nsIn K mainGlobals "int" = some none) (z_isinstance : PySem.W.nsIn K mainGlobals "isinstance" = some none) (z_len : PySem.W.nsIn K mainGlobals "len" = some none) (z_list : PySem.W.nsIn K mainGlobals "list" = some none) (z_max : PySem.W.nsIn K mainGlobals "max" = some none) (z_min : PySem.W.nsIn K mainGlobals "min" = some none) (z_ord : PySem.W.nsIn K mainGlobals "ord" = some none) (z_range : PySem.W.nsIn K mainGlobals "range" = some none) (z_sorted : PySem.W.nsIn K mainGlobals "sorted" = some none) (z_str : PySem.W.nsIn K mainGlobals "str" = some none) (z_tuple : PySem.W.nsIn K mainGlobals "tuple" = some none)
    (i_BLANK : PySem.W.nsIn K mainGlobals "BLANK" = some (some (.int 32 tk_BLANK))) (i_MOST_LETTERS : PySem.W.nsIn K mainGlobals "MOST_LETTERS" = some (some (.int 12 tk_MOST_LETTERS))) (i_MOST_RULES : PySem.W.nsIn K mainGlobals "MOST_RULES" = some (some (.int 40 tk_MOST_RULES))) (i_MOST_SIGNS : PySem.W.nsIn K mainGlobals "MOST_SIGNS" = some (some (.int 40 tk_MOST_SIGNS))) (i_PERCENT : PySem.W.nsIn K mainGlobals "PERCENT" = some (some (.int 37 tk_PERCENT))) (i_TILDE : PySem.W.nsIn K mainGlobals "TILDE" = some (some (.int 126 tk_TILDE)))
    : LamX.LawAtS l w K CX0 9 63 "_law_script" mg fa h := by
  have e := hfa.symm.trans (PySem.W.mg_of X G a_law)
  cases e
  have B : Blts mg := ⟨PySem.W.mg_none_of X G z_all, PySem.W.mg_none_of X G z_bool, PySem.W.mg_none_of X G z_dict, PySem.W.mg_none_of X G z_enumerate, PySem.W.mg_none_of X G z_int, PySem.W.mg_none_of X G z_isinstance, PySem.W.mg_none_of X G z_len, PySem.W.mg_none_of X G z_list, PySem.W.mg_none_of X G z_max, PySem.W.mg_none_of X G z_min, PySem.W.mg_none_of X G z_ord, PySem.W.mg_none_of X G z_range, PySem.W.mg_none_of X G z_sorted, PySem.W.mg_none_of X G z_str, PySem.W.mg_none_of X G z_tuple, ⟨_, PySem.W.mg_of X G i_BLANK⟩, ⟨_, PySem.W.mg_of X G i_MOST_LETTERS⟩, ⟨_, PySem.W.mg_of X G i_MOST_RULES⟩, ⟨_, PySem.W.mg_of X G i_MOST_SIGNS⟩, ⟨_, PySem.W.mg_of X G i_PERCENT⟩, ⟨_, PySem.W.mg_of X G i_TILDE⟩⟩
  have T_is_name := TF "is_name" _ _ (by simp) (tab_is a_is_name l_is_name rfl g_is_name v_is_name)
  have T_is_rule := TF "is_rule" _ _ (by simp) (tab_is a_is_rule l_is_rule rfl g_is_rule v_is_rule)
  have T_told_tree := TF "told_tree" _ _ (by simp) (tab_is a_told_tree l_told_tree rfl g_told_tree v_told_tree)
  have h1 : ∀ p ∈ ([(c_is_name, P_is_name), (c_is_rule, P_is_rule), (c_told_tree, P_told_tree)] : List (Addr × Addr)), h.get? p.2 = some { cls := .none, data := .fields #[] } := by
    intro p hp
    simp only [List.mem_cons, List.not_mem_nil, or_false] at hp
    rcases hp with rfl | rfl | rfl
    · exact T_is_name.2
    · exact T_is_rule.2
    · exact T_told_tree.2
  have h2 : ∀ p ∈ ([(c_is_name, P_is_name), (c_is_rule, P_is_rule), (c_told_tree, P_told_tree)] : List (Addr × Addr)), K.lookup p.2 = none := by
    intro p hp
    simp only [List.mem_cons, List.not_mem_nil, or_false] at hp
    rcases hp with rfl | rfl | rfl
    · exact n_is_name
    · exact n_is_rule
    · exact n_told_tree
  have h3 : ∀ p ∈ ([(c_is_name, P_is_name), (c_is_rule, P_is_rule), (c_told_tree, P_told_tree)] : List (Addr × Addr)), PySem.W.CodeHd h p.1 p.2 := by
    intro p hp
    simp only [List.mem_cons, List.not_mem_nil, or_false] at hp
    rcases hp with rfl | rfl | rfl
    · exact T_is_name.1
    · exact T_is_rule.1
    · exact T_told_tree.1
  refine ⟨PySem.W.fnOf "law" "law" (defArgs s_law) (defBody s_law) (defScope s_law) .none kV_law dc_law pm_law an_law cd_law ct_law, [(c_is_name, P_is_name), (c_is_rule, P_is_rule), (c_told_tree, P_told_tree)], spTab (exts [(P_is_name, none), (P_is_rule, none), (P_told_tree, some ("told_tree.<locals>.<lambda>" : Str))]) (spD K [(P_is_name, none), (P_is_rule, none), (P_told_tree, some ("told_tree.<locals>.<lambda>" : Str))] [.ro] (semLaw 63)), h1, h2, h3, fun s v => .of_eq rfl, fun H a ns hl _ hT hS => law_asks (fun p hp => ?_) (fun t ht hn => ?_) hl hS, fun base hK hG TB => fn_tab (fn_sem ?_ law_sem)⟩
  · simp only [List.mem_cons, List.not_mem_nil, or_false] at hp
    rcases hp with hp | hp | hp
    · rw [hp]
      exact hT (c_is_name, P_is_name) (by simp)
    · rw [hp]
      exact hT (c_is_rule, P_is_rule) (by simp)
    · rw [hp]
      exact hT (c_told_tree, P_told_tree) (by simp)
  · simp only [List.mem_cons, List.not_mem_nil, or_false] at ht
    rcases ht with rfl | rfl | rfl
    · exact absurd rfl hn
    · exact absurd rfl hn
    · rw [mem_exts]
      simp [x_told_tree_is_name, x_told_tree_is_rule]
  · have B_is_name := TB (c_is_name, P_is_name) (by simp)
    have W_is_name : GxR.TabB base mg c_is_name P_is_name := ⟨B_is_name.code, B_is_name.bm, B_is_name.gP⟩
    have B_is_rule := TB (c_is_rule, P_is_rule) (by simp)
    have W_is_rule : GxR.TabB base mg c_is_rule P_is_rule := ⟨B_is_rule.code, B_is_rule.bm, B_is_rule.gP⟩
    have W_told_tree := TB (c_told_tree, P_told_tree) (by simp)
    have U_told_tree : ∀ t ∈ ([(P_is_name, none), (P_is_rule, none), (P_told_tree, some ("told_tree.<locals>.<lambda>" : Str))] : List Tb), t.1 = P_told_tree → t.2 = some ("told_tree.<locals>.<lambda>" : Str) := by
      intro t ht e
      simp only [List.mem_cons, List.not_mem_nil, or_false] at ht
      rcases ht with rfl | rfl | rfl
      · exact absurd e.symm x_told_tree_is_name
      · exact absurd e.symm x_told_tree_is_rule
      · rfl
    have F_is_sign := fun_mk (st := s_is_sign) l_is_sign q_is_sign k_is_sign
    have C_is_sign : Cal l.prog w K mg base [(P_is_name, none), (P_is_rule, none), (P_told_tree, some ("told_tree.<locals>.<lambda>" : Str))] "is_sign" 1 ["thing"] [.ro] sem_is_sign := ⟨f_is_sign, _, ok_is_sign F_is_sign B, PySem.W.mg_of X G a_is_sign, k_is_sign, F_is_sign.binds (ps := ["thing"]) fun _ _ _ _ _ _ us hl => match us, hl with | [_], _ => rfl⟩
    have F_is_name := fnc_mk (st := s_is_name) l_is_name q_is_name k_is_name
    have C_is_name : Cal l.prog w K mg base [(P_is_name, none), (P_is_rule, none), (P_told_tree, some ("told_tree.<locals>.<lambda>" : Str))] "is_name" 2 ["thing"] [.ro] sem_is_name := ⟨f_is_name, _, ok_is_name F_is_name W_is_name (by simp) B, PySem.W.mg_of X G a_is_name, k_is_name, F_is_name.fn.binds (ps := ["thing"]) fun _ _ _ _ _ _ us hl => match us, hl with | [_], _ => rfl⟩
    have F_is_rule := fnc_mk (st := s_is_rule) l_is_rule q_is_rule k_is_rule
    have C_is_rule : Cal l.prog w K mg base [(P_is_name, none), (P_is_rule, none), (P_told_tree, some ("told_tree.<locals>.<lambda>" : Str))] "is_rule" 4 ["thing"] [.ro] sem_is_rule := ⟨f_is_rule, _, ok_is_rule F_is_rule W_is_rule (by simp) B C_is_name C_is_sign, PySem.W.mg_of X G a_is_rule, k_is_rule, F_is_rule.fn.binds (ps := ["thing"]) fun _ _ _ _ _ _ us hl => match us, hl with | [_], _ => rfl⟩
    have F_is_fork_rule := fun_mk (st := s_is_fork_rule) l_is_fork_rule q_is_fork_rule k_is_fork_rule
    have C_is_fork_rule : Cal l.prog w K mg base [(P_is_name, none), (P_is_rule, none), (P_told_tree, some ("told_tree.<locals>.<lambda>" : Str))] "is_fork_rule" 1 ["rule"] [.ro] sem_is_fork_rule := ⟨f_is_fork_rule, _, ok_is_fork_rule F_is_fork_rule B, PySem.W.mg_of X G a_is_fork_rule, k_is_fork_rule, F_is_fork_rule.binds (ps := ["rule"]) fun _ _ _ _ _ _ us hl => match us, hl with | [_], _ => rfl⟩
    have F_need_only_rules := fun_mk (st := s_need_only_rules) l_need_only_rules q_need_only_rules k_need_only_rules
    have C_need_only_rules : Cal l.prog w K mg base [(P_is_name, none), (P_is_rule, none), (P_told_tree, some ("told_tree.<locals>.<lambda>" : Str))] "need_only_rules" 5 ["rules"] [.ro] sem_need_only_rules := ⟨f_need_only_rules, _, ok_need_only_rules F_need_only_rules B C_is_rule, PySem.W.mg_of X G a_need_only_rules, k_need_only_rules, F_need_only_rules.binds (ps := ["rules"]) fun _ _ _ _ _ _ us hl => match us, hl with | [_], _ => rfl⟩
    have F_names_of := fun_mk (st := s_names_of) l_names_of q_names_of k_names_of
    have C_names_of : Cal l.prog w K mg base [(P_is_name, none), (P_is_rule, none), (P_told_tree, some ("told_tree.<locals>.<lambda>" : Str))] "names_of" 1 ["rules"] [.ro] sem_names_of := ⟨f_names_of, _, ok_names_of F_names_of B, PySem.W.mg_of X G a_names_of, k_names_of, F_names_of.binds (ps := ["rules"]) fun _ _ _ _ _ _ us hl => match us, hl with | [_], _ => rfl⟩
    have F_need_known_names := fun_mk (st := s_need_known_names) l_need_known_names q_need_known_names k_need_known_names
    have C_need_known_names : Cal l.prog w K mg base [(P_is_name, none), (P_is_rule, none), (P_told_tree, some ("told_tree.<locals>.<lambda>" : Str))] "need_known_names" 2 ["rules"] [.ro] sem_need_known_names := ⟨f_need_known_names, _, ok_need_known_names F_need_known_names B C_is_fork_rule C_names_of, PySem.W.mg_of X G a_need_known_names, k_need_known_names, F_need_known_names.binds (ps := ["rules"]) fun _ _ _ _ _ _ us hl => match us, hl with | [_], _ => rfl⟩
    have F_length_by := fun_mk (st := s_length_by) l_length_by q_length_by k_length_by
    have C_length_by : Cal l.prog w K mg base [(P_is_name, none), (P_is_rule, none), (P_told_tree, some ("told_tree.<locals>.<lambda>" : Str))] "length_by" 2 ["rule", "lengths"] [.ro, .ro] sem_length_by := ⟨f_length_by, _, ok_length_by F_length_by B C_is_fork_rule, PySem.W.mg_of X G a_length_by, k_length_by, F_length_by.binds (ps := ["rule", "lengths"]) fun _ _ _ _ _ _ us hl => match us, hl with | [_, _], _ => rfl⟩
    have F_keep_lesser := fun_mk (st := s_keep_lesser) l_keep_lesser q_keep_lesser k_keep_lesser
    have C_keep_lesser : Cal l.prog w K mg base [(P_is_name, none), (P_is_rule, none), (P_told_tree, some ("told_tree.<locals>.<lambda>" : Str))] "keep_lesser" 1 ["least", "name", "number"] [.io, .ro, .ro] sem_keep_lesser := ⟨f_keep_lesser, _, ok_keep_lesser F_keep_lesser B, PySem.W.mg_of X G a_keep_lesser, k_keep_lesser, F_keep_lesser.binds (ps := ["least", "name", "number"]) fun _ _ _ _ _ _ us hl => match us, hl with | [_, _, _], _ => rfl⟩
    have F_lengths_of := fun_mk (st := s_lengths_of) l_lengths_of q_lengths_of k_lengths_of
    have C_lengths_of : Cal l.prog w K mg base [(P_is_name, none), (P_is_rule, none), (P_told_tree, some ("told_tree.<locals>.<lambda>" : Str))] "lengths_of" 3 ["rules"] [.ro] sem_lengths_of := ⟨f_lengths_of, _, ok_lengths_of F_lengths_of B C_keep_lesser C_length_by, PySem.W.mg_of X G a_lengths_of, k_lengths_of, F_lengths_of.binds (ps := ["rules"]) fun _ _ _ _ _ _ us hl => match us, hl with | [_], _ => rfl⟩
    have F_need_ends := fun_mk (st := s_need_ends) l_need_ends q_need_ends k_need_ends
    have C_need_ends : Cal l.prog w K mg base [(P_is_name, none), (P_is_rule, none), (P_told_tree, some ("told_tree.<locals>.<lambda>" : Str))] "need_ends" 4 ["rules"] [.ro] sem_need_ends := ⟨f_need_ends, _, ok_need_ends F_need_ends B C_names_of C_lengths_of, PySem.W.mg_of X G a_need_ends, k_need_ends, F_need_ends.binds (ps := ["rules"]) fun _ _ _ _ _ _ us hl => match us, hl with | [_], _ => rfl⟩
    have F_need_rules := fun_mk (st := s_need_rules) l_need_rules q_need_rules k_need_rules
    have C_need_rules : Cal l.prog w K mg base [(P_is_name, none), (P_is_rule, none), (P_told_tree, some ("told_tree.<locals>.<lambda>" : Str))] "need_rules" 6 ["rules"] [.ro] sem_need_rules := ⟨f_need_rules, _, ok_need_rules F_need_rules B C_need_ends C_need_known_names C_need_only_rules, PySem.W.mg_of X G a_need_rules, k_need_rules, F_need_rules.binds (ps := ["rules"]) fun _ _ _ _ _ _ us hl => match us, hl with | [_], _ => rfl⟩
    have F_need_text := fun_mk (st := s_need_text) l_need_text q_need_text k_need_text
    have C_need_text : Cal l.prog w K mg base [(P_is_name, none), (P_is_rule, none), (P_told_tree, some ("told_tree.<locals>.<lambda>" : Str))] "need_text" 2 ["text"] [.ro] sem_need_text := ⟨f_need_text, _, ok_need_text F_need_text B C_is_sign, PySem.W.mg_of X G a_need_text, k_need_text, F_need_text.binds (ps := ["text"]) fun _ _ _ _ _ _ us hl => match us, hl with | [_], _ => rfl⟩
    have F_top_of := fun_mk (st := s_top_of) l_top_of q_top_of k_top_of
    have C_top_of : Cal l.prog w K mg base [(P_is_name, none), (P_is_rule, none), (P_told_tree, some ("told_tree.<locals>.<lambda>" : Str))] "top_of" 1 ["rules"] [.ro] sem_top_of := ⟨f_top_of, _, ok_top_of F_top_of B, PySem.W.mg_of X G a_top_of, k_top_of, F_top_of.binds (ps := ["rules"]) fun _ _ _ _ _ _ us hl => match us, hl with | [_], _ => rfl⟩
    have F_enter := fun_mk (st := s_enter) l_enter q_enter k_enter
    have C_enter : Cal l.prog w K mg base [(P_is_name, none), (P_is_rule, none), (P_told_tree, some ("told_tree.<locals>.<lambda>" : Str))] "enter" 1 ["table", "least", "begin", "end"] [.io, .ro, .ro, .ro] sem_enter := ⟨f_enter, _, ok_enter F_enter B, PySem.W.mg_of X G a_enter, k_enter, F_enter.binds (ps := ["table", "least", "begin", "end"]) fun _ _ _ _ _ _ us hl => match us, hl with | [_, _, _, _], _ => rfl⟩
    have F_leaf_cost := fun_mk (st := s_leaf_cost) l_leaf_cost q_leaf_cost k_leaf_cost
    have C_leaf_cost : Cal l.prog w K mg base [(P_is_name, none), (P_is_rule, none), (P_told_tree, some ("told_tree.<locals>.<lambda>" : Str))] "leaf_cost" 1 ["sign", "text", "begin", "end"] [.ro, .ro, .ro, .ro] sem_leaf_cost := ⟨f_leaf_cost, _, ok_leaf_cost F_leaf_cost B, PySem.W.mg_of X G a_leaf_cost, k_leaf_cost, F_leaf_cost.binds (ps := ["sign", "text", "begin", "end"]) fun _ _ _ _ _ _ us hl => match us, hl with | [_, _, _, _], _ => rfl⟩
    have F_inside_cost := fun_mk (st := s_inside_cost) l_inside_cost q_inside_cost k_inside_cost
    have C_inside_cost : Cal l.prog w K mg base [(P_is_name, none), (P_is_rule, none), (P_told_tree, some ("told_tree.<locals>.<lambda>" : Str))] "inside_cost" 2 ["rule", "text", "table", "begin", "end"] [.ro, .ro, .ro, .ro, .ro] sem_inside_cost := ⟨f_inside_cost, _, ok_inside_cost F_inside_cost B C_is_fork_rule C_leaf_cost, PySem.W.mg_of X G a_inside_cost, k_inside_cost, F_inside_cost.binds (ps := ["rule", "text", "table", "begin", "end"]) fun _ _ _ _ _ _ us hl => match us, hl with | [_, _, _, _, _], _ => rfl⟩
    have F_inside_costs := fun_mk (st := s_inside_costs) l_inside_costs q_inside_costs k_inside_costs
    have C_inside_costs : Cal l.prog w K mg base [(P_is_name, none), (P_is_rule, none), (P_told_tree, some ("told_tree.<locals>.<lambda>" : Str))] "inside_costs" 3 ["rules", "text", "table", "begin", "end"] [.ro, .ro, .ro, .ro, .ro] sem_inside_costs := ⟨f_inside_costs, _, ok_inside_costs F_inside_costs B C_keep_lesser C_inside_cost, PySem.W.mg_of X G a_inside_costs, k_inside_costs, F_inside_costs.binds (ps := ["rules", "text", "table", "begin", "end"]) fun _ _ _ _ _ _ us hl => match us, hl with | [_, _, _, _, _], _ => rfl⟩
    have F_edge_cost := fun_mk (st := s_edge_cost) l_edge_cost q_edge_cost k_edge_cost
    have C_edge_cost : Cal l.prog w K mg base [(P_is_name, none), (P_is_rule, none), (P_told_tree, some ("told_tree.<locals>.<lambda>" : Str))] "edge_cost" 2 ["rule", "lengths", "least"] [.ro, .ro, .ro] sem_edge_cost := ⟨f_edge_cost, _, ok_edge_cost F_edge_cost B C_is_fork_rule, PySem.W.mg_of X G a_edge_cost, k_edge_cost, F_edge_cost.binds (ps := ["rule", "lengths", "least"]) fun _ _ _ _ _ _ us hl => match us, hl with | [_, _, _], _ => rfl⟩
    have F_settle := fun_mk (st := s_settle) l_settle q_settle k_settle
    have C_settle : Cal l.prog w K mg base [(P_is_name, none), (P_is_rule, none), (P_told_tree, some ("told_tree.<locals>.<lambda>" : Str))] "settle" 3 ["rules", "lengths", "least"] [.ro, .ro, .io] sem_settle := ⟨f_settle, _, ok_settle F_settle B C_keep_lesser C_edge_cost, PySem.W.mg_of X G a_settle, k_settle, F_settle.binds (ps := ["rules", "lengths", "least"]) fun _ _ _ _ _ _ us hl => match us, hl with | [_, _, _], _ => rfl⟩
    have F_costs := fun_mk (st := s_costs) l_costs q_costs k_costs
    have C_costs : Cal l.prog w K mg base [(P_is_name, none), (P_is_rule, none), (P_told_tree, some ("told_tree.<locals>.<lambda>" : Str))] "costs" 7 ["rules", "text"] [.ro, .ro] sem_costs := ⟨f_costs, _, ok_costs F_costs B C_enter C_settle C_inside_costs C_lengths_of C_need_text C_need_rules, PySem.W.mg_of X G a_costs, k_costs, F_costs.binds (ps := ["rules", "text"]) fun _ _ _ _ _ _ us hl => match us, hl with | [_, _], _ => rfl⟩
    have F_is_fork := fun_mk (st := s_is_fork) l_is_fork q_is_fork k_is_fork
    have C_is_fork : Cal l.prog w K mg base [(P_is_name, none), (P_is_rule, none), (P_told_tree, some ("told_tree.<locals>.<lambda>" : Str))] "is_fork" 1 ["tree"] [.ro] sem_is_fork := ⟨f_is_fork, _, ok_is_fork F_is_fork B, PySem.W.mg_of X G a_is_fork, k_is_fork, F_is_fork.binds (ps := ["tree"]) fun _ _ _ _ _ _ us hl => match us, hl with | [_], _ => rfl⟩
    have F_fork_by := fun_mk (st := s_fork_by) l_fork_by q_fork_by k_fork_by
    have C_fork_by : Cal l.prog w K mg base [(P_is_name, none), (P_is_rule, none), (P_told_tree, some ("told_tree.<locals>.<lambda>" : Str))] "fork_by" 1 ["rule", "table", "begin", "end", "cost"] [.ro, .ro, .ro, .ro, .ro] sem_fork_by := ⟨f_fork_by, _, ok_fork_by F_fork_by B, PySem.W.mg_of X G a_fork_by, k_fork_by, F_fork_by.binds (ps := ["rule", "table", "begin", "end", "cost"]) fun _ _ _ _ _ _ us hl => match us, hl with | [_, _, _, _, _], _ => rfl⟩
    have F_kept_place := fun_mk (st := s_kept_place) l_kept_place q_kept_place k_kept_place
    have C_kept_place : Cal l.prog w K mg base [(P_is_name, none), (P_is_rule, none), (P_told_tree, some ("told_tree.<locals>.<lambda>" : Str))] "kept_place" 1 ["sign", "text", "begin", "end"] [.ro, .ro, .ro, .ro] sem_kept_place := ⟨f_kept_place, _, ok_kept_place F_kept_place B, PySem.W.mg_of X G a_kept_place, k_kept_place, F_kept_place.binds (ps := ["sign", "text", "begin", "end"]) fun _ _ _ _ _ _ us hl => match us, hl with | [_, _, _, _], _ => rfl⟩
    have F_step_by := fun_mk (st := s_step_by) l_step_by q_step_by k_step_by
    have C_step_by : Cal l.prog w K mg base [(P_is_name, none), (P_is_rule, none), (P_told_tree, some ("told_tree.<locals>.<lambda>" : Str))] "step_by" 2 ["rule", "text", "table", "begin", "end"] [.ro, .ro, .ro, .ro, .ro] sem_step_by := ⟨f_step_by, _, ok_step_by F_step_by B C_kept_place C_leaf_cost C_is_fork_rule C_fork_by, PySem.W.mg_of X G a_step_by, k_step_by, F_step_by.binds (ps := ["rule", "text", "table", "begin", "end"]) fun _ _ _ _ _ _ us hl => match us, hl with | [_, _, _, _, _], _ => rfl⟩
    have F_told_step := fun_mk (st := s_told_step) l_told_step q_told_step k_told_step
    have C_told_step : Cal l.prog w K mg base [(P_is_name, none), (P_is_rule, none), (P_told_tree, some ("told_tree.<locals>.<lambda>" : Str))] "told_step" 3 ["rules", "text", "table", "key"] [.ro, .ro, .ro, .ro] sem_told_step := ⟨f_told_step, _, ok_told_step F_told_step B C_step_by, PySem.W.mg_of X G a_told_step, k_told_step, F_told_step.binds (ps := ["rules", "text", "table", "key"]) fun _ _ _ _ _ _ us hl => match us, hl with | [_, _, _, _], _ => rfl⟩
    have F_told_steps := fun_mk (st := s_told_steps) l_told_steps q_told_steps k_told_steps
    have C_told_steps : Cal l.prog w K mg base [(P_is_name, none), (P_is_rule, none), (P_told_tree, some ("told_tree.<locals>.<lambda>" : Str))] "told_steps" 4 ["rules", "text", "table", "top"] [.ro, .ro, .ro, .ro] sem_told_steps := ⟨f_told_steps, _, ok_told_steps F_told_steps B C_is_fork C_told_step, PySem.W.mg_of X G a_told_steps, k_told_steps, F_told_steps.binds (ps := ["rules", "text", "table", "top"]) fun _ _ _ _ _ _ us hl => match us, hl with | [_, _, _, _], _ => rfl⟩
    have F_told_tree := fnc_mk (st := s_told_tree) l_told_tree q_told_tree k_told_tree
    have C_told_tree : Cal l.prog w K mg base [(P_is_name, none), (P_is_rule, none), (P_told_tree, some ("told_tree.<locals>.<lambda>" : Str))] "told_tree" 6 ["rules", "text", "table", "top"] [.ro, .ro, .ro, .ro] sem_told_tree := ⟨f_told_tree, _, ok_told_tree F_told_tree W_told_tree (by simp) U_told_tree B C_is_fork C_told_steps, PySem.W.mg_of X G a_told_tree, k_told_tree, F_told_tree.fn.binds (ps := ["rules", "text", "table", "top"]) fun _ _ _ _ _ _ us hl => match us, hl with | [_, _, _, _], _ => rfl⟩
    have F_mend := fun_mk (st := s_mend) l_mend q_mend k_mend
    have C_mend : Cal l.prog w K mg base [(P_is_name, none), (P_is_rule, none), (P_told_tree, some ("told_tree.<locals>.<lambda>" : Str))] "mend" 8 ["rules", "text"] [.ro, .ro] sem_mend := ⟨f_mend, _, ok_mend F_mend B C_told_tree C_top_of C_costs, PySem.W.mg_of X G a_mend, k_mend, F_mend.binds (ps := ["rules", "text"]) fun _ _ _ _ _ _ us hl => match us, hl with | [_, _], _ => rfl⟩
    have F__law_at := fun_mk (st := s__law_at) l__law_at q__law_at k__law_at
    have C__law_at : Cal l.prog w K mg base [(P_is_name, none), (P_is_rule, none), (P_told_tree, some ("told_tree.<locals>.<lambda>" : Str))] "_law_at" 1 ["_law_script", "_law_place"] [.ro, .ro] sem__law_at := ⟨f__law_at, _, ok__law_at F__law_at B, PySem.W.mg_of X G a__law_at, k__law_at, F__law_at.binds (ps := ["_law_script", "_law_place"]) fun _ _ _ _ _ _ us hl => match us, hl with | [_, _], _ => rfl⟩
    have F__law_word := fun_mk (st := s__law_word) l__law_word q__law_word k__law_word
    have C__law_word : Cal l.prog w K mg base [(P_is_name, none), (P_is_rule, none), (P_told_tree, some ("told_tree.<locals>.<lambda>" : Str))] "_law_word" 1 ["_law_cell", "_law_k"] [.ro, .ro] sem__law_word := ⟨f__law_word, _, ok__law_word F__law_word B, PySem.W.mg_of X G a__law_word, k__law_word, F__law_word.binds (ps := ["_law_cell", "_law_k"]) fun _ _ _ _ _ _ us hl => match us, hl with | [_, _], _ => rfl⟩
    have F__law_sign := fun_mk (st := s__law_sign) l__law_sign q__law_sign k__law_sign
    have C__law_sign : Cal l.prog w K mg base [(P_is_name, none), (P_is_rule, none), (P_told_tree, some ("told_tree.<locals>.<lambda>" : Str))] "_law_sign" 1 ["_law_cell", "_law_k"] [.ro, .ro] sem__law_sign := ⟨f__law_sign, _, ok__law_sign F__law_sign B, PySem.W.mg_of X G a__law_sign, k__law_sign, F__law_sign.binds (ps := ["_law_cell", "_law_k"]) fun _ _ _ _ _ _ us hl => match us, hl with | [_, _], _ => rfl⟩
    have F__law_rules := fun_mk (st := s__law_rules) l__law_rules q__law_rules k__law_rules
    have C__law_rules : Cal l.prog w K mg base [(P_is_name, none), (P_is_rule, none), (P_told_tree, some ("told_tree.<locals>.<lambda>" : Str))] "_law_rules" 2 ["_law_script", "_law_base"] [.ro, .ro] sem__law_rules := ⟨f__law_rules, _, ok__law_rules F__law_rules B C__law_at C__law_sign C__law_word, PySem.W.mg_of X G a__law_rules, k__law_rules, F__law_rules.binds (ps := ["_law_script", "_law_base"]) fun _ _ _ _ _ _ us hl => match us, hl with | [_, _], _ => rfl⟩
    have F__law_text := fun_mk (st := s__law_text) l__law_text q__law_text k__law_text
    have C__law_text : Cal l.prog w K mg base [(P_is_name, none), (P_is_rule, none), (P_told_tree, some ("told_tree.<locals>.<lambda>" : Str))] "_law_text" 2 ["_law_script", "_law_base"] [.ro, .ro] sem__law_text := ⟨f__law_text, _, ok__law_text F__law_text B C__law_sign C__law_at, PySem.W.mg_of X G a__law_text, k__law_text, F__law_text.binds (ps := ["_law_script", "_law_base"]) fun _ _ _ _ _ _ us hl => match us, hl with | [_, _], _ => rfl⟩
    have F__law_options := fun_mk (st := s__law_options) l__law_options q__law_options k__law_options
    have C__law_options : Cal l.prog w K mg base [(P_is_name, none), (P_is_rule, none), (P_told_tree, some ("told_tree.<locals>.<lambda>" : Str))] "_law_options" 1 ["_law_table", "_law_rule", "_law_text_here", "_law_begin", "_law_end"] [.ro, .ro, .ro, .ro, .ro] sem__law_options := ⟨f__law_options, _, ok__law_options F__law_options B, PySem.W.mg_of X G a__law_options, k__law_options, F__law_options.binds (ps := ["_law_table", "_law_rule", "_law_text_here", "_law_begin", "_law_end"]) fun _ _ _ _ _ _ us hl => match us, hl with | [_, _, _, _, _], _ => rfl⟩
    have F__law_rests := fun_mk (st := s__law_rests) l__law_rests q__law_rests k__law_rests
    have C__law_rests : Cal l.prog w K mg base [(P_is_name, none), (P_is_rule, none), (P_told_tree, some ("told_tree.<locals>.<lambda>" : Str))] "_law_rests" 1 ["_law_table", "_law_rule", "_law_begin", "_law_end", "_law_cost"] [.ro, .ro, .ro, .ro, .ro] sem__law_rests := ⟨f__law_rests, _, ok__law_rests F__law_rests B, PySem.W.mg_of X G a__law_rests, k__law_rests, F__law_rests.binds (ps := ["_law_table", "_law_rule", "_law_begin", "_law_end", "_law_cost"]) fun _ _ _ _ _ _ us hl => match us, hl with | [_, _, _, _, _], _ => rfl⟩
    have F__law_good := fun_mk (st := s__law_good) l__law_good q__law_good k__law_good
    have C__law_good : Cal l.prog w K mg base [(P_is_name, none), (P_is_rule, none), (P_told_tree, some ("told_tree.<locals>.<lambda>" : Str))] "_law_good" 2 ["_law_table", "_law_rules_here", "_law_text_here", "_law_key"] [.ro, .ro, .ro, .ro] sem__law_good := ⟨f__law_good, _, ok__law_good F__law_good B C__law_rests C__law_options, PySem.W.mg_of X G a__law_good, k__law_good, F__law_good.binds (ps := ["_law_table", "_law_rules_here", "_law_text_here", "_law_key"]) fun _ _ _ _ _ _ us hl => match us, hl with | [_, _, _, _], _ => rfl⟩
    have F_law := fun_mk (st := s_law) l_law q_law k_law
    exact ok_law F_law B C_mend C__law_good C_costs C__law_text C__law_rules C__law_at
end K7
open PySem PySem.W PyProof.Rows
set_option maxHeartbeats 0 in
theorem PySem.Challenge.cw_mendread_k07_whole_no_cheaper_holds : PySem.Challenge.rw_mendread_k07_whole_no_cheaper.Holds := by
  w_on; o_law; k_head; (case hw => w_witness2)
  k_fill
  refine DS.walk_tabs (l := PySem.Challenge.rw_mendread_k07_whole_no_cheaper) (n := 63) (k := 9) (x := "_law_script") (CX := fun _ => L2.CX0) ["is_name", "is_rule", "told_tree"] rfl (by decide) rfl ⟨rfl, by decide, by decide⟩ ?R (fun w h Y => PySem.W.km_in_of Y) ?F (fun _ _ _ _ _ h => h)
  case R => decide +kernel
  case F =>
    intro w mg fa h YH KX G hmg TF
    refine' K7.all_mk KX G hmg TF ?a_is_sign ?l_is_sign ?q_is_sign ?k_is_sign ?a_is_name ?l_is_name ?q_is_name ?k_is_name ?g_is_name ?v_is_name ?n_is_name ?a_is_rule ?l_is_rule ?q_is_rule ?k_is_rule ?g_is_rule ?v_is_rule ?n_is_rule ?a_is_fork_rule ?l_is_fork_rule ?q_is_fork_rule ?k_is_fork_rule ?a_need_only_rules ?l_need_only_rules ?q_need_only_rules ?k_need_only_rules ?a_names_of ?l_names_of ?q_names_of ?k_names_of ?a_need_known_names ?l_need_known_names ?q_need_known_names ?k_need_known_names ?a_length_by ?l_length_by ?q_length_by ?k_length_by ?a_keep_lesser ?l_keep_lesser ?q_keep_lesser ?k_keep_lesser ?a_lengths_of ?l_lengths_of ?q_lengths_of ?k_lengths_of ?a_need_ends ?l_need_ends ?q_need_ends ?k_need_ends ?a_need_rules ?l_need_rules ?q_need_rules ?k_need_rules ?a_need_text ?l_need_text ?q_need_text ?k_need_text ?a_top_of ?l_top_of ?q_top_of ?k_top_of ?a_enter ?l_enter ?q_enter ?k_enter ?a_leaf_cost ?l_leaf_cost ?q_leaf_cost ?k_leaf_cost ?a_inside_cost ?l_inside_cost ?q_inside_cost ?k_inside_cost ?a_inside_costs ?l_inside_costs ?q_inside_costs ?k_inside_costs ?a_edge_cost ?l_edge_cost ?q_edge_cost ?k_edge_cost ?a_settle ?l_settle ?q_settle ?k_settle ?a_costs ?l_costs ?q_costs ?k_costs ?a_is_fork ?l_is_fork ?q_is_fork ?k_is_fork ?a_fork_by ?l_fork_by ?q_fork_by ?k_fork_by ?a_kept_place ?l_kept_place ?q_kept_place ?k_kept_place ?a_step_by ?l_step_by ?q_step_by ?k_step_by ?a_told_step ?l_told_step ?q_told_step ?k_told_step ?a_told_steps ?l_told_steps ?q_told_steps ?k_told_steps ?a_told_tree ?l_told_tree ?q_told_tree ?k_told_tree ?g_told_tree ?v_told_tree ?n_told_tree ?a_mend ?l_mend ?q_mend ?k_mend ?a__law_at ?l__law_at ?q__law_at ?k__law_at ?a__law_word ?l__law_word ?q__law_word ?k__law_word ?a__law_sign ?l__law_sign ?q__law_sign ?k__law_sign ?a__law_rules ?l__law_rules ?q__law_rules ?k__law_rules ?a__law_text ?l__law_text ?q__law_text ?k__law_text ?a__law_options ?l__law_options ?q__law_options ?k__law_options ?a__law_rests ?l__law_rests ?q__law_rests ?k__law_rests ?a__law_good ?l__law_good ?q__law_good ?k__law_good ?a_law ?l_law ?q_law ?k_law ?x_told_tree_is_name ?x_told_tree_is_rule ?z_all ?z_bool ?z_dict ?z_enumerate ?z_int ?z_isinstance ?z_len ?z_list ?z_max ?z_min ?z_ord ?z_range ?z_sorted ?z_str ?z_tuple ?i_BLANK ?i_MOST_LETTERS ?i_MOST_RULES ?i_MOST_SIGNS ?i_PERCENT ?i_TILDE
    (case a_is_sign => k_is); (case l_is_sign => k_is); (case q_is_sign => k_is); (case k_is_sign => k_is); (case a_is_name => k_is); (case l_is_name => k_is); (case q_is_name => k_is); (case k_is_name => k_is); (case g_is_name => k_is); (case v_is_name => rfl); (case n_is_name => rfl); (case a_is_rule => k_is); (case l_is_rule => k_is); (case q_is_rule => k_is); (case k_is_rule => k_is); (case g_is_rule => k_is); (case v_is_rule => rfl); (case n_is_rule => rfl); (case a_is_fork_rule => k_is); (case l_is_fork_rule => k_is); (case q_is_fork_rule => k_is); (case k_is_fork_rule => k_is); (case a_need_only_rules => k_is); (case l_need_only_rules => k_is); (case q_need_only_rules => k_is); (case k_need_only_rules => k_is); (case a_names_of => k_is); (case l_names_of => k_is); (case q_names_of => k_is); (case k_names_of => k_is); (case a_need_known_names => k_is); (case l_need_known_names => k_is); (case q_need_known_names => k_is); (case k_need_known_names => k_is); (case a_length_by => k_is); (case l_length_by => k_is); (case q_length_by => k_is); (case k_length_by => k_is); (case a_keep_lesser => k_is); (case l_keep_lesser => k_is); (case q_keep_lesser => k_is); (case k_keep_lesser => k_is); (case a_lengths_of => k_is); (case l_lengths_of => k_is); (case q_lengths_of => k_is); (case k_lengths_of => k_is); (case a_need_ends => k_is); (case l_need_ends => k_is); (case q_need_ends => k_is); (case k_need_ends => k_is); (case a_need_rules => k_is); (case l_need_rules => k_is); (case q_need_rules => k_is); (case k_need_rules => k_is); (case a_need_text => k_is); (case l_need_text => k_is); (case q_need_text => k_is); (case k_need_text => k_is); (case a_top_of => k_is); (case l_top_of => k_is); (case q_top_of => k_is); (case k_top_of => k_is); (case a_enter => k_is); (case l_enter => k_is); (case q_enter => k_is); (case k_enter => k_is); (case a_leaf_cost => k_is); (case l_leaf_cost => k_is); (case q_leaf_cost => k_is); (case k_leaf_cost => k_is); (case a_inside_cost => k_is); (case l_inside_cost => k_is); (case q_inside_cost => k_is); (case k_inside_cost => k_is); (case a_inside_costs => k_is); (case l_inside_costs => k_is); (case q_inside_costs => k_is); (case k_inside_costs => k_is); (case a_edge_cost => k_is); (case l_edge_cost => k_is); (case q_edge_cost => k_is); (case k_edge_cost => k_is); (case a_settle => k_is); (case l_settle => k_is); (case q_settle => k_is); (case k_settle => k_is); (case a_costs => k_is); (case l_costs => k_is); (case q_costs => k_is); (case k_costs => k_is); (case a_is_fork => k_is); (case l_is_fork => k_is); (case q_is_fork => k_is); (case k_is_fork => k_is); (case a_fork_by => k_is); (case l_fork_by => k_is); (case q_fork_by => k_is); (case k_fork_by => k_is); (case a_kept_place => k_is); (case l_kept_place => k_is); (case q_kept_place => k_is); (case k_kept_place => k_is); (case a_step_by => k_is); (case l_step_by => k_is); (case q_step_by => k_is); (case k_step_by => k_is); (case a_told_step => k_is); (case l_told_step => k_is); (case q_told_step => k_is); (case k_told_step => k_is); (case a_told_steps => k_is); (case l_told_steps => k_is); (case q_told_steps => k_is); (case k_told_steps => k_is); (case a_told_tree => k_is); (case l_told_tree => k_is); (case q_told_tree => k_is); (case k_told_tree => k_is); (case g_told_tree => k_is); (case v_told_tree => rfl); (case n_told_tree => rfl); (case a_mend => k_is); (case l_mend => k_is); (case q_mend => k_is); (case k_mend => k_is); (case a__law_at => k_is); (case l__law_at => k_is); (case q__law_at => k_is); (case k__law_at => k_is); (case a__law_word => k_is); (case l__law_word => k_is); (case q__law_word => k_is); (case k__law_word => k_is); (case a__law_sign => k_is); (case l__law_sign => k_is); (case q__law_sign => k_is); (case k__law_sign => k_is); (case a__law_rules => k_is); (case l__law_rules => k_is); (case q__law_rules => k_is); (case k__law_rules => k_is); (case a__law_text => k_is); (case l__law_text => k_is); (case q__law_text => k_is); (case k__law_text => k_is); (case a__law_options => k_is); (case l__law_options => k_is); (case q__law_options => k_is); (case k__law_options => k_is); (case a__law_rests => k_is); (case l__law_rests => k_is); (case q__law_rests => k_is); (case k__law_rests => k_is); (case a__law_good => k_is); (case l__law_good => k_is); (case q__law_good => k_is); (case k__law_good => k_is); (case a_law => k_is); (case l_law => k_is); (case q_law => k_is); (case k_law => k_is); (case x_told_tree_is_name => decide); (case x_told_tree_is_rule => decide); (case z_all => k_is); (case z_bool => k_is); (case z_dict => k_is); (case z_enumerate => k_is); (case z_int => k_is); (case z_isinstance => k_is); (case z_len => k_is); (case z_list => k_is); (case z_max => k_is); (case z_min => k_is); (case z_ord => k_is); (case z_range => k_is); (case z_sorted => k_is); (case z_str => k_is); (case z_tuple => k_is); (case i_BLANK => k_is); (case i_MOST_LETTERS => k_is); (case i_MOST_RULES => k_is); (case i_MOST_SIGNS => k_is); (case i_PERCENT => k_is); (case i_TILDE => k_is)
