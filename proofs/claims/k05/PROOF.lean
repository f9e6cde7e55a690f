import PyProof.Rows.All
import Wide.All
import OpenK.AllK
import Wide.FinOn
import HandS.Base
import HandS.Call
import HandS.List
import HandS.Comp
import HandS.Ends
import HandS.Dict
import HandS.Iter
import HandS.Text
import HandS.Words
import HandS.WordsList
import HandS.WordsDict
import HandS.Exc
import HandS.IsInst
import HandS.AnyAll
import HandS.TupAny
import HandS.GenOver
import HandS.Deep
import HandS.GenList
import HandS.EndTab
import HandS.Conv
import HandS.DictComp
import HandS.SortKw
import KE.DataMinMax
import PyProof.EnumMake
import PyProof.Draws
import HandS.More
import KE.KEqNest
import PyProof.NeKinds
import HandS.RaiseMore
import HandS.FStr
import HandS.WordsExc
import KE.KExcIs
import PyProof.StrOps2
import PySem.Challenge.RW_mendread_k05_deeds_done
set_option Elab.async false
set_option linter.all false
set_option maxRecDepth 100000
set_option maxHeartbeats 1000000
namespace DS
open PySem L2

abbrev D := PyData

/-! ## data over an abstract heap -/
def kD : Key → D
  | .inl i => .int i
  | .inr x => .str x
def sD : V → D
  | .bl b => .bool b
  | .int i => .int i
  | .str x => .str x
  | _ => .none
def flat : V → Bool
  | .non => true
  | .bl _ => true
  | .int _ => true
  | .str _ => true
  | _ => false
def enK (p : Key × V) : D × D := (kD p.1, sD p.2)
def enT (p : List Key × V) : D × D := (.tuple (p.1.map kD), sD p.2)

mutual
inductive Rp (K : PySem.W.Frag) (F : Hp) : V → D → Prop
  | non : Rp K F .non .none
  | bl (b : Bool) : Rp K F (.bl b) (.bool b)
  | int (i : Int) : Rp K F (.int i) (.int i)
  | str (x : Str) : Rp K F (.str x) (.str x)
  | lst {a : Addr} {xs : List V} {ds : List D} : SqL K F a xs → Rps K F xs ds → Rp K F (.ref a) (.list ds)
  | tup {a : Addr} {xs : List V} {ds : List D} : SqT K F a xs → Rps K F xs ds → Rp K F (.ref a) (.tuple ds)
  | dK {a : Addr} {kvs : List (Key × V)} : Rd F a (.dK kvs) → (kvs.all fun p => flat p.2) = true → Rp K F (.ref a) (.dict (kvs.map enK))
  | dT {a : Addr} {kvs : List (List Key × V)} : F a = some (.dT kvs) → (kvs.all fun p => flat p.2) = true → kvs ≠ [] → Rp K F (.ref a) (.dict (kvs.map enT))
inductive Rps (K : PySem.W.Frag) (F : Hp) : List V → List D → Prop
  | nil : Rps K F [] []
  | cons {v : V} {vs : List V} {d : D} {ds : List D} : Rp K F v d → Rps K F vs ds → Rps K F (v :: vs) (d :: ds)
end

/-- what stands stays -/
def Ext (F F' : Hp) : Prop := ∀ a o, F a = some o → F' a = some o
theorem Ext.refl (F : Hp) : Ext F F := fun _ _ h => h
theorem Ext.trans {F G H : Hp} (a : Ext F G) (b : Ext G H) : Ext F H := fun x u h => b x u (a x u h)
theorem Ext.of {F F' : Hp} (h : ∀ a o, F a = some o → F' a = some o) : Ext F F' := h
theorem Ext.upd {F : Hp} {p : Addr} {o : HO} (h : F p = none) : Ext F (L2.upd F p o) := fun a u e => by
  rw [upd_ne (ne_of_none e h)]
  exact e
theorem Ext.rd {F F' : Hp} (e : Ext F F') {a : Addr} {u : HO} (r : Rd F a u) : Rd F' a u := by
  rcases r with r | ⟨o, r⟩
  · exact .inl (e a _ r)
  · exact .inr ⟨o, e a _ r⟩
section
variable {K : PySem.W.Frag} {F F' H H' : Hp}
theorem Ext.sqL (e : Ext F F') {a : Addr} {xs : List V} (h : SqL K F a xs) : SqL K F' a xs := by
  rcases h with h | h
  · exact .inl (e.rd h)
  · exact .inr h
theorem Ext.sqT (e : Ext F F') {a : Addr} {xs : List V} (h : SqT K F a xs) : SqT K F' a xs := by
  rcases h with h | h
  · exact .inl (e.rd h)
  · exact .inr h
mutual
theorem Rp.ext (e : Ext F F') : ∀ {v : V} {d : D}, Rp K F v d → Rp K F' v d
  | _, _, .non => .non
  | _, _, .bl b => .bl b
  | _, _, .int i => .int i
  | _, _, .str x => .str x
  | _, _, .lst s r => .lst (e.sqL s) (Rps.ext e r)
  | _, _, .tup s r => .tup (e.sqT s) (Rps.ext e r)
  | _, _, .dK r f => .dK (e.rd r) f
  | _, _, .dT r f n => .dT (e _ _ r) f n
theorem Rps.ext (e : Ext F F') : ∀ {vs : List V} {ds : List D}, Rps K F vs ds → Rps K F' vs ds
  | _, _, .nil => .nil
  | _, _, .cons a b => .cons (Rp.ext e a) (Rps.ext e b)
end
theorem Rps.len : ∀ {vs : List V} {ds : List D}, Rps K F vs ds → vs.length = ds.length
  | _, _, .nil => rfl
  | _, _, .cons _ b => by rw [List.length_cons, List.length_cons, Rps.len b]
theorem Rps.app : ∀ {vs ws : List V} {ds es : List D}, Rps K F vs ds → Rps K F ws es → Rps K F (vs ++ ws) (ds ++ es)
  | _, _, _, _, .nil, s => s
  | _, _, _, _, .cons a b, s => .cons a (Rps.app b s)
theorem Rps.get : ∀ {vs : List V} {ds : List D} {i : Nat} {d : D}, Rps K F vs ds → ds[i]? = some d → ∃ v, vs[i]? = some v ∧ Rp K F v d
  | _, _, _, _, .nil, e => by simp at e
  | _, _, 0, _, .cons a b, e => by
    simp at e
    subst e
    exact ⟨_, rfl, a⟩
  | _, _, i + 1, _, .cons a b, e => by
    obtain ⟨v, h1, h2⟩ := Rps.get (i := i) b (by simpa using e)
    exact ⟨v, by simpa using h1, h2⟩
theorem Rps.get' : ∀ {vs : List V} {ds : List D} {i : Nat} {v : V}, Rps K F vs ds → vs[i]? = some v → ∃ d, ds[i]? = some d ∧ Rp K F v d
  | _, _, _, _, .nil, e => by simp at e
  | _, _, 0, _, .cons a b, e => by
    simp at e
    subst e
    exact ⟨_, rfl, a⟩
  | _, _, i + 1, _, .cons a b, e => by
    obtain ⟨v, h1, h2⟩ := Rps.get' (i := i) b (by simpa using e)
    exact ⟨v, by simpa using h1, h2⟩
theorem Rps.take : ∀ {vs : List V} {ds : List D} (n : Nat), Rps K F vs ds → Rps K F (vs.take n) (ds.take n)
  | _, _, 0, _ => .nil
  | _, _, _ + 1, .nil => .nil
  | _, _, n + 1, .cons a b => .cons a (Rps.take n b)
theorem Rps.drop : ∀ {vs : List V} {ds : List D} (n : Nat), Rps K F vs ds → Rps K F (vs.drop n) (ds.drop n)
  | _, _, 0, r => r
  | _, _, _ + 1, .nil => .nil
  | _, _, n + 1, .cons a b => Rps.drop n b
theorem Rps.dropLast {vs : List V} {ds : List D} (h : Rps K F vs ds) : Rps K F vs.dropLast ds.dropLast := by
  rw [List.dropLast_eq_take, List.dropLast_eq_take, h.len]
  exact h.take _
theorem Rps.rev : ∀ {vs : List V} {ds : List D}, Rps K F vs ds → Rps K F vs.reverse ds.reverse
  | _, _, .nil => .nil
  | _, _, .cons a b => by
    rw [List.reverse_cons, List.reverse_cons]
    exact (Rps.rev b).app (.cons a .nil)
theorem Rps.set {v : V} {d : D} (r : Rp K F v d) : ∀ {vs : List V} {ds : List D} (i : Nat), Rps K F vs ds → Rps K F (vs.set i v) (ds.set i d)
  | _, _, _, .nil => .nil
  | _, _, 0, .cons _ t => .cons r t
  | _, _, i + 1, .cons q t => .cons q (Rps.set r i t)
theorem Rps.insert {v : V} {d : D} (r : Rp K F v d) {vs : List V} {ds : List D} (i : Nat) (h : Rps K F vs ds) : Rps K F (vs.take i ++ v :: vs.drop i) (ds.take i ++ d :: ds.drop i) :=
  (h.take i).app (.cons r (h.drop i))
end

/-! ## a frame's names -/
inductive Cell where
  /-- data that is shared: read alone -/
  | sh (d : D)
  /-- a list or a dict of this frame's own -/
  | ow (d : D)
  /-- a list or a dict that the caller lends, to be changed -/
  | io (a : Addr) (d : D)
def Cell.got : Cell → D
  | .sh d => d
  | .ow d => d
  | .io _ d => d
def Cell.mine : Cell → Bool
  | .sh _ => false
  | _ => true
abbrev Nv := List (Option Cell)
def Own (K : PySem.W.Frag) (F H : Hp) (a : Addr) : D → Prop
  | .list ds => ∃ xs, H a = some (.lst xs) ∧ Rps K F xs ds
  | .dict es => (∃ kvs, H a = some (.dK kvs) ∧ (kvs.all fun p => flat p.2) = true ∧ es = kvs.map enK) ∨ ∃ kvs, H a = some (.dT kvs) ∧ (kvs.all fun p => flat p.2) = true ∧ es = kvs.map enT ∧ kvs ≠ []
  | _ => False
theorem Own.ext {K : PySem.W.Frag} {F F' H H' : Hp} {a : Addr} : ∀ {d : D}, Ext F F' → H' a = H a → Own K F H a d → Own K F' H' a d
  | .list ds, e, h, ⟨xs, h1, h2⟩ => ⟨xs, by rw [h]; exact h1, h2.ext e⟩
  | .dict es, e, h, .inl ⟨kvs, h1, h2⟩ => .inl ⟨kvs, by rw [h]; exact h1, h2⟩
  | .dict es, e, h, .inr ⟨kvs, h1, h2⟩ => .inr ⟨kvs, by rw [h]; exact h1, h2⟩
theorem Own.rp {K : PySem.W.Frag} {F H : Hp} {a : Addr} : ∀ {d : D}, Own K F H a d → ∃ o, H a = some o ∧ ∀ G, Ext F G → G a = some o → Rp K G (.ref a) d
  | .list ds, ⟨xs, h1, h2⟩ => ⟨_, h1, fun G e g => .lst (.inl (.inl g)) (h2.ext e)⟩
  | .dict es, .inl ⟨kvs, h1, h2, h3⟩ => ⟨_, h1, fun G e g => by rw [h3]; exact .dK (.inl g) h2⟩
  | .dict es, .inr ⟨kvs, h1, h2, h3, h4⟩ => ⟨_, h1, fun G e g => by rw [h3]; exact .dT g h2 h4⟩
def Mine (σ : L2.St) (ρ : Nv) (a : Addr) : Prop := ∃ (i : Nat) (c : Cell), ρ[i]? = some (some c) ∧ c.mine = true ∧ σ[i]? = some (some (.ref a))

/-- a code object's table, whatever it has by now -/
def tabP (p : Addr) : Heap → Prop := fun h => ∃ ps : Array Value, h.get? p = some { cls := .none, data := .fields ps } ∧ TriplesOk ps.toList

/-- how a frame lies: Z is others', F is read by anyone, the rest is its own -/
structure Rep (K : PySem.W.Frag) (cs : List Addr) (Z F H : Hp) (σ : L2.St) (ρ : Nv) : Prop where
  len : σ.length = ρ.length
  fh : ∀ a o, F a = some o → H a = some o
  zh : ∀ a o, Z a = some o → H a = some o ∧ F a = none
  mine : ∀ (i : Nat) (c : Cell), ρ[i]? = some (some c) → c.mine = true → ∃ a, σ[i]? = some (some (.ref a)) ∧ F a = none ∧ Z a = none ∧ Own K F H a c.got
  sh : ∀ (i : Nat) (d : D), ρ[i]? = some (some (.sh d)) → ∃ v, σ[i]? = some (some v) ∧ Rp K F v d
  inj : ∀ (i j : Nat) (c e : Cell) (a : Addr), ρ[i]? = some (some c) → c.mine = true → ρ[j]? = some (some e) → e.mine = true → σ[i]? = some (some (.ref a)) → σ[j]? = some (some (.ref a)) → i = j
  io : ∀ (i : Nat) (a : Addr) (d : D), ρ[i]? = some (some (.io a d)) → σ[i]? = some (some (.ref a))
  tab : ∀ p ∈ cs, F p = some (.ext (tabP p))

/-- a value that is data now: shared, or in a name of this frame's own -/
def Vw (K : PySem.W.Frag) (F : Hp) (σ : L2.St) (ρ : Nv) (v : V) (d : D) : Prop := Rp K F v d ∨ ∃ (i : Nat) (c : Cell), ρ[i]? = some (some c) ∧ c.mine = true ∧ c.got = d ∧ σ[i]? = some (some v)

section
variable {K : PySem.W.Frag} {cs : List Addr} {Z F F' H H' : Hp} {σ : L2.St} {ρ : Nv} {v : V} {d : D}
theorem Vw.ext (e : Ext F F') (h : Vw K F σ ρ v d) : Vw K F' σ ρ v d := by
  rcases h with h | h
  · exact .inl (h.ext e)
  · exact .inr h
theorem Rep.ex (R : Rep K cs Z F H σ ρ) : Ext F H := Ext.of R.fh
/-- as data over the whole heap -/
theorem Rep.all (R : Rep K cs Z F H σ ρ) (h : Vw K F σ ρ v d) : Rp K H v d := by
  rcases h with h | ⟨i, c, h1, h2, rfl, h3⟩
  · exact h.ext R.ex
  · obtain ⟨a, e, _, _, o⟩ := R.mine i c h1 h2
    rw [h3] at e
    cases e
    obtain ⟨ob, q1, q2⟩ := o.rp
    exact q2 H R.ex q1
theorem Rep.lst (R : Rep K cs Z F H σ ρ) {ds : List D} (h : Vw K F σ ρ v (.list ds)) : ∃ a xs, v = .ref a ∧ SqL K H a xs ∧ Rps K F xs ds := by
  rcases h with h | ⟨i, c, h1, h2, h4, h3⟩
  · cases h with
    | lst s r => exact ⟨_, _, rfl, R.ex.sqL s, r⟩
  · obtain ⟨a, e, _, _, o⟩ := R.mine i c h1 h2
    rw [h3] at e
    cases e
    rw [h4] at o
    obtain ⟨xs, q1, q2⟩ := o
    exact ⟨a, xs, rfl, .inl (.inl q1), q2⟩
theorem Rep.tup (R : Rep K cs Z F H σ ρ) {ds : List D} (h : Vw K F σ ρ v (.tuple ds)) : ∃ a xs, v = .ref a ∧ SqT K F a xs ∧ SqT K H a xs ∧ Rps K F xs ds := by
  rcases h with h | ⟨i, c, h1, h2, h4, h3⟩
  · cases h with
    | tup s r => exact ⟨_, _, rfl, s, R.ex.sqT s, r⟩
  · obtain ⟨a, e, _, _, o⟩ := R.mine i c h1 h2
    rw [h4] at o
    exact o.elim
/-- a new object, shared at once -/
theorem Rep.new {p : Addr} {o : HO} (R : Rep K cs Z F H σ ρ) (hp : H p = none) : Rep K cs Z (upd F p o) (upd H p o) σ ρ ∧ Ext F (upd F p o) ∧ F p = none := by
  have fp : F p = none := by
    cases e : F p with
    | none => rfl
    | some u => rw [R.fh p u e] at hp; cases hp
  have hne : ∀ a u, H a = some u → a ≠ p := fun a u e => ne_of_none e hp
  refine ⟨⟨R.len, fun a u e => ?_, fun a u e => ?_, fun i c h1 h2 => ?_, fun i d h1 => ?_, R.inj, R.io, fun q hq => ?_⟩, Ext.upd fp, fp⟩
  · by_cases h : a = p
    · subst h
      rw [upd_same] at e ⊢
      exact e
    · rw [upd_ne h] at e ⊢
      exact R.fh a u e
  · obtain ⟨q1, q2⟩ := R.zh a u e
    rw [upd_ne (hne a u q1), upd_ne (hne a u q1)]
    exact ⟨q1, q2⟩
  · obtain ⟨a, e, f, z, o⟩ := R.mine i c h1 h2
    obtain ⟨ob, q1, _⟩ := o.rp
    exact ⟨a, e, by rw [upd_ne (hne a _ q1)]; exact f, z, o.ext (Ext.upd fp) (upd_ne (hne a _ q1))⟩
  · obtain ⟨v, e, r⟩ := R.sh i d h1
    exact ⟨v, e, r.ext (Ext.upd fp)⟩
  · have e := R.tab q hq
    rw [upd_ne (hne q _ (R.fh _ _ e))]
    exact e
/-- a new object, nobody's yet -/
theorem Rep.made {p : Addr} {o : HO} (R : Rep K cs Z F H σ ρ) (hp : H p = none) : Rep K cs Z F (upd H p o) σ ρ ∧ F p = none ∧ Z p = none ∧ ¬ Mine σ ρ p := by
  have fp : F p = none := by
    cases e : F p with
    | none => rfl
    | some u => rw [R.fh p u e] at hp; cases hp
  have zp : Z p = none := by
    cases e : Z p with
    | none => rfl
    | some u => rw [(R.zh p u e).1] at hp; cases hp
  have hne : ∀ a u, H a = some u → a ≠ p := fun a u e => ne_of_none e hp
  refine ⟨⟨R.len, fun a u e => ?_, fun a u e => ?_, fun i c h1 h2 => ?_, R.sh, R.inj, R.io, R.tab⟩, fp, zp, ?_⟩
  · rw [upd_ne (hne a u (R.fh a u e))]
    exact R.fh a u e
  · obtain ⟨q1, q2⟩ := R.zh a u e
    rw [upd_ne (hne a u q1)]
    exact ⟨q1, q2⟩
  · obtain ⟨a, e, f, z, o⟩ := R.mine i c h1 h2
    obtain ⟨ob, q1, _⟩ := o.rp
    exact ⟨a, e, f, z, o.ext (Ext.refl F) (upd_ne (hne a _ q1))⟩
  · rintro ⟨i, c, h1, h2, h3⟩
    obtain ⟨a, e, f, z, o⟩ := R.mine i c h1 h2
    obtain ⟨ob, q1, _⟩ := o.rp
    rw [h3] at e
    cases e
    rw [hp] at q1
    cases q1
/-- what is nobody's becomes shared -/
theorem Rep.give {p : Addr} {o : HO} (R : Rep K cs Z F H σ ρ) (hp : H p = some o) (fp : F p = none) (zp : Z p = none) (mp : ¬ Mine σ ρ p) : Rep K cs Z (upd F p o) H σ ρ := by
  refine ⟨R.len, fun a u e => ?_, fun a u e => ?_, fun i c h1 h2 => ?_, fun i d h1 => ?_, R.inj, R.io, fun q hq => ?_⟩
  · by_cases h : a = p
    · subst h
      rw [upd_same] at e
      cases e
      exact hp
    · rw [upd_ne h] at e
      exact R.fh a u e
  · obtain ⟨q1, q2⟩ := R.zh a u e
    have h : a ≠ p := ne_of_none e zp
    rw [upd_ne h]
    exact ⟨q1, q2⟩
  · obtain ⟨a, e, f, z, ow⟩ := R.mine i c h1 h2
    have h : a ≠ p := fun z => mp ⟨i, c, h1, h2, by rw [← z]; exact e⟩
    exact ⟨a, e, by rw [upd_ne h]; exact f, z, ow.ext (Ext.upd fp) rfl⟩
  · obtain ⟨v, e, r⟩ := R.sh i d h1
    exact ⟨v, e, r.ext (Ext.upd fp)⟩
  · have e := R.tab q hq
    rw [upd_ne (ne_of_none e fp)]
    exact e
end

/-! ## expressions that change no name -/
def tP (K : PySem.W.Frag) (cs : List Addr) (f : Nv → Option D) : TE := fun σ H Q => ∃ Z F ρ d, Rep K cs Z F H σ ρ ∧ f ρ = some d ∧ ∀ v F' H', Ext F F' → Rep K cs Z F' H' σ ρ → Rp K F' v d → Q v H'
def tW (K : PySem.W.Frag) (cs : List Addr) (f : Nv → Option D) : TE := fun σ H Q => ∃ Z F ρ d, Rep K cs Z F H σ ρ ∧ f ρ = some d ∧ ∀ v F' H', Ext F F' → Rep K cs Z F' H' σ ρ → Vw K F' σ ρ v d → Q v H'
/-- a new list or dict, nobody's yet -/
def tN (K : PySem.W.Frag) (cs : List Addr) (f : Nv → Option D) : TE := fun σ H Q => ∃ Z F ρ d, Rep K cs Z F H σ ρ ∧ f ρ = some d ∧
  ∀ p F' H', Ext F F' → Rep K cs Z F' H' σ ρ → F' p = none → Z p = none → ¬ Mine σ ρ p → Own K F' H' p d → Q (.ref p) H'
def tPT (K : PySem.W.Frag) (cs : List Addr) (f : Nv → Option Bool) : TT := fun σ H Q => ∃ Z F ρ b, Rep K cs Z F H σ ρ ∧ f ρ = some b ∧ ∀ F' H', Ext F F' → Rep K cs Z F' H' σ ρ → Q b H'
def tPA (K : PySem.W.Frag) (cs : List Addr) (f : Nv → Option (List D)) : TA := fun σ H Q => ∃ Z F ρ ds, Rep K cs Z F H σ ρ ∧ f ρ = some ds ∧ ∀ vs F' H', Ext F F' → Rep K cs Z F' H' σ ρ → Rps K F' vs ds → Q vs H'
inductive Vws (K : PySem.W.Frag) (F : Hp) (σ : L2.St) (ρ : Nv) : List V → List D → Prop
  | nil : Vws K F σ ρ [] []
  | cons {v : V} {vs : List V} {d : D} {ds : List D} : Vw K F σ ρ v d → Vws K F σ ρ vs ds → Vws K F σ ρ (v :: vs) (d :: ds)
theorem Vws.ext {K : PySem.W.Frag} {F F' : Hp} {σ : L2.St} {ρ : Nv} (e : Ext F F') : ∀ {vs : List V} {ds : List D}, Vws K F σ ρ vs ds → Vws K F' σ ρ vs ds
  | _, _, .nil => .nil
  | _, _, .cons a b => .cons (a.ext e) (Vws.ext e b)
def tWA (K : PySem.W.Frag) (cs : List Addr) (f : Nv → Option (List D)) : TA := fun σ H Q => ∃ Z F ρ ds, Rep K cs Z F H σ ρ ∧ f ρ = some ds ∧ ∀ vs F' H', Ext F F' → Rep K cs Z F' H' σ ρ → Vws K F' σ ρ vs ds → Q vs H'

section
variable (cs : List Addr) (X : Cx)
structure EP' (e : Expr) (f : Nv → Option D) : Prop where
  h : PE X e (tP X.K cs f)
structure EW (e : Expr) (f : Nv → Option D) : Prop where
  h : PE X e (tW X.K cs f)
structure EN (e : Expr) (f : Nv → Option D) : Prop where
  h : PE X e (tN X.K cs f)
structure ET (e : Expr) (f : Nv → Option Bool) : Prop where
  h : PT X e (tPT X.K cs f)
structure EWs (es : List Expr) (f : Nv → Option (List D)) : Prop where
  h : PA X es (tWA X.K cs f)
structure EPs (es : List Expr) (f : Nv → Option (List D)) : Prop where
  h : PA X es (tPA X.K cs f)
end
section
variable {cs : List Addr} {X : Cx} {e a b c : Expr} {pos : Pos}
theorem pe_imp {t t' : TE} (h : PE X e t) (i : ∀ σ H Q, t' σ H Q → t σ H Q) : PE X e t' := ⟨fun pins s σ H Q I q => h.run pins s σ H Q I (i σ H Q q)⟩
theorem pt_imp {t t' : TT} (h : PT X e t) (i : ∀ σ H Q, t' σ H Q → t σ H Q) : PT X e t' := ⟨fun pins s σ H Q I q => h.run pins s σ H Q I (i σ H Q q)⟩
theorem pw_imp {t t' : TT} (h : PW X e t) (i : ∀ σ H Q, t' σ H Q → t σ H Q) : PW X e t' := ⟨fun wh pins s σ H Q I q => h.run wh pins s σ H Q I (i σ H Q q)⟩
theorem pa_imp {es : List Expr} {t t' : TA} (h : PA X es t) (i : ∀ σ H Q, t' σ H Q → t σ H Q) : PA X es t' := ⟨fun p pins s σ H Q I q => h.run p pins s σ H Q I (i σ H Q q)⟩
theorem ps_imp {st : Stmt} {t t' : TS} (h : PS X st t) (i : ∀ D σ H, t' D σ H → t D σ H) : PS X st t' := ⟨fun pins s σ H D I q => h.run pins s σ H D I (i D σ H q)⟩
theorem pss_imp {st : List Stmt} {t t' : TS} (h : PSs X st t) (i : ∀ D σ H, t' D σ H → t D σ H) : PSs X st t' := ⟨fun pins s σ H D I q => h.run pins s σ H D I (i D σ H q)⟩

theorem EP'.w {f : Nv → Option D} (h : EP' cs X e f) : EW cs X e f := ⟨pe_imp h.h fun _ _ _ ⟨Z, F, ρ, d, R, ef, q⟩ => ⟨Z, F, ρ, d, R, ef, fun v F' H' e' R' r => q v F' H' e' R' (.inl r)⟩⟩
theorem EN.p {f : Nv → Option D} (h : EN cs X e f) : EP' cs X e f := ⟨pe_imp h.h fun _ _ _ ⟨Z, F, ρ, d, R, ef, q⟩ => ⟨Z, F, ρ, d, R, ef, fun p F' H' e' R' fp zp mp ow => by
  obtain ⟨o, h1, h2⟩ := ow.rp
  exact q _ _ _ (e'.trans (Ext.upd fp)) (R'.give h1 fp zp mp) (h2 _ (Ext.upd fp) upd_same)⟩⟩
theorem EN.w {f : Nv → Option D} (h : EN cs X e f) : EW cs X e f := h.p.w

/-! ### constants and names -/
theorem e_int {i : Int} {j : Nat} : EP' cs X (.Constant (.int i) j pos) (fun _ => some (.int i)) := ⟨pe_imp pe_int fun _ _ _ ⟨Z, F, ρ, d, R, ef, q⟩ => by
  cases ef
  exact q _ F _ (Ext.refl F) R (.int i)⟩
theorem e_str {i : Str} {j : Nat} : EP' cs X (.Constant (.str i) j pos) (fun _ => some (.str i)) := ⟨pe_imp pe_str fun _ _ _ ⟨Z, F, ρ, d, R, ef, q⟩ => by
  cases ef
  exact q _ F _ (Ext.refl F) R (.str i)⟩
theorem e_bool {i : Bool} {j : Nat} : EP' cs X (.Constant (.bool i) j pos) (fun _ => some (.bool i)) := ⟨pe_imp pe_bl fun _ _ _ ⟨Z, F, ρ, d, R, ef, q⟩ => by
  cases ef
  exact q _ F _ (Ext.refl F) R (.bl i)⟩
theorem e_none {j : Nat} : EP' cs X (.Constant .none j pos) (fun _ => some .none) := ⟨pe_imp pe_non fun _ _ _ ⟨Z, F, ρ, d, R, ef, q⟩ => by
  cases ef
  exact q _ F _ (Ext.refl F) R .non⟩
/-- a name, read as shared data -/
def nmP (i : Nat) : Nv → Option D := fun ρ => match ρ[i]? with
  | some (some (.sh d)) => some d
  | _ => none
/-- .. or as what it holds now -/
def nmW (i : Nat) : Nv → Option D := fun ρ => match ρ[i]? with
  | some (some c) => some c.got
  | _ => none
theorem e_nameP {i : Nat} {x : Str} (h : PE X (.Name x pos) (tVar i)) : EP' cs X (.Name x pos) (nmP i) := ⟨pe_imp h fun σ H Q ⟨Z, F, ρ, d, R, ef, q⟩ => by
  unfold nmP at ef
  split at ef
  · rename_i d' e
    cases ef
    obtain ⟨v, h1, h2⟩ := R.sh i _ e
    exact ⟨v, h1, q v F H (Ext.refl F) R h2⟩
  · cases ef⟩
theorem e_nameW {i : Nat} {x : Str} (h : PE X (.Name x pos) (tVar i)) : EW cs X (.Name x pos) (nmW i) := ⟨pe_imp h fun σ H Q ⟨Z, F, ρ, d, R, ef, q⟩ => by
  unfold nmW at ef
  split at ef
  · rename_i c e
    cases ef
    cases hc : c.mine with
    | true =>
      obtain ⟨a, h1, _⟩ := R.mine i c e hc
      exact ⟨.ref a, h1, q _ F H (Ext.refl F) R (.inr ⟨i, c, e, hc, rfl, h1⟩)⟩
    | false =>
      cases c with
      | sh d =>
        obtain ⟨v, h1, h2⟩ := R.sh i _ e
        exact ⟨v, h1, q v F H (Ext.refl F) R (.inl h2)⟩
      | ow d => cases hc
      | io a d => cases hc
  · cases ef⟩
/-- a constant of the module -/
theorem e_glob {x : Str} {v : V} {d : D} (h : PE X (.Name x pos) (tC v)) (r : ∀ F, Rp X.K F v d) : EP' cs X (.Name x pos) (fun _ => some d) := ⟨pe_imp h fun _ H Q ⟨Z, F, ρ, d, R, ef, q⟩ => by
  cases ef
  exact q _ F H (Ext.refl F) R (r F)⟩

/-! ### operators -/
/-- what an operator does with data -/
def OpS (X : Cx) (cs : List Addr) (r : R2) (g : D → D → Option D) : Prop := ∀ (Z F H : Hp) (σ : L2.St) (ρ : Nv) (v u : V) (x y d : D) (Q : VK), Rep X.K cs Z F H σ ρ → Vw X.K F σ ρ v x → Vw X.K F σ ρ u y → g x y = some d →
  (∀ w F' H', Ext F F' → Rep X.K cs Z F' H' σ ρ → Rp X.K F' w d → Q w H') → r v u H Q
def op2 (g : D → D → Option D) (fa fb : Nv → Option D) : Nv → Option D := fun ρ => (fa ρ).bind fun x => (fb ρ).bind fun y => g x y
theorem t_op2 {r : R2} {g : D → D → Option D} (h : OpS X cs r g) {fa fb : Nv → Option D} : ∀ σ H Q, tP X.K cs (op2 g fa fb) σ H Q → tOp r (tW X.K cs fa) (tW X.K cs fb) σ H Q := fun σ H Q ⟨Z, F, ρ, d, R, ef, q⟩ => by
  unfold op2 at ef
  cases ea : fa ρ with
  | none => rw [ea] at ef; cases ef
  | some x =>
    rw [ea] at ef
    cases eb : fb ρ with
    | none => rw [show (some x).bind _ = _ from rfl, eb] at ef; cases ef
    | some y =>
      rw [show (some x).bind _ = _ from rfl, eb] at ef
      exact ⟨Z, F, ρ, x, R, ea, fun v F1 H1 e1 R1 w1 => ⟨Z, F1, ρ, y, R1, eb, fun u F2 H2 e2 R2 w2 => h Z F2 H2 σ ρ v u x y d Q R2 (w1.ext e2) w2 ef fun w F' H' e3 R3 r3 => q w F' H' ((e1.trans e2).trans e3) R3 r3⟩⟩
end
end DS

namespace DS
open PySem L2

/-! ## operators by values -/
/-- an operator on data: what it is told of its operands, what it gives -/
def rD (K : PySem.W.Frag) (cs : List Addr) (g : D → D → Option D) : R2 := fun v u H Q => ∃ Z F σ ρ x y d, Rep K cs Z F H σ ρ ∧ Vw K F σ ρ v x ∧ Vw K F σ ρ u y ∧ g x y = some d ∧ ∀ w F' H', Ext F F' → Rep K cs Z F' H' σ ρ → Rp K F' w d → Q w H'
theorem t_opD {K : PySem.W.Frag} {cs : List Addr} {g : D → D → Option D} {fa fb : Nv → Option D} : ∀ σ H Q, tP K cs (op2 g fa fb) σ H Q → tOp (rD K cs g) (tW K cs fa) (tW K cs fb) σ H Q := fun σ H Q ⟨Z, F, ρ, d, R, ef, q⟩ => by
  unfold op2 at ef
  obtain ⟨x, ea, ef⟩ := Option.bind_eq_some_iff.mp ef
  obtain ⟨y, eb, ef⟩ := Option.bind_eq_some_iff.mp ef
  exact ⟨Z, F, ρ, x, R, ea, fun v F1 H1 e1 R1 w1 => ⟨Z, F1, ρ, y, R1, eb, fun u F2 H2 e2 R2 w2 => ⟨Z, F2, σ, ρ, x, y, d, R2, w1.ext e2, w2, ef, fun w F' H' e3 R3 r3 => q w F' H' ((e1.trans e2).trans e3) R3 r3⟩⟩⟩
section
variable {K : PySem.W.Frag} {cs : List Addr} {Z F H : Hp} {σ : L2.St} {ρ : Nv} {v : V}
theorem Rep.vsc (R : Rep K cs Z F H σ ρ) {d : D} (h : Vw K F σ ρ v d) (hd : ∀ H' a, ¬ Own K F H' a d) : Rp K F v d := by
  rcases h with h | ⟨i, c, h1, h2, rfl, h3⟩
  · exact h
  · obtain ⟨a, _, _, _, o⟩ := R.mine i c h1 h2
    exact (hd _ _ o).elim
theorem Rep.vint (R : Rep K cs Z F H σ ρ) {i : Int} (h : Vw K F σ ρ v (.int i)) : v = .int i := by
  cases R.vsc h fun _ _ z => z
  rfl
theorem Rep.vbool (R : Rep K cs Z F H σ ρ) {i : Bool} (h : Vw K F σ ρ v (.bool i)) : v = .bl i := by
  cases R.vsc h fun _ _ z => z
  rfl
theorem Rep.vstr (R : Rep K cs Z F H σ ρ) {i : Str} (h : Vw K F σ ρ v (.str i)) : v = .str i := by
  cases R.vsc h fun _ _ z => z
  rfl
theorem Rep.vnone (R : Rep K cs Z F H σ ρ) (h : Vw K F σ ρ v .none) : v = .non := by
  cases R.vsc h fun _ _ z => z
  rfl
mutual
theorem Rp.dp : ∀ {v : V} {d : D}, Rp K F v d → d.canLay0 = true → Dp K F v d
  | _, _, .non, _ => .non
  | _, _, .bl b, _ => .bl b
  | _, _, .int i, _ => .int i
  | _, _, .str x, _ => .str x
  | _, _, .lst s r, h => .lst s (Rps.dp r (by simpa [PyData.canLay0] using h))
  | _, _, .tup s r, h => .tup s (Rps.dp r (by simpa [PyData.canLay0] using h))
  | _, _, .dK _ _, h => by simp [PyData.canLay0] at h
  | _, _, .dT _ _ _, h => by simp [PyData.canLay0] at h
theorem Rps.dp : ∀ {vs : List V} {ds : List D}, Rps K F vs ds → PyData.canLayAll0 ds = true → DpAll K F vs ds
  | _, _, .nil, _ => .nil
  | _, _, .cons a b, h => by
    rw [PyData.canLayAll0, Bool.and_eq_true] at h
    exact .cons (Rp.dp a h.1) (Rps.dp b h.2)
end
end

def addD : D → D → Option D
  | .int i, .int j => some (.int (i + j))
  | .str x, .str y => if x.length + y.length ≤ 100000 then some (.str (x ++ y)) else none
  | .list xs, .list ys => if xs.length + ys.length ≤ 100000 then some (.list (xs ++ ys)) else none
  | _, _ => none
def subD : D → D → Option D
  | .int i, .int j => some (.int (i - j))
  | _, _ => none
def mulD : D → D → Option D
  | .int i, .int j => if -1000000 < j ∧ j < 1000000 then some (.int (i * j)) else none
  | _, _ => none
def fdivD : D → D → Option D
  | .int i, .int j => if 0 < j ∧ j < 1073741824 then some (.int (i / j)) else none
  | _, _ => none
def modD : D → D → Option D
  | .int i, .int j => if 0 < j then some (.int (i % j)) else none
  | _, _ => none
def eqD (x y : D) : Option D := if SeqAt.shaped x = true ∧ SeqAt.shaped y = true then some (.bool (PyData.eqv x y)) else none
def neD (x y : D) : Option D := if SeqAt.shaped x = true ∧ SeqAt.shaped y = true then some (.bool (!PyData.eqv x y)) else none
def ltD : D → D → Option D
  | .int i, .int j => some (.bool (decide (i < j)))
  | _, _ => none
def leD : D → D → Option D
  | .int i, .int j => some (.bool (decide (i ≤ j)))
  | .str x, .str y => some (.bool (!decide (y.cps.toList < x.cps.toList)))
  | _, _ => none
def gtD : D → D → Option D
  | .int i, .int j => some (.bool (decide (j < i)))
  | _, _ => none
def geD : D → D → Option D
  | .int i, .int j => some (.bool (decide (j ≤ i)))
  | _, _ => none
def isNone : D → Bool
  | .none => true
  | _ => false
def isD (x : D) : D → Option D
  | .none => some (.bool (isNone x))
  | _ => none
def isntD (x : D) : D → Option D
  | .none => some (.bool (!isNone x))
  | _ => none
/-- one sign in a text, or something flat among flat things -/
def inD (x y : D) : Option Bool := match x, y with
  | .str a, .str z => if a.length = 1 then some (decide (a.cps.getD 0 0 ∈ z.cps.toList)) else none
  | x, .list ds => if SeqAt.shaped x = true ∧ SeqAt.shaped (.list ds) = true then some (ds.any fun z => PyData.eqv z x) else none
  | _, _ => none
def inD' (x y : D) : Option D := (inD x y).map .bool
def ninD' (x y : D) : Option D := (inD x y).map fun b => .bool (!b)

/-- list + list, whatever slots they have -/
theorem list_cat (l : Addr) (it : Array Value) (n : Nat) (sl : Array (Option Value)) (b : Addr) (it2 : Array Value) (n2 : Nat) (sl2 : Array (Option Value)) (hc : it.size + it2.size ≤ sizeLine) :
    Meets (Builtin.«list.__add__» ⟨[.ref l, .ref b], []⟩) (fun _ R s => s.heap.get? l = some { cls := .type "list", dict := none, data := .seq it n, slots := sl } ∧ s.heap.get? b = some { cls := .type "list", dict := none, data := .seq it2 n2, slots := sl2 } ∧
      R (.ok (.ret (Value.ref s.heap.objs.size))) { s with heap := s.heap.push { cls := Value.type "list", data := Data.seq (it ++ it2) }, toks := s.toks }) :=
  .of_wp fun prog w A R s h => by
    obtain ⟨hp, g, d, tk, os⟩ := s
    obtain ⟨hl, hb, h⟩ := h
    have f3 := AutoSeq1.sub_list_list
    wp_walk using AutoSeq1.wpAny_loadPart' hl, AutoSeq1.wpAny_loadPart' hb
    exact ⟨_, rfl, h⟩
section
variable {X : Cx} {cs : List Addr}
theorem od_add : OpR X (binaryOp .Add) (rD X.K cs addD) := by
  rintro pins s σ H v u a b Q I rx ry ⟨Z, F, σ', ρ, x, y, d, R, w1, w2, e, q⟩
  unfold addD at e
  split at e
  · cases e
    cases R.vint w1
    cases R.vint w2
    exact op_add pins s σ H _ _ a b Q I rx ry ⟨_, _, rfl, rfl, q _ F H (Ext.refl F) R (.int _)⟩
  · rename_i x y
    split at e
    · rename_i hl
      cases e
      cases R.vstr w1
      cases R.vstr w2
      exact op_add_str pins s σ H _ _ a b Q I rx ry ⟨_, _, rfl, rfl, Nat.le_trans hl (by decide), q _ F H (Ext.refl F) R (.str _)⟩
    · cases e
  · rename_i xs ys
    split at e
    · rename_i hl
      cases e
      obtain ⟨a1, vs, rfl, s1, r1⟩ := R.lst w1
      obtain ⟨a2, ws, rfl, s2, r2⟩ := R.lst w2
      cases rx
      cases ry
      obtain ⟨it1, t1, p1, z1⟩ := I.list s1
      obtain ⟨it2, t2, p2, z2⟩ := I.list s2
      have l1 := t1.length
      have l2 := t2.length
      have k1 := r1.len
      have k2 := r2.len
      have hz : vs.length + ws.length ≤ sizeLine := by
        have : (100000 : Nat) ≤ sizeLine := by decide
        omega
      obtain ⟨⟨oc, od, dt, sl⟩, n, h1, h2, h3, h4⟩ := p1
      obtain ⟨⟨oc2, od2, dt2, sl2⟩, n2, g1, g2, g3, g4⟩ := p2
      simp only at h2 h3 h4 g2 g3 g4
      subst h2 h3 h4 g2 g3 g4
      refine concat_meets ⟨_, h1, rfl⟩ ⟨_, g1, rfl⟩ noFill_list_add seq_list_add PySem.F.slot_list_add PySem.F.entry_list_add (PySem.F.args_list_add_2 _ _) (list_cat a1 it1.toArray n sl a2 it2.toArray n2 sl2 (by simp only [List.size_toArray]; omega)) ⟨h1, g1, ?_⟩
      have ea : it1.toArray ++ it2.toArray = (it1 ++ it2).toArray := by simp
      rw [ea]
      have hn : H s.heap.objs.size = none := I.fresh
      obtain ⟨R', e', fp⟩ := R.new (o := .lst (vs ++ ws)) hn
      exact ⟨.ref _, _, I.lnew (t' := s.toks) (t1.append t2) (by rw [List.length_append]; omega), rfl, q _ _ _ e' R' (.lst (.inl (.inl upd_same)) ((r1.app r2).ext e'))⟩
    · cases e
  · cases e

theorem od_sub : OpR X (binaryOp .Sub) (rD X.K cs subD) := by
  rintro pins s σ H v u a b Q I rx ry ⟨Z, F, σ', ρ, x, y, d, R, w1, w2, e, q⟩
  unfold subD at e
  split at e
  · cases e
    cases R.vint w1
    cases R.vint w2
    exact op_sub pins s σ H _ _ a b Q I rx ry ⟨_, _, rfl, rfl, q _ F H (Ext.refl F) R (.int _)⟩
  · cases e
theorem od_mul : OpR X (binaryOp .Mult) (rD X.K cs mulD) := by
  rintro pins s σ H v u a b Q I rx ry ⟨Z, F, σ', ρ, x, y, d, R, w1, w2, e, q⟩
  unfold mulD at e
  split at e
  · split at e
    · rename_i hc
      cases e
      cases R.vint w1
      cases R.vint w2
      exact op_mul pins s σ H _ _ a b Q I rx ry ⟨_, _, rfl, rfl, .inr ⟨by omega, by omega⟩, q _ F H (Ext.refl F) R (.int _)⟩
    · cases e
  · cases e
theorem od_fdiv : OpR X (binaryOp .FloorDiv) (rD X.K cs fdivD) := by
  rintro pins s σ H v u a b Q I rx ry ⟨Z, F, σ', ρ, x, y, d, R, w1, w2, e, q⟩
  unfold fdivD at e
  split at e
  · split at e
    · rename_i hc
      cases e
      cases R.vint w1
      cases R.vint w2
      exact op_fdiv pins s σ H _ _ a b Q I rx ry ⟨_, _, rfl, rfl, hc, q _ F H (Ext.refl F) R (.int _)⟩
    · cases e
  · cases e
theorem od_mod : OpR X (binaryOp .Mod) (rD X.K cs modD) := by
  rintro pins s σ H v u a b Q I rx ry ⟨Z, F, σ', ρ, x, y, d, R, w1, w2, e, q⟩
  unfold modD at e
  split at e
  · split at e
    · rename_i hc
      cases e
      cases R.vint w1
      cases R.vint w2
      exact op_mod pins s σ H _ _ a b Q I rx ry ⟨_, _, rfl, rfl, hc, q _ F H (Ext.refl F) R (.int _)⟩
    · cases e
  · cases e
theorem shp {d : D} (h : SeqAt.shaped d = true) : d.canLay0 = true := SeqAt.canLay_of_shaped h
theorem od_eq (hu : X.A.units + 64 < cLine) : OpR X (compareOp .Eq) (rD X.K cs eqD) := by
  rintro pins s σ H v u a b Q I rx ry ⟨Z, F, σ', ρ, x, y, d, R, w1, w2, e, q⟩
  unfold eqD at e
  split at e
  · rename_i hc
    cases e
    exact op_eqD hu pins s σ H _ _ a b Q I rx ry ⟨x, y, (R.all w1).dp (shp hc.1), (R.all w2).dp (shp hc.2), hc.1, hc.2, q _ F H (Ext.refl F) R (.bl _)⟩
  · cases e
theorem od_ne (hu : X.A.units + 64 < cLine) : OpR X (compareOp .NotEq) (rD X.K cs neD) := by
  rintro pins s σ H v u a b Q I rx ry ⟨Z, F, σ', ρ, x, y, d, R, w1, w2, e, q⟩
  unfold neD at e
  split at e
  · rename_i hc
    cases e
    exact op_neD hu pins s σ H _ _ a b Q I rx ry ⟨x, y, (R.all w1).dp (shp hc.1), (R.all w2).dp (shp hc.2), hc.1, hc.2, q _ F H (Ext.refl F) R (.bl _)⟩
  · cases e
theorem od_lt : OpR X (compareOp .Lt) (rD X.K cs ltD) := by
  rintro pins s σ H v u a b Q I rx ry ⟨Z, F, σ', ρ, x, y, d, R, w1, w2, e, q⟩
  unfold ltD at e
  split at e
  · cases e
    cases R.vint w1
    cases R.vint w2
    exact op_lt pins s σ H _ _ a b Q I rx ry ⟨_, _, rfl, rfl, q _ F H (Ext.refl F) R (.bl _)⟩
  · cases e
theorem od_gt : OpR X (compareOp .Gt) (rD X.K cs gtD) := by
  rintro pins s σ H v u a b Q I rx ry ⟨Z, F, σ', ρ, x, y, d, R, w1, w2, e, q⟩
  unfold gtD at e
  split at e
  · cases e
    cases R.vint w1
    cases R.vint w2
    exact op_gt pins s σ H _ _ a b Q I rx ry ⟨_, _, rfl, rfl, q _ F H (Ext.refl F) R (.bl _)⟩
  · cases e
theorem od_ge : OpR X (compareOp .GtE) (rD X.K cs geD) := by
  rintro pins s σ H v u a b Q I rx ry ⟨Z, F, σ', ρ, x, y, d, R, w1, w2, e, q⟩
  unfold geD at e
  split at e
  · cases e
    cases R.vint w1
    cases R.vint w2
    exact op_ge pins s σ H _ _ a b Q I rx ry ⟨_, _, rfl, rfl, q _ F H (Ext.refl F) R (.bl _)⟩
  · cases e
theorem od_le : OpR X (compareOp .LtE) (rD X.K cs leD) := by
  rintro pins s σ H v u a b Q I rx ry ⟨Z, F, σ', ρ, x, y, d, R, w1, w2, e, q⟩
  unfold leD at e
  split at e
  · cases e
    cases R.vint w1
    cases R.vint w2
    exact op_le pins s σ H _ _ a b Q I rx ry ⟨_, _, rfl, rfl, q _ F H (Ext.refl F) R (.bl _)⟩
  · cases e
    cases R.vstr w1
    cases R.vstr w2
    exact op_le_str pins s σ H _ _ a b Q I rx ry ⟨_, _, rfl, rfl, q _ F H (Ext.refl F) R (.bl _)⟩
  · cases e
theorem Rep.isN {K : PySem.W.Frag} {Z F H : Hp} {σ : L2.St} {ρ : Nv} {v : V} {x : D} (R : Rep K cs Z F H σ ρ) (h : Vw K F σ ρ v x) : decide (v = .non) = isNone x := by
  have r := R.all h
  cases r <;> simp [isNone]
theorem od_is : OpR X (compareOp .Is) (rD X.K cs isD) := by
  rintro pins s σ H v u a b Q I rx ry ⟨Z, F, σ', ρ, x, y, d, R, w1, w2, e, q⟩
  unfold isD at e
  split at e
  · cases e
    cases R.vnone w2
    refine op_isN pins s σ H _ _ a b Q I rx ry ⟨rfl, ?_⟩
    rw [R.isN w1]
    exact q _ F H (Ext.refl F) R (.bl _)
  · cases e
theorem od_isnt : OpR X (compareOp .IsNot) (rD X.K cs isntD) := by
  rintro pins s σ H v u a b Q I rx ry ⟨Z, F, σ', ρ, x, y, d, R, w1, w2, e, q⟩
  unfold isntD at e
  split at e
  · cases e
    cases R.vnone w2
    refine op_notN pins s σ H _ _ a b Q I rx ry ⟨rfl, ?_⟩
    rw [R.isN w1]
    exact q _ F H (Ext.refl F) R (.bl _)
  · cases e
theorem one_sign {a : Str} (h : a.length = 1) : a = ⟨#[a.cps.getD 0 0]⟩ := by
  obtain ⟨⟨l⟩⟩ := a
  have h' : l.length = 1 := h
  match l, h' with
  | [c], _ => rfl
theorem od_in (hu : X.A.units + 65 < cLine) : OpR X (compareOp .In) (rD X.K cs inD') := by
  rintro pins s σ H v u a b Q I rx ry ⟨Z, F, σ', ρ, x, y, d, R, w1, w2, e, q⟩
  unfold inD' at e
  obtain ⟨bb, e, rfl⟩ := Option.map_eq_some_iff.mp e
  unfold inD at e
  split at e
  · split at e
    · rename_i hl
      cases e
      cases R.vstr w1
      cases R.vstr w2
      refine op_in_sign pins s σ H _ _ a b Q I rx ry ⟨_, _, congrArg V.str (one_sign hl), rfl, q _ F H (Ext.refl F) R (.bl _)⟩
    · cases e
  · split at e
    · rename_i hc
      cases e
      exact op_inD hu pins s σ H _ _ a b Q I rx ry ⟨_, _, (R.all w1).dp (shp hc.1), (R.all w2).dp (shp hc.2), hc.1, hc.2, q _ F H (Ext.refl F) R (.bl _)⟩
    · cases e
  · cases e
theorem od_nin (hu : X.A.units + 65 < cLine) : OpR X (compareOp .NotIn) (rD X.K cs ninD') := by
  rintro pins s σ H v u a b Q I rx ry ⟨Z, F, σ', ρ, x, y, d, R, w1, w2, e, q⟩
  unfold ninD' at e
  obtain ⟨bb, e2, rfl⟩ := Option.map_eq_some_iff.mp e
  clear e
  unfold inD at e2
  split at e2
  · split at e2
    · rename_i hl
      obtain rfl := Option.some.inj e2
      cases R.vstr w1
      cases R.vstr w2
      refine op_notIn_sign pins s σ H _ _ a b Q I rx ry ⟨_, _, congrArg V.str (one_sign hl), rfl, q _ F H (Ext.refl F) R (.bl _)⟩
    · cases e2
  · split at e2
    · rename_i hc
      obtain rfl := Option.some.inj e2
      exact op_notInD hu pins s σ H _ _ a b Q I rx ry ⟨_, _, (R.all w1).dp (shp hc.1), (R.all w2).dp (shp hc.2), hc.1, hc.2, q _ F H (Ext.refl F) R (.bl _)⟩
    · cases e2
  · cases e2
end
end DS

namespace DS
open PySem L2

/-! ## expressions by their parts -/
section
variable {cs : List Addr} {X : Cx} {a b c e : Expr} {es : List Expr} {pos : Pos} {fa fb fc : Nv → Option D} {g g' : D → D → Option D} {ga gb : Nv → Option Bool}
theorem e_op {op : Operator} (ho : OpR X (binaryOp op) (rD X.K cs g)) (ha : EW cs X a fa) (hb : EW cs X b fb) : EP' cs X (.BinOp a op b pos) (op2 g fa fb) := ⟨pe_imp (pe_op ho ha.h hb.h) t_opD⟩
theorem e_cmp {op : CmpOp} (ho : OpR X (compareOp op) (rD X.K cs g)) (ha : EW cs X a fa) (hb : EW cs X b fb) (hm : behindInMarks op b = false) : EP' cs X (.Compare a [op] [b] pos) (op2 g fa fb) := ⟨pe_imp (pe_cmpR ho ha.h hb.h hm) t_opD⟩
def asB : D → Option Bool
  | .bool b => some b
  | _ => none
def opT (g : D → D → Option D) (fa fb : Nv → Option D) : Nv → Option Bool := fun ρ => (op2 g fa fb ρ).bind asB
theorem asB_some {d : D} {b : Bool} (h : asB d = some b) : d = .bool b := by
  cases d <;> simp [asB] at h
  rw [h]
theorem Rp.isbl {K : PySem.W.Frag} {F : Hp} {v : V} {b : Bool} (h : Rp K F v (.bool b)) : v = .bl b := by
  cases h
  rfl
theorem et_cmp {op : CmpOp} (ho : OpR X (compareOp op) (rD X.K cs g)) (ha : EW cs X a fa) (hb : EW cs X b fb) (hm : behindInMarks op b = false) : ET cs X (.Compare a [op] [b] pos) (opT g fa fb) := ⟨pt_imp (pt_cmpR ho ha.h hb.h hm) fun σ H Q ⟨Z, F, ρ, k, R, ef, q⟩ => by
  obtain ⟨d, e1, e2⟩ := Option.bind_eq_some_iff.mp ef
  have hk0 := asB_some e2
  exact t_opD σ H _ ⟨Z, F, ρ, _, R, e1, fun v F' H' e' R' r => ⟨k, (hk0 ▸ r).isbl, q F' H' e' R'⟩⟩⟩
/-- a op b op' c -/
def ch3 (g g' : D → D → Option D) (fa fb fc : Nv → Option D) : Nv → Option D := fun ρ => (fa ρ).bind fun x => (fb ρ).bind fun y => (g x y).bind fun z => (asB z).bind fun k => if k = true then (fc ρ).bind fun w => g' y w else some (.bool false)
theorem t_chain {K : PySem.W.Frag} : ∀ σ H Q, tP K cs (ch3 g g' fa fb fc) σ H Q → tChain (rD K cs g) (rD K cs g') (tW K cs fa) (tW K cs fb) (tW K cs fc) σ H Q := fun σ H Q ⟨Z, F, ρ, d, R, ef, q⟩ => by
  unfold ch3 at ef
  obtain ⟨x, ea, ef⟩ := Option.bind_eq_some_iff.mp ef
  obtain ⟨y, eb, ef⟩ := Option.bind_eq_some_iff.mp ef
  obtain ⟨z, ez, ef⟩ := Option.bind_eq_some_iff.mp ef
  obtain ⟨k, ek, ef⟩ := Option.bind_eq_some_iff.mp ef
  have hk0 := asB_some ek
  refine ⟨Z, F, ρ, x, R, ea, fun v F1 H1 e1 R1 w1 => ⟨Z, F1, ρ, y, R1, eb, fun u F2 H2 e2 R2 w2 => ⟨Z, F2, σ, ρ, x, y, _, R2, w1.ext e2, w2, ez, fun t F3 H3 e3 R3 r3 => ⟨k, (hk0 ▸ r3).isbl, ?_⟩⟩⟩⟩
  by_cases hk : k = true
  · rw [if_pos hk] at ef ⊢
    obtain ⟨w, ew, ef⟩ := Option.bind_eq_some_iff.mp ef
    exact ⟨Z, F3, ρ, w, R3, ew, fun s F4 H4 e4 R4 w4 => ⟨Z, F4, σ, ρ, y, w, d, R4, (w2.ext e3).ext e4, w4, ef, fun s' F5 H5 e5 R5 r5 => q s' F5 H5 ((((e1.trans e2).trans e3).trans e4).trans e5) R5 r5⟩⟩
  · rw [if_neg hk] at ef ⊢
    cases ef
    exact q _ F3 H3 ((e1.trans e2).trans e3) R3 (.bl false)
theorem e_chain {op op' : CmpOp} (ho : OpR X (compareOp op) (rD X.K cs g)) (ho' : OpR X (compareOp op') (rD X.K cs g')) (ha : EW cs X a fa) (hb : EW cs X b fb) (hc : EW cs X c fc) (hm : lastMarks [op, op'] [b, c] = false := by with_unfolding_all rfl) :
    EP' cs X (.Compare a [op, op'] [b, c] pos) (ch3 g g' fa fb fc) := ⟨pe_imp (pe_chain ho ho' ha.h hb.h hc.h hm) t_chain⟩
theorem et_chain {op op' : CmpOp} (ho : OpR X (compareOp op) (rD X.K cs g)) (ho' : OpR X (compareOp op') (rD X.K cs g')) (ha : EW cs X a fa) (hb : EW cs X b fb) (hc : EW cs X c fc) (hm : lastMarks [op, op'] [b, c] = false := by with_unfolding_all rfl) :
    ET cs X (.Compare a [op, op'] [b, c] pos) (fun ρ => (ch3 g g' fa fb fc ρ).bind asB) := ⟨pt_imp (pt_chain ho ho' ha.h hb.h hc.h hm) fun σ H Q ⟨Z, F, ρ, k, R, ef, q⟩ => by
  obtain ⟨d, e1, e2⟩ := Option.bind_eq_some_iff.mp ef
  have hk0 := asB_some e2
  exact t_chain σ H _ ⟨Z, F, ρ, _, R, e1, fun v F' H' e' R' r => ⟨k, (hk0 ▸ r).isbl, q F' H' e' R'⟩⟩⟩

/-! ### and, or, not, if -/
def andV (fa fb : Nv → Option D) : Nv → Option D := fun ρ => (fa ρ).bind fun x => (asB x).bind fun k => if k = true then fb ρ else some (.bool false)
def orV (fa fb : Nv → Option D) : Nv → Option D := fun ρ => (fa ρ).bind fun x => (asB x).bind fun k => if k = true then some (.bool true) else fb ρ
def notV (fa : Nv → Option D) : Nv → Option D := fun ρ => (fa ρ).bind fun x => (asB x).map fun k => .bool (!k)
def ifV (t : Nv → Option Bool) (fa fb : Nv → Option D) : Nv → Option D := fun ρ => (t ρ).bind fun k => if k = true then fa ρ else fb ρ
def andT (ga gb : Nv → Option Bool) : Nv → Option Bool := fun ρ => (ga ρ).bind fun k => if k = true then gb ρ else some false
def orT (ga gb : Nv → Option Bool) : Nv → Option Bool := fun ρ => (ga ρ).bind fun k => if k = true then some true else gb ρ
def notT (ga : Nv → Option Bool) : Nv → Option Bool := fun ρ => (ga ρ).map (!·)
theorem e_one {op : BoolOp} (h : EP' cs X a fa) : EP' cs X (.BoolOp op [a] pos) fa := ⟨pe_one h.h⟩
theorem e_and {rest : List Expr} (ha : EP' cs X a fa) (hb : EP' cs X (.BoolOp .And (b :: rest) pos) fb) : EP' cs X (.BoolOp .And (a :: b :: rest) pos) (andV fa fb) := ⟨pe_imp (pe_and ha.h hb.h) fun σ H Q ⟨Z, F, ρ, d, R, ef, q⟩ => by
  unfold andV at ef
  obtain ⟨x, ea, ef⟩ := Option.bind_eq_some_iff.mp ef
  obtain ⟨k, ek, ef⟩ := Option.bind_eq_some_iff.mp ef
  have hk0 := asB_some ek
  refine ⟨Z, F, ρ, _, R, ea, fun v F1 H1 e1 R1 r1 => ⟨k, (hk0 ▸ r1).isbl, ?_⟩⟩
  by_cases hk : k = true
  · rw [if_pos hk] at ef ⊢
    exact ⟨Z, F1, ρ, d, R1, ef, fun v F2 H2 e2 R2 r2 => q v F2 H2 (e1.trans e2) R2 r2⟩
  · rw [if_neg hk] at ef ⊢
    cases ef
    exact q _ F1 H1 e1 R1 (.bl false)⟩
theorem e_or {rest : List Expr} (ha : EP' cs X a fa) (hb : EP' cs X (.BoolOp .Or (b :: rest) pos) fb) : EP' cs X (.BoolOp .Or (a :: b :: rest) pos) (orV fa fb) := ⟨pe_imp (pe_or ha.h hb.h) fun σ H Q ⟨Z, F, ρ, d, R, ef, q⟩ => by
  unfold orV at ef
  obtain ⟨x, ea, ef⟩ := Option.bind_eq_some_iff.mp ef
  obtain ⟨k, ek, ef⟩ := Option.bind_eq_some_iff.mp ef
  have hk0 := asB_some ek
  refine ⟨Z, F, ρ, _, R, ea, fun v F1 H1 e1 R1 r1 => ⟨k, (hk0 ▸ r1).isbl, ?_⟩⟩
  by_cases hk : k = true
  · rw [if_pos hk] at ef ⊢
    cases ef
    exact q _ F1 H1 e1 R1 (.bl true)
  · rw [if_neg hk] at ef ⊢
    exact ⟨Z, F1, ρ, d, R1, ef, fun v F2 H2 e2 R2 r2 => q v F2 H2 (e1.trans e2) R2 r2⟩⟩
theorem e_not (ha : EP' cs X a fa) : EP' cs X (.UnaryOp .Not a pos) (notV fa) := ⟨pe_imp (pe_not ha.h) fun σ H Q ⟨Z, F, ρ, d, R, ef, q⟩ => by
  unfold notV at ef
  obtain ⟨x, ea, ef⟩ := Option.bind_eq_some_iff.mp ef
  obtain ⟨k, ek, ef⟩ := Option.map_eq_some_iff.mp ef
  have hk0 := asB_some ek
  subst ef
  exact ⟨Z, F, ρ, _, R, ea, fun v F1 H1 e1 R1 r1 => ⟨k, (hk0 ▸ r1).isbl, q _ F1 H1 e1 R1 (.bl _)⟩⟩⟩
theorem e_if (ht : ET cs X c ga) (ha : EP' cs X a fa) (hb : EP' cs X b fb) : EP' cs X (.IfExp c a b pos) (ifV ga fa fb) := ⟨pe_imp (pe_ifExp ht.h ha.h hb.h) fun σ H Q ⟨Z, F, ρ, d, R, ef, q⟩ => by
  unfold ifV at ef
  obtain ⟨k, ek, ef⟩ := Option.bind_eq_some_iff.mp ef
  refine ⟨Z, F, ρ, k, R, ek, fun F1 H1 e1 R1 => ?_⟩
  by_cases hk : k = true
  · rw [if_pos hk] at ef ⊢
    exact ⟨Z, F1, ρ, d, R1, ef, fun v F2 H2 e2 R2 r2 => q v F2 H2 (e1.trans e2) R2 r2⟩
  · rw [if_neg hk] at ef ⊢
    exact ⟨Z, F1, ρ, d, R1, ef, fun v F2 H2 e2 R2 r2 => q v F2 H2 (e1.trans e2) R2 r2⟩⟩
structure EPW (cs : List Addr) (X : Cx) (e : Expr) (f : Nv → Option Bool) : Prop where
  h : PW X e (tPT X.K cs f)
theorem et_pw (h : EPW cs X a ga) : ET cs X a ga := ⟨h.h.pt⟩
theorem ew_and1 (h : ET cs X a ga) : EPW cs X (.BoolOp .And [a] pos) ga := ⟨pw_and1 h.h⟩
theorem ew_or1 (h : ET cs X a ga) : EPW cs X (.BoolOp .Or [a] pos) ga := ⟨pw_or1 h.h⟩
theorem ew_and {rest : List Expr} (ha : ET cs X a ga) (hb : EPW cs X (.BoolOp .And (b :: rest) pos) gb) : EPW cs X (.BoolOp .And (a :: b :: rest) pos) (andT ga gb) := ⟨pw_imp (pw_and ha.h hb.h) fun σ H Q ⟨Z, F, ρ, d, R, ef, q⟩ => by
  unfold andT at ef
  obtain ⟨k, ek, ef⟩ := Option.bind_eq_some_iff.mp ef
  refine ⟨Z, F, ρ, k, R, ek, fun F1 H1 e1 R1 => ?_⟩
  by_cases hk : k = true
  · rw [if_pos hk] at ef ⊢
    exact ⟨Z, F1, ρ, d, R1, ef, fun F2 H2 e2 R2 => q F2 H2 (e1.trans e2) R2⟩
  · rw [if_neg hk] at ef ⊢
    cases ef
    exact q F1 H1 e1 R1⟩
theorem ew_or {rest : List Expr} (ha : ET cs X a ga) (hb : EPW cs X (.BoolOp .Or (b :: rest) pos) gb) : EPW cs X (.BoolOp .Or (a :: b :: rest) pos) (orT ga gb) := ⟨pw_imp (pw_or ha.h hb.h) fun σ H Q ⟨Z, F, ρ, d, R, ef, q⟩ => by
  unfold orT at ef
  obtain ⟨k, ek, ef⟩ := Option.bind_eq_some_iff.mp ef
  refine ⟨Z, F, ρ, k, R, ek, fun F1 H1 e1 R1 => ?_⟩
  by_cases hk : k = true
  · rw [if_pos hk] at ef ⊢
    cases ef
    exact q F1 H1 e1 R1
  · rw [if_neg hk] at ef ⊢
    exact ⟨Z, F1, ρ, d, R1, ef, fun F2 H2 e2 R2 => q F2 H2 (e1.trans e2) R2⟩⟩
theorem et_not (ha : ET cs X a ga) : ET cs X (.UnaryOp .Not a pos) (notT ga) := ⟨pt_imp (pt_not ha.h) fun σ H Q ⟨Z, F, ρ, d, R, ef, q⟩ => by
  unfold notT at ef
  obtain ⟨k, ek, rfl⟩ := Option.map_eq_some_iff.mp ef
  exact ⟨Z, F, ρ, k, R, ek, fun F1 H1 e1 R1 => q F1 H1 e1 R1⟩⟩
/-- truth -/
def truD : D → Option Bool
  | .none => some false
  | .bool b => some b
  | .int i => some (i != 0)
  | .str x => if x.length ≤ 100000 then some ((x.length : Int) != 0) else none
  | .list xs => some (!xs.isEmpty)
  | .tuple xs => some (!xs.isEmpty)
  | _ => none
theorem Rps.isEmpty {K : PySem.W.Frag} {F : Hp} {vs : List V} {ds : List D} (h : Rps K F vs ds) : vs.isEmpty = ds.isEmpty := by
  cases h <;> rfl
theorem tru_of {K : PySem.W.Frag} {Z F H : Hp} {σ : L2.St} {ρ : Nv} {v : V} {d : D} {k : Bool} (R : Rep K cs Z F H σ ρ) (w : Vw K F σ ρ v d) (h : truD d = some k) : TruV K v H k := by
  have r := R.all w
  cases r with
  | non => cases h; rfl
  | bl b => cases h; rfl
  | int i => cases h; rfl
  | str x =>
    have h : (if x.length ≤ 100000 then some ((x.length : Int) != 0) else none) = some k := h
    split at h
    · rename_i hl
      cases h
      exact ⟨Nat.le_trans hl (by decide), rfl⟩
    · cases h
  | lst s r => cases h; exact .inl ⟨_, s, by rw [r.isEmpty]⟩
  | tup s r => cases h; exact .inr (.inl ⟨_, s, by rw [r.isEmpty]⟩)
  | dK _ _ => cases h
  | dT _ _ _ => cases h
theorem et_val (h : EW cs X e fa) (he : ∀ whole, isTrue e X.env whole = (do let v ← whole; standAt e.pos; holding [v] (truthy v)) := by intro _; rfl) : ET cs X e (fun ρ => (fa ρ).bind truD) := ⟨pt_imp (pt_truth h.h he) fun σ H Q ⟨Z, F, ρ, k, R, ef, q⟩ => by
  obtain ⟨d, e1, e2⟩ := Option.bind_eq_some_iff.mp ef
  exact ⟨Z, F, ρ, d, R, e1, fun v F' H' e' R' w => ⟨k, tru_of R' w e2, q F' H' e' R'⟩⟩⟩

/-! ### argument lists, displays -/
def cons2 (fa : Nv → Option D) (fr : Nv → Option (List D)) : Nv → Option (List D) := fun ρ => (fa ρ).bind fun x => (fr ρ).map (x :: ·)
theorem ep_nil : EPs cs X [] (fun _ => some []) := ⟨pa_imp pa_nil fun σ H Q ⟨Z, F, ρ, d, R, ef, q⟩ => by
  cases ef
  exact q [] F H (Ext.refl F) R .nil⟩
theorem ep_cons {fr : Nv → Option (List D)} (ha : EP' cs X e fa) (hr : EPs cs X es fr) (hs : starEach (e :: es) X.env = (false, eval e X.env) :: starEach es X.env := by rfl) : EPs cs X (e :: es) (cons2 fa fr) := ⟨pa_imp (pa_cons ha.h hr.h hs) fun σ H Q ⟨Z, F, ρ, d, R, ef, q⟩ => by
  unfold cons2 at ef
  obtain ⟨x, ea, ef⟩ := Option.bind_eq_some_iff.mp ef
  obtain ⟨xs, er, rfl⟩ := Option.map_eq_some_iff.mp ef
  exact ⟨Z, F, ρ, x, R, ea, fun v F1 H1 e1 R1 r1 => ⟨Z, F1, ρ, xs, R1, er, fun vs F2 H2 e2 R2 r2 => q _ F2 H2 (e1.trans e2) R2 (.cons (r1.ext e2) r2)⟩⟩⟩
theorem ewa_nil : EWs cs X [] (fun _ => some []) := ⟨pa_imp pa_nil fun σ H Q ⟨Z, F, ρ, d, R, ef, q⟩ => by
  cases ef
  exact q [] F H (Ext.refl F) R .nil⟩
theorem ewa_cons {fr : Nv → Option (List D)} (ha : EW cs X e fa) (hr : EWs cs X es fr) (hs : starEach (e :: es) X.env = (false, eval e X.env) :: starEach es X.env := by rfl) : EWs cs X (e :: es) (cons2 fa fr) := ⟨pa_imp (pa_cons ha.h hr.h hs) fun σ H Q ⟨Z, F, ρ, d, R, ef, q⟩ => by
  unfold cons2 at ef
  obtain ⟨x, ea, ef⟩ := Option.bind_eq_some_iff.mp ef
  obtain ⟨xs, er, rfl⟩ := Option.map_eq_some_iff.mp ef
  exact ⟨Z, F, ρ, x, R, ea, fun v F1 H1 e1 R1 r1 => ⟨Z, F1, ρ, xs, R1, er, fun vs F2 H2 e2 R2 r2 => q _ F2 H2 (e1.trans e2) R2 (.cons (r1.ext e2) r2)⟩⟩⟩
def mkT (fr : Nv → Option (List D)) : Nv → Option D := fun ρ => (fr ρ).bind fun xs => if xs.length ≤ 100000 then some (.tuple xs) else none
def mkL (fr : Nv → Option (List D)) : Nv → Option D := fun ρ => (fr ρ).bind fun xs => if xs.length ≤ 100000 then some (.list xs) else none
theorem e_tup {k : Nat} {fr : Nv → Option (List D)} (h : EPs cs X es fr) : EP' cs X (.Tuple es k pos) (mkT fr) := ⟨pe_imp (pe_tup h.h) fun σ H Q ⟨Z, F, ρ, d, R, ef, q⟩ => by
  obtain ⟨xs, er, ef⟩ := Option.bind_eq_some_iff.mp ef
  split at ef
  · rename_i hl
    cases ef
    refine ⟨Z, F, ρ, xs, R, er, fun vs F1 H1 e1 R1 r1 => ⟨?_, fun p hp => ?_⟩⟩
    · rw [r1.len]
      exact Nat.le_trans hl (by decide)
    · obtain ⟨R2, e2, _⟩ := R1.new (o := .tup vs) hp
      exact q _ _ _ (e1.trans e2) R2 (.tup (.inl (.inl upd_same)) (r1.ext e2))
  · cases ef⟩
theorem e_lst {fr : Nv → Option (List D)} (h : EPs cs X es fr) : EN cs X (.List es pos) (mkL fr) := ⟨pe_imp (pe_lst h.h) fun σ H Q ⟨Z, F, ρ, d, R, ef, q⟩ => by
  obtain ⟨xs, er, ef⟩ := Option.bind_eq_some_iff.mp ef
  split at ef
  · rename_i hl
    cases ef
    refine ⟨Z, F, ρ, xs, R, er, fun vs F1 H1 e1 R1 r1 => ⟨?_, fun p hp => ?_⟩⟩
    · rw [r1.len]
      exact Nat.le_trans hl (by decide)
    · obtain ⟨R2, fp, zp, mp⟩ := R1.made (o := .lst vs) hp
      exact q _ _ _ e1 R2 fp zp mp ⟨vs, upd_same, r1⟩
  · cases ef⟩

/-! ### items, slices -/
def ixD : D → D → Option D
  | .list xs, .int i => atI xs i
  | .tuple xs, .int i => atI xs i
  | .str z, .int i => if z.length ≤ 100000 then (atI z.cps.toList i).map fun c => .str ⟨#[c]⟩ else none
  | _, _ => none
theorem atI_rp {K : PySem.W.Frag} {F : Hp} {vs : List V} {ds : List D} {i : Int} {d : D} (h : Rps K F vs ds) (e : atI ds i = some d) : ∃ v, atI vs i = some v ∧ Rp K F v d := by
  unfold atI at e ⊢
  rw [h.len]
  obtain ⟨j, e1, e2⟩ := Option.bind_eq_some_iff.mp e
  obtain ⟨v, e3, r⟩ := h.get e2
  exact ⟨v, by rw [e1]; exact e3, r⟩
theorem ox_ix : IxR X (rD X.K cs ixD) := by
  rintro value slice pins s σ H v u a b Q I rx ry ⟨Z, F, σ', ρ, x, y, d, R, w1, w2, e, q⟩ hs
  unfold ixD at e
  split at e
  · cases R.vint w2
    obtain ⟨a1, vs, rfl, s1, r1⟩ := R.lst w1
    obtain ⟨w, e2, r2⟩ := atI_rp r1 e
    exact ix_list value slice pins s σ H _ _ a b Q I rx ry ⟨a1, vs, _, w, rfl, rfl, s1, e2, q w F H (Ext.refl F) R r2⟩ hs
  · cases R.vint w2
    obtain ⟨a1, vs, rfl, _, s1, r1⟩ := R.tup w1
    obtain ⟨w, e2, r2⟩ := atI_rp r1 e
    exact ix_tup value slice pins s σ H _ _ a b Q I rx ry ⟨a1, vs, _, w, rfl, rfl, s1, e2, q w F H (Ext.refl F) R r2⟩ hs
  · cases R.vint w2
    cases R.vstr w1
    split at e
    · rename_i hl
      obtain ⟨c, e2, rfl⟩ := Option.map_eq_some_iff.mp e
      exact ix_str value slice pins s σ H _ _ a b Q I rx ry ⟨_, _, c, rfl, rfl, Nat.le_trans hl (by decide), e2, q _ F H (Ext.refl F) R (.str _)⟩ hs
    · cases e
  · cases e
theorem e_ix (ha : EW cs X a fa) (hb : EW cs X b fb) (hs : PlainIx b) : EP' cs X (.Subscript a b pos) (op2 ixD fa fb) := ⟨pe_imp (pe_ix ox_ix ha.h hb.h hs) t_opD⟩
/-- a bound of a slice -/
structure EO (cs : List Addr) (X : Cx) (e : Option Expr) (f : Nv → Option (Option Int)) : Prop where
  h : PO X e (fun σ H Q => ∃ Z F ρ o, Rep X.K cs Z F H σ ρ ∧ f ρ = some o ∧ ∀ F' H', Ext F F' → Rep X.K cs Z F' H' σ ρ → Q o H')
def asI : D → Option Int
  | .int i => some i
  | _ => none
theorem po_imp {o : Option Expr} {t t' : TO} (h : PO X o t) (i : ∀ σ H Q, t' σ H Q → t σ H Q) : PO X o t' := ⟨fun pins s σ H Q I q => h.run pins s σ H Q I (i σ H Q q)⟩
theorem eo_none : EO cs X none (fun _ => some none) := ⟨po_imp po_none fun σ H Q ⟨Z, F, ρ, o, R, ef, q⟩ => by
  cases ef
  exact q F H (Ext.refl F) R⟩
theorem eo_some (h : EP' cs X a fa) : EO cs X (some a) (fun ρ => (fa ρ).bind fun x => (asI x).map some) := ⟨po_imp (po_some h.h) fun σ H Q ⟨Z, F, ρ, o, R, ef, q⟩ => by
  obtain ⟨x, ea, ef⟩ := Option.bind_eq_some_iff.mp ef
  obtain ⟨i, ei, rfl⟩ := Option.map_eq_some_iff.mp ef
  have hx : x = .int i := by
    cases x <;> simp [asI] at ei
    rw [ei]
  subst hx
  refine ⟨Z, F, ρ, _, R, ea, fun v F1 H1 e1 R1 r1 => ?_⟩
  cases r1
  exact ⟨i, rfl, q F1 H1 e1 R1⟩⟩
def cutD (xs : List D) (lo hi : Option Int) : List D := (xs.drop (HT.sIx xs.length 0 lo)).take (HT.sIx xs.length xs.length hi - HT.sIx xs.length 0 lo)
theorem cut_rp {K : PySem.W.Frag} {F : Hp} {vs : List V} {ds : List D} (h : Rps K F vs ds) (lo hi : Option Int) : Rps K F (cutV vs lo hi) (cutD ds lo hi) := by
  unfold cutV cutD
  rw [h.len]
  exact (h.drop _).take _
/-- a slice of a list: a new one -/
def slL (fa : Nv → Option D) (fl fh : Nv → Option (Option Int)) : Nv → Option D := fun ρ => (fa ρ).bind fun x => (fl ρ).bind fun lo => (fh ρ).bind fun hi => match x with
  | .list xs => some (.list (cutD xs lo hi))
  | _ => none
theorem e_slL {lo hi : Option Expr} {p2 : Pos} {fl fh : Nv → Option (Option Int)} (ha : EW cs X a fa) (hl : EO cs X lo fl) (hh : EO cs X hi fh) : EN cs X (.Subscript a (.Slice lo hi none p2) pos) (slL fa fl fh) := ⟨pe_imp (pe_slice sl_list ha.h hl.h hh.h) fun σ H Q ⟨Z, F, ρ, d, R, ef, q⟩ => by
  unfold slL at ef
  obtain ⟨x, ea, ef⟩ := Option.bind_eq_some_iff.mp ef
  obtain ⟨l, el, ef⟩ := Option.bind_eq_some_iff.mp ef
  obtain ⟨h, eh, ef⟩ := Option.bind_eq_some_iff.mp ef
  split at ef
  · cases ef
    refine ⟨Z, F, ρ, _, R, ea, fun v F1 H1 e1 R1 w1 => ⟨Z, F1, ρ, l, R1, el, fun F2 H2 e2 R2 => ⟨Z, F2, ρ, h, R2, eh, fun F3 H3 e3 R3 => ?_⟩⟩⟩
    obtain ⟨a1, vs, rfl, s1, r1⟩ := R3.lst ((w1.ext e2).ext e3)
    refine ⟨a1, vs, rfl, s1, fun p hp => ?_⟩
    obtain ⟨R4, fp, zp, mp⟩ := R3.made (o := .lst (cutV vs l h)) hp
    exact q _ _ _ ((e1.trans e2).trans e3) R4 fp zp mp ⟨_, upd_same, cut_rp r1 l h⟩
  · cases ef⟩
/-- a slice of a text, of a tuple -/
def rSD (K : PySem.W.Frag) : V → Option Int → Option Int → Hp → VK → Prop := fun x lo hi H Q => rSlS x lo hi H Q ∨ rSlA K x lo hi H Q
def slS (fa : Nv → Option D) (fl fh : Nv → Option (Option Int)) : Nv → Option D := fun ρ => (fa ρ).bind fun x => (fl ρ).bind fun lo => (fh ρ).bind fun hi => match x with
  | .str z => if z.length ≤ 100000 then some (.str (cutS z lo hi)) else none
  | .tuple xs => some (.tuple (cutD xs lo hi))
  | _ => none
theorem cut_whole {xs : List V} {lo hi : Option Int} (h : HT.sIx xs.length 0 lo = 0 ∧ HT.sIx xs.length xs.length hi = xs.length) : cutV xs lo hi = xs := by
  unfold cutV
  rw [h.1, h.2, List.drop_zero, Nat.sub_zero, List.take_length]
theorem e_slS {lo hi : Option Expr} {p2 : Pos} {fl fh : Nv → Option (Option Int)} (ha : EW cs X a fa) (hl : EO cs X lo fl) (hh : EO cs X hi fh) : EP' cs X (.Subscript a (.Slice lo hi none p2) pos) (slS fa fl fh) := ⟨pe_imp (pe_slice (SlR.or sl_str sl_tupA) ha.h hl.h hh.h) fun σ H Q ⟨Z, F, ρ, d, R, ef, q⟩ => by
  unfold slS at ef
  obtain ⟨x, ea, ef⟩ := Option.bind_eq_some_iff.mp ef
  obtain ⟨l, el, ef⟩ := Option.bind_eq_some_iff.mp ef
  obtain ⟨h, eh, ef⟩ := Option.bind_eq_some_iff.mp ef
  refine ⟨Z, F, ρ, x, R, ea, fun v F1 H1 e1 R1 w1 => ⟨Z, F1, ρ, l, R1, el, fun F2 H2 e2 R2 => ⟨Z, F2, ρ, h, R2, eh, fun F3 H3 e3 R3 => ?_⟩⟩⟩
  have e13 := (e1.trans e2).trans e3
  have w3 := (w1.ext e2).ext e3
  split at ef
  · split at ef
    · rename_i hl
      cases ef
      cases R3.vstr w3
      exact .inl ⟨_, rfl, Nat.le_trans hl (by decide), q _ F3 H3 e13 R3 (.str _)⟩
    · cases ef
  · cases ef
    obtain ⟨a1, vs, rfl, s0, s1, r1⟩ := R3.tup w3
    refine .inr ⟨a1, vs, rfl, s1, fun hw => ?_, fun hw p hp => ?_⟩
    · have ec := cut_rp r1 l h
      rw [cut_whole hw] at ec
      exact q _ F3 H3 e13 R3 (.tup s0 ec)
    · obtain ⟨R4, e4, _⟩ := R3.new (o := .tup (cutV vs l h)) hp
      exact q _ _ _ (e13.trans e4) R4 (.tup (.inl (.inl upd_same)) ((cut_rp r1 l h).ext e4))
  · cases ef⟩
end
end DS

namespace DS
open PySem L2

/-! ## calls of what is built in -/
def rDs (K : PySem.W.Frag) (cs : List Addr) (g : List D → Option D) : List V → Hp → VK → Prop := fun vs H Q => ∃ Z F σ ρ ds d, Rep K cs Z F H σ ρ ∧ Vws K F σ ρ vs ds ∧ g ds = some d ∧ ∀ w F' H', Ext F F' → Rep K cs Z F' H' σ ρ → Rp K F' w d → Q w H'
def rNs (K : PySem.W.Frag) (cs : List Addr) (g : List D → Option D) : List V → Hp → VK → Prop := fun vs H Q => ∃ Z F σ ρ ds d, Rep K cs Z F H σ ρ ∧ Vws K F σ ρ vs ds ∧ g ds = some d ∧
  ∀ p F' H', Ext F F' → Rep K cs Z F' H' σ ρ → F' p = none → Z p = none → ¬ Mine σ ρ p → Own K F' H' p d → Q (.ref p) H'
def callD (g : List D → Option D) (fr : Nv → Option (List D)) : Nv → Option D := fun ρ => (fr ρ).bind g
section
variable {cs : List Addr} {X : Cx} {a b c e o : Expr} {es : List Expr} {pos p apos : Pos} {fa fb : Nv → Option D} {fr : Nv → Option (List D)} {g : List D → Option D} {x : Str} {id T : String}
theorem t_callD {K : PySem.W.Frag} : ∀ σ H Q, tP K cs (callD g fr) σ H Q → tCB (rDs K cs g) (tWA K cs fr) σ H Q := fun σ H Q ⟨Z, F, ρ, d, R, ef, q⟩ => by
  obtain ⟨ds, e1, e2⟩ := Option.bind_eq_some_iff.mp ef
  exact ⟨Z, F, ρ, ds, R, e1, fun vs F1 H1 x1 R1 w1 => ⟨Z, F1, σ, ρ, ds, d, R1, w1, e2, fun w F2 H2 x2 R2 r2 => q w F2 H2 (x1.trans x2) R2 r2⟩⟩
theorem t_callN {K : PySem.W.Frag} : ∀ σ H Q, tN K cs (callD g fr) σ H Q → tCB (rNs K cs g) (tWA K cs fr) σ H Q := fun σ H Q ⟨Z, F, ρ, d, R, ef, q⟩ => by
  obtain ⟨ds, e1, e2⟩ := Option.bind_eq_some_iff.mp ef
  exact ⟨Z, F, ρ, ds, R, e1, fun vs F1 H1 x1 R1 w1 => ⟨Z, F1, σ, ρ, ds, d, R1, w1, e2, fun w F2 H2 x2 R2 => q w F2 H2 (x1.trans x2) R2⟩⟩
theorem e_callB (hc : CallR X (.builtin id) (rDs X.K cs g)) (hg : Gl X x) (hm : X.mg x = none) (hv : bootBuiltins x = some (.builtin id)) (ha : EWs cs X (e :: es) fr) (hn : x ≠ "__name__" := by decide) (hdb : (x == ("__debug__" : Str)) = false := by decide)
    (he : starEach (e :: es) X.env = (false, eval e X.env) :: starEach es X.env := by rfl) (hpl : (backTo pos (starEach es X.env)).any (·.1) = false := by rfl) : EP' cs X (.Call (.Name x p) (e :: es) [] pos) (callD g fr) :=
  ⟨pe_imp (pe_callB hc hg hm hv ha.h hn hdb he hpl) t_callD⟩
theorem e_callT (hc : CallR X (.type T) (rDs X.K cs g)) (hg : Gl X x) (hm : X.mg x = none) (hv : bootBuiltins x = some (.type T)) (ha : EWs cs X (e :: es) fr) (hn : x ≠ "__name__" := by decide) (hdb : (x == ("__debug__" : Str)) = false := by decide)
    (he : starEach (e :: es) X.env = (false, eval e X.env) :: starEach es X.env := by rfl) (hpl : (backTo pos (starEach es X.env)).any (·.1) = false := by rfl) : EP' cs X (.Call (.Name x p) (e :: es) [] pos) (callD g fr) :=
  ⟨pe_imp (pe_callTy hc hg hm hv ha.h hn hdb he hpl) t_callD⟩
theorem e_callTN (hc : CallR X (.type T) (rNs X.K cs g)) (hg : Gl X x) (hm : X.mg x = none) (hv : bootBuiltins x = some (.type T)) (ha : EWs cs X (e :: es) fr) (hn : x ≠ "__name__" := by decide) (hdb : (x == ("__debug__" : Str)) = false := by decide)
    (he : starEach (e :: es) X.env = (false, eval e X.env) :: starEach es X.env := by rfl) (hpl : (backTo pos (starEach es X.env)).any (·.1) = false := by rfl) : EN cs X (.Call (.Name x p) (e :: es) [] pos) (callD g fr) :=
  ⟨pe_imp (pe_callTy hc hg hm hv ha.h hn hdb he hpl) t_callN⟩
def lenD : List D → Option D
  | [.str x] => if x.length ≤ 100000 then some (.int x.length) else none
  | [.list xs] => some (.int xs.length)
  | [.tuple xs] => some (.int xs.length)
  | _ => none
theorem vws1 {K : PySem.W.Frag} {F : Hp} {σ : L2.St} {ρ : Nv} {vs : List V} {d : D} (h : Vws K F σ ρ vs [d]) : ∃ v, vs = [v] ∧ Vw K F σ ρ v d := by
  cases h with
  | cons a b =>
    cases b
    exact ⟨_, rfl, a⟩
theorem vws2 {K : PySem.W.Frag} {F : Hp} {σ : L2.St} {ρ : Nv} {vs : List V} {d e : D} (h : Vws K F σ ρ vs [d, e]) : ∃ v u, vs = [v, u] ∧ Vw K F σ ρ v d ∧ Vw K F σ ρ u e := by
  cases h with
  | cons a b =>
    obtain ⟨u, rfl, w⟩ := vws1 b
    exact ⟨_, u, rfl, a, w⟩
theorem cd_len : CallR X (.builtin "len") (rDs X.K cs lenD) := by
  rintro pins s σ H xs us Q I r ⟨Z, F, σ', ρ, ds, d, R, w, e, q⟩
  unfold lenD at e
  split at e
  · split at e
    · rename_i hl
      cases e
      obtain ⟨v, rfl, w1⟩ := vws1 w
      cases R.vstr w1
      exact call_len pins s σ H _ us Q I r ⟨_, _, rfl, ⟨Nat.le_trans hl (by decide), rfl⟩, q _ F H (Ext.refl F) R (.int _)⟩
    · cases e
  · cases e
    obtain ⟨v, rfl, w1⟩ := vws1 w
    obtain ⟨a, vs, rfl, s1, r1⟩ := R.lst w1
    exact call_len pins s σ H _ us Q I r ⟨_, _, rfl, .inl ⟨_, s1, r1.len.symm⟩, q _ F H (Ext.refl F) R (.int _)⟩
  · cases e
    obtain ⟨v, rfl, w1⟩ := vws1 w
    obtain ⟨a, vs, rfl, _, s1, r1⟩ := R.tup w1
    exact call_len pins s σ H _ us Q I r ⟨_, _, rfl, .inr ⟨_, s1, r1.len.symm⟩, q _ F H (Ext.refl F) R (.int _)⟩
  · cases e
def ordD : List D → Option D
  | [.str x] => if x.length = 1 then some (.int (x.cps.getD 0 0 : Nat)) else none
  | _ => none
theorem cd_ord : CallR X (.builtin "ord") (rDs X.K cs ordD) := by
  rintro pins s σ H xs us Q I r ⟨Z, F, σ', ρ, ds, d, R, w, e, q⟩
  unfold ordD at e
  split at e
  · split at e
    · rename_i hl
      cases e
      obtain ⟨v, rfl, w1⟩ := vws1 w
      cases R.vstr w1
      exact call_ord pins s σ H _ us Q I r ⟨_, rfl, hl, q _ F H (Ext.refl F) R (.int _)⟩
    · cases e
  · cases e
def seqD : D → Option (List D)
  | .list xs => some xs
  | .tuple xs => some xs
  | _ => none
def listD : List D → Option D
  | [.list xs] => some (.list xs)
  | [.tuple xs] => some (.list xs)
  | _ => none
theorem cn_list : CallR X (.type "list") (rNs X.K cs listD) := by
  rintro pins s σ H xs us Q I r ⟨Z, F, σ', ρ, ds, d, R, w, e, q⟩
  unfold listD at e
  split at e
  · cases e
    obtain ⟨v, rfl, w1⟩ := vws1 w
    obtain ⟨a, vs, rfl, s1, r1⟩ := R.lst w1
    refine call_list_of pins s σ H _ us Q I r ⟨a, vs, rfl, .inl s1, fun l hl => ?_⟩
    obtain ⟨R4, fp, zp, mp⟩ := R.made (o := .lst vs) hl
    exact q l F _ (Ext.refl F) R4 fp zp mp ⟨vs, upd_same, r1⟩
  · cases e
    obtain ⟨v, rfl, w1⟩ := vws1 w
    obtain ⟨a, vs, rfl, _, s1, r1⟩ := R.tup w1
    refine call_list_of pins s σ H _ us Q I r ⟨a, vs, rfl, .inr s1, fun l hl => ?_⟩
    obtain ⟨R4, fp, zp, mp⟩ := R.made (o := .lst vs) hl
    exact q l F _ (Ext.refl F) R4 fp zp mp ⟨vs, upd_same, r1⟩
  · cases e
def tupD : List D → Option D
  | [.list xs] => some (.tuple xs)
  | [.tuple xs] => some (.tuple xs)
  | _ => none
theorem cd_tuple : CallR X (.type "tuple") (rDs X.K cs tupD) := by
  rintro pins s σ H xs us Q I r ⟨Z, F, σ', ρ, ds, d, R, w, e, q⟩
  unfold tupD at e
  split at e
  · cases e
    obtain ⟨v, rfl, w1⟩ := vws1 w
    obtain ⟨a, vs, rfl, s1, r1⟩ := R.lst w1
    refine call_tuple_of pins s σ H _ us Q I r ⟨a, vs, rfl, .inl ⟨s1, fun l hl => ?_⟩⟩
    obtain ⟨R4, e4, _⟩ := R.new (o := .tup vs) hl
    exact q _ _ _ e4 R4 (.tup (.inl (.inl upd_same)) (r1.ext e4))
  · cases e
    obtain ⟨v, rfl, w1⟩ := vws1 w
    obtain ⟨a, vs, rfl, s0, s1, r1⟩ := R.tup w1
    exact call_tuple_of pins s σ H _ us Q I r ⟨a, vs, rfl, .inr ⟨s1, q _ F H (Ext.refl F) R (.tup s0 r1)⟩⟩
  · cases e

/-! ### isinstance -/
def tyD : D → String
  | .none => "NoneType"
  | .bool _ => "bool"
  | .int _ => "int"
  | .str _ => "str"
  | .list _ => "list"
  | .tuple _ => "tuple"
  | .dict _ => "dict"
theorem tyx_of {K : PySem.W.Frag} {H : Hp} {v : V} {d : D} (h : Rp K H v d) : TyX K H v (.type (tyD d)) := by
  cases h with
  | non => exact .base .non
  | bl b => exact .base (.bl b)
  | int i => exact .base (.int i)
  | str x => exact .base (.str x)
  | lst s r =>
    rcases s with (s | ⟨o, s⟩) | ⟨o, its, n, h1, h2, _⟩
    · exact .base (.lst s)
    · exact .base (.frz s)
    · exact .kList h1 h2
  | tup s r =>
    rcases s with (s | ⟨o, s⟩) | ⟨o, its, n, h1, h2, _⟩
    · exact .base (.tup s)
    · exact .fTuple s
    · exact .kTuple h1 h2
  | dK s _ =>
    rcases s with s | ⟨o, s⟩
    · exact .base (.dK s)
    · exact .fDict s
  | dT s _ _ => exact .base (.dT s)
/-- isinstance(x, T): by x's kind -/
def isiB (T : String) (d : D) : Bool := match d with
  | .none => T == "NoneType"
  | .bool _ => T == "bool" || T == "int"
  | .int _ => T == "int"
  | .str _ => T == "str"
  | .list _ => T == "list"
  | .tuple _ => T == "tuple"
  | .dict _ => T == "dict"
/-- the kinds that are asked for -/
def IsiT (T : String) : Prop := ∀ d, kitB (tyD d) T = some (isiB T d)
theorem isi_str : IsiT "str" := fun d => by cases d <;> (simp only [tyD, isiB]; decide +kernel)
theorem isi_int : IsiT "int" := fun d => by cases d <;> (simp only [tyD, isiB]; decide +kernel)
theorem isi_bool : IsiT "bool" := fun d => by cases d <;> (simp only [tyD, isiB]; decide +kernel)
theorem isi_list : IsiT "list" := fun d => by cases d <;> (simp only [tyD, isiB]; decide +kernel)
theorem isi_tuple : IsiT "tuple" := fun d => by cases d <;> (simp only [tyD, isiB]; decide +kernel)
theorem isi_dict : IsiT "dict" := fun d => by cases d <;> (simp only [tyD, isiB]; decide +kernel)
theorem e_isi (hT : IsiT T) (hg : Gl X "isinstance") (hm : X.mg "isinstance" = none) (ha : EW cs X e fa) (hgT : Gl X x) (hmT : X.mg x = none) (hvT : bootBuiltins x = some (.type T)) (hn : x ≠ "__name__" := by decide) (hdb : (x == ("__debug__" : Str)) = false := by decide)
    (hs : starEach [e, .Name x p] X.env = (false, eval e X.env) :: starEach [.Name x p] X.env := by rfl) (hs2 : starEach [.Name x p] X.env = (false, eval (.Name x p) X.env) :: starEach [] X.env := by rfl)
    (hpl : (backTo pos (starEach [.Name x p] X.env)).any (·.1) = false := by rfl) :
    EP' cs X (.Call (.Name "isinstance" apos) [e, .Name x p] [] pos) (fun ρ => (fa ρ).map fun d => .bool (isiB T d)) :=
  ⟨pe_imp (pe_callB call_isi hg hm PyProof.Rows.boot_isinstance (pa_cons ha.h (pa_cons (pe_bltn (v := .ty T) hgT hmT hvT rfl hn hdb) pa_nil hs2) hs) (by decide) (by decide) hs hpl) fun σ H Q ⟨Z, F, ρ, d, R, ef, q⟩ => by
    obtain ⟨x', ea, rfl⟩ := Option.map_eq_some_iff.mp ef
    exact ⟨Z, F, ρ, x', R, ea, fun v F1 H1 e1 R1 w1 => ⟨v, .ty T, _, _, _, rfl, .ty T, tyx_of (R1.all w1), kit_ty (hT x'), q _ F1 H1 e1 R1 (.bl _)⟩⟩⟩

/-! ### methods of texts -/
def lowerD : D → Option D
  | .str a => if a.length ≤ 100000 then some (.str (Txt.lower a)) else none
  | _ => none
theorem e_lower (ho : EW cs X o fa) (hbase : attributeBase o "lower" X.env (eval o X.env) = eval o X.env := by rfl) (hline : (apos.endLine == pos.line) = true := by rfl) : EP' cs X (.Call (.Attribute o "lower" apos) [] [] pos) (fun ρ => (fa ρ).bind lowerD) :=
  ⟨pe_imp (pe_lower ho.h hbase hline) fun σ H Q ⟨Z, F, ρ, d, R, ef, q⟩ => by
    obtain ⟨x, ea, e2⟩ := Option.bind_eq_some_iff.mp ef
    refine ⟨Z, F, ρ, x, R, ea, fun v F1 H1 e1 R1 w1 => ?_⟩
    unfold lowerD at e2
    split at e2
    · split at e2
      · rename_i hl
        cases e2
        cases R1.vstr w1
        exact ⟨⟨_, rfl⟩, _, rfl, rfl, Nat.le_trans hl (by decide), q _ F1 H1 e1 R1 (.str _)⟩
      · cases e2
    · cases e2⟩
def strsD : List D → Option (List Str)
  | [] => some []
  | .str x :: r => (strsD r).map (x :: ·)
  | _ => none
theorem strs_rp {K : PySem.W.Frag} {F : Hp} : ∀ {ds : List D} {ys : List Str} {vs : List V}, strsD ds = some ys → Rps K F vs ds → vs = ys.map V.str
  | [], ys, vs, e, r => by
    cases e
    cases r
    rfl
  | d :: ds, ys, vs, e, r => by
    cases r with
    | cons a b =>
      cases a with
      | str x =>
        obtain ⟨zs, e2, rfl⟩ := Option.map_eq_some_iff.mp e
        rw [strs_rp e2 b]
        rfl
      | _ => cases e
/-- sep.join(xs) -/
def joinD (x y : D) : Option D := match x with
  | .str a => (seqD y).bind fun ds => (strsD ds).bind fun ys => if (ys.map (·.length)).sum + ys.length * a.length ≤ 100000 then some (.str (Txt.join a ys)) else none
  | _ => none
theorem e_join (ho : EW cs X o fa) (he : EW cs X e fb) (hs : starEach [e] X.env = [(false, eval e X.env)] := by rfl) (hbase : attributeBase o "join" X.env (eval o X.env) = eval o X.env := by rfl) (hline : (apos.endLine == pos.line) = true := by rfl) :
    EP' cs X (.Call (.Attribute o "join" apos) [e] [] pos) (op2 joinD fa fb) :=
  ⟨pe_imp (pe_join ho.h he.h hs hbase hline) fun σ H Q ⟨Z, F, ρ, d, R, ef, q⟩ => by
    unfold op2 at ef
    obtain ⟨x, ea, ef⟩ := Option.bind_eq_some_iff.mp ef
    obtain ⟨y, eb, ef⟩ := Option.bind_eq_some_iff.mp ef
    unfold joinD at ef
    split at ef
    · obtain ⟨ds, e2, ef⟩ := Option.bind_eq_some_iff.mp ef
      obtain ⟨ys, e3, ef⟩ := Option.bind_eq_some_iff.mp ef
      split at ef
      · rename_i hl
        cases ef
        refine ⟨Z, F, ρ, _, R, ea, fun v F1 H1 e1 R1 w1 => ?_⟩
        cases R1.vstr w1
        refine ⟨⟨_, rfl⟩, Z, F1, ρ, y, R1, eb, fun u F2 H2 e4 R2 w2 => ?_⟩
        unfold seqD at e2
        split at e2
        · cases e2
          obtain ⟨p, vs, rfl, s1, r1⟩ := R2.lst w2
          rw [strs_rp e3 r1] at s1
          exact ⟨_, p, ys, rfl, rfl, .inl s1, Nat.le_trans hl (by decide), q _ F2 H2 (e1.trans e4) R2 (.str _)⟩
        · cases e2
          obtain ⟨p, vs, rfl, _, s1, r1⟩ := R2.tup w2
          rw [strs_rp e3 r1] at s1
          exact ⟨_, p, ys, rfl, rfl, .inr s1, Nat.le_trans hl (by decide), q _ F2 H2 (e1.trans e4) R2 (.str _)⟩
        · cases e2
      · cases ef
    · cases ef⟩
end

/-! ## defs -/
/-- how an argument is handed on: to be read; to be changed and given back; for good -/
inductive Md where
  | ro
  | io
  | mv
/-- what a def comes to: a value (a new list or dict of nobody's, or shared data) and what is given back; or an exception of the class at c -/
inductive Ou where
  | ret (d : D) (own : Bool) (outs : List D)
  | exc (c : Value)
def argC : Md → V → D → Option Cell
  | .ro, _, d => some (.sh d)
  | .io, .ref a, d => some (.io a d)
  | .io, _, _ => none
  | .mv, _, d => some (.ow d)
def argNv : List Md → List V → List D → Nv
  | m :: ms, v :: vs, d :: ds => argC m v d :: argNv ms vs ds
  | _, _, _ => []
/-- the arguments behind the call: outs in the order of the lent ones -/
def outNv : List Md → List V → List D → Nv
  | .io :: ms, .ref a :: vs, d :: ds => some (.io a d) :: outNv ms vs ds
  | _ :: ms, _ :: vs, ds => none :: outNv ms vs ds
  | _, _, _ => []
def ResV (K : PySem.W.Frag) (Z F H : Hp) (σ : L2.St) (ρ : Nv) (v : V) (d : D) (own : Bool) : Prop :=
  if own = true then ∃ p, v = .ref p ∧ F p = none ∧ Z p = none ∧ ¬ Mine σ ρ p ∧ Own K F H p d else Rp K F v d
def ioOk : List Md → List V → Bool
  | .io :: ms, .ref _ :: vs => ioOk ms vs
  | .io :: _, _ => false
  | _ :: ms, _ :: vs => ioOk ms vs
  | _, _ => true
def spD (K : PySem.W.Frag) (cs : List Addr) (ms : List Md) (sem : List D → Option Ou) : Sp := fun vs H Q E => ∃ Z F ds o, vs.length = ms.length ∧ ds.length = ms.length ∧ ioOk ms vs = true ∧ Rep K cs Z F H (vs.map some) (argNv ms vs ds) ∧ sem ds = some o ∧
  match o with
  | .ret d own outs => ∀ v F' H', Ext F F' → Rep K cs Z F' H' (vs.map some) (outNv ms vs outs) → ResV K Z F' H' (vs.map some) (outNv ms vs outs) v d own → Q v H'
  | .exc c => ∀ F' H', Ext F F' → Rep K cs Z F' H' [] [] → E c none H'
end DS

namespace DS
open PySem L2
/-- what is not read by all is others' -/
noncomputable def oth (F H : Hp) : Hp := fun a => match F a with
  | some _ => none
  | none => H a
theorem oth_of {F H : Hp} {a : Addr} {o : HO} (h : F a = none) (e : H a = some o) : oth F H a = some o := by
  unfold oth
  rw [h]
  exact e
theorem of_oth {F H : Hp} {a : Addr} {o : HO} (h : oth F H a = some o) : H a = some o ∧ F a = none := by
  unfold oth at h
  split at h
  · cases h
  · exact ⟨h, by assumption⟩
open Classical
section
variable {K : PySem.W.Frag} {cs : List Addr} {Z F H F' H' : Hp} {σ σ' : L2.St} {ρ ρ' : Nv} {vs : List V} {ds : List D}
theorem shs_get {ds : List D} {i : Nat} {c : Cell} (h : (ds.map fun d => some (Cell.sh d))[i]? = some (some c)) : ∃ d, ds[i]? = some d ∧ c = .sh d := by
  rw [List.getElem?_map] at h
  obtain ⟨d, h1, h2⟩ := Option.map_eq_some_iff.mp h
  cases h2
  exact ⟨d, h1, rfl⟩
/-- a frame that owns nothing and reads ds -/
theorem rep_sh (hl : vs.length = ds.length) (fh : ∀ a o, F a = some o → H a = some o) (zh : ∀ a o, Z a = some o → H a = some o ∧ F a = none) (r : Rps K F vs ds) (tab : ∀ p ∈ cs, F p = some (.ext (tabP p))) :
    Rep K cs Z F H (vs.map some) (ds.map fun d => some (.sh d)) := by
  refine ⟨by rw [List.length_map, List.length_map]; exact hl, fh, zh, fun i c h1 h2 => ?_, fun i d h1 => ?_, fun i j c e a h1 h2 _ _ _ _ => ?_, fun i a d h1 => ?_, tab⟩
  · obtain ⟨d, _, rfl⟩ := shs_get h1
    cases h2
  · obtain ⟨d', h2, e⟩ := shs_get h1
    cases e
    obtain ⟨v, h3, r3⟩ := r.get h2
    exact ⟨v, by rw [List.getElem?_map, h3]; rfl, r3⟩
  · obtain ⟨d, _, rfl⟩ := shs_get h1
    cases h2
  · obtain ⟨d', _, e⟩ := shs_get h1
    cases e
theorem Rep.lend (R : Rep K cs Z F H σ ρ) (r : Rps K F vs ds) : Rep K cs (oth F H) F H (vs.map some) (ds.map fun d => some (.sh d)) :=
  rep_sh r.len R.fh (fun _ _ h => of_oth h) r R.tab
theorem Rep.back (R : Rep K cs Z F H σ ρ) (e : Ext F F') (R' : Rep K cs (oth F H) F' H' σ' ρ') : Rep K cs Z F' H' σ ρ := by
  refine ⟨R.len, R'.fh, fun a o h => ?_, fun i c h1 h2 => ?_, fun i d h1 => ?_, R.inj, R.io, R'.tab⟩
  · obtain ⟨h1, h2⟩ := R.zh a o h
    exact R'.zh a o (oth_of h2 h1)
  · obtain ⟨a, q1, q2, q3, q4⟩ := R.mine i c h1 h2
    obtain ⟨ob, q5, _⟩ := q4.rp
    obtain ⟨q6, q7⟩ := R'.zh a ob (oth_of q2 q5)
    exact ⟨a, q1, q7, q3, q4.ext e (by rw [q6, q5])⟩
  · obtain ⟨v, q1, q2⟩ := R.sh i d h1
    exact ⟨v, q1, q2.ext e⟩
theorem Rep.backN (R : Rep K cs Z F H σ ρ) {p : Addr} (hz : oth F H p = none) : Z p = none ∧ ¬ Mine σ ρ p := by
  refine ⟨?_, fun ⟨i, c, h1, h2, h3⟩ => ?_⟩
  · cases e : Z p with
    | none => rfl
    | some o =>
      obtain ⟨h1, h2⟩ := R.zh p o e
      rw [oth_of h2 h1] at hz
      cases hz
  · obtain ⟨a, q1, q2, q3, q4⟩ := R.mine i c h1 h2
    rw [h3] at q1
    cases q1
    obtain ⟨ob, q5, _⟩ := q4.rp
    rw [oth_of q2 q5] at hz
    cases hz
/-- what is this frame's own is lent, too -/
noncomputable def plusM (σ : L2.St) (ρ : Nv) (F H : Hp) : Hp := fun a => match F a with
  | some o => some o
  | none => if Mine σ ρ a then H a else none
noncomputable def lessM (σ : L2.St) (ρ : Nv) (F : Hp) : Hp := fun a => if Mine σ ρ a then none else F a
theorem plus_ext : Ext F (plusM σ ρ F H) := fun a o e => by
  unfold plusM
  rw [e]
theorem plus_mine {a : Addr} {o : HO} (hf : F a = none) (hm : Mine σ ρ a) (h : H a = some o) : plusM σ ρ F H a = some o := by
  unfold plusM
  rw [hf]
  show (if _ then _ else _) = _
  rw [if_pos hm]
  exact h
theorem plus_of {a : Addr} {o : HO} (R : Rep K cs Z F H σ ρ) (h : plusM σ ρ F H a = some o) : H a = some o := by
  unfold plusM at h
  split at h
  · rename_i o' e
    cases h
    exact R.fh _ _ e
  · split at h
    · exact h
    · cases h
theorem Rep.mineF (R : Rep K cs Z F H σ ρ) {a : Addr} (hm : Mine σ ρ a) : F a = none ∧ Z a = none ∧ ∃ o, H a = some o := by
  obtain ⟨i, c, h1, h2, h3⟩ := hm
  obtain ⟨b, q1, q2, q3, q4⟩ := R.mine i c h1 h2
  rw [h3] at q1
  cases q1
  obtain ⟨ob, q5, _⟩ := q4.rp
  exact ⟨q2, q3, ob, q5⟩
theorem Rep.vwP (R : Rep K cs Z F H σ ρ) {v : V} {d : D} (h : Vw K F σ ρ v d) : Rp K (plusM σ ρ F H) v d := by
  rcases h with h | ⟨i, c, h1, h2, rfl, h3⟩
  · exact h.ext plus_ext
  · obtain ⟨a, e, f, _, o⟩ := R.mine i c h1 h2
    rw [h3] at e
    cases e
    obtain ⟨ob, q1, q2⟩ := o.rp
    exact q2 _ plus_ext (plus_mine f ⟨i, c, h1, h2, h3⟩ q1)
theorem Rep.vwsP (R : Rep K cs Z F H σ ρ) : ∀ {vs : List V} {ds : List D}, Vws K F σ ρ vs ds → Rps K (plusM σ ρ F H) vs ds
  | _, _, .nil => .nil
  | _, _, .cons a b => .cons (R.vwP a) (R.vwsP b)
theorem Rep.lendW (R : Rep K cs Z F H σ ρ) (r : Vws K F σ ρ vs ds) : Rep K cs (oth (plusM σ ρ F H) H) (plusM σ ρ F H) H (vs.map some) (ds.map fun d => some (.sh d)) :=
  rep_sh (R.vwsP r).len (fun _ _ h => plus_of R h) (fun _ _ h => of_oth h) (R.vwsP r) fun p hp => plus_ext p _ (R.tab p hp)
theorem Rep.backW (R : Rep K cs Z F H σ ρ) (e : Ext (plusM σ ρ F H) F') (R' : Rep K cs (oth (plusM σ ρ F H) H) F' H' σ' ρ') : Rep K cs Z (lessM σ ρ F') H' σ ρ ∧ Ext F (lessM σ ρ F') := by
  have ex : Ext F (lessM σ ρ F') := fun a o h => by
    have hm : ¬ Mine σ ρ a := fun z => by
      rw [(R.mineF z).1] at h
      cases h
    unfold lessM
    rw [if_neg hm]
    exact e a o (plus_ext a o h)
  refine ⟨⟨R.len, fun a o h => ?_, fun a o h => ?_, fun i c h1 h2 => ?_, fun i d h1 => ?_, R.inj, R.io, fun p hp => ex p _ (R.tab p hp)⟩, ex⟩
  · unfold lessM at h
    split at h
    · cases h
    · exact R'.fh a o h
  · obtain ⟨h1, h2⟩ := R.zh a o h
    have hm : ¬ Mine σ ρ a := fun z => by
      rw [(R.mineF z).2.1] at h
      cases h
    have hp : plusM σ ρ F H a = none := by
      unfold plusM
      rw [h2]
      show (if _ then _ else _) = _
      rw [if_neg hm]
    obtain ⟨q1, q2⟩ := R'.zh a o (oth_of hp h1)
    refine ⟨q1, ?_⟩
    unfold lessM
    rw [if_neg hm]
    exact q2
  · obtain ⟨a, q1, q2, q3, q4⟩ := R.mine i c h1 h2
    obtain ⟨ob, q5, _⟩ := q4.rp
    have hm : Mine σ ρ a := ⟨i, c, h1, h2, q1⟩
    have q6 := R'.fh a ob (e a ob (plus_mine q2 hm q5))
    refine ⟨a, q1, ?_, q3, q4.ext ex (by rw [q6, q5])⟩
    unfold lessM
    rw [if_pos hm]
  · obtain ⟨v, q1, q2⟩ := R.sh i d h1
    exact ⟨v, q1, q2.ext ex⟩
def scal : D → Bool
  | .none => true
  | .bool _ => true
  | .int _ => true
  | .str _ => true
  | _ => false
theorem Rp.scal {v : V} {d : D} (h : Rp K F v d) (hs : scal d = true) (G : Hp) : Rp K G v d := by
  cases h with
  | non => exact .non
  | bl b => exact .bl b
  | int i => exact .int i
  | str x => exact .str x
  | _ => cases hs
theorem argNv_ro : ∀ {ms : List Md} {vs : List V} {ds : List D}, (∀ m ∈ ms, m = .ro) → vs.length = ms.length → ds.length = ms.length → argNv ms vs ds = ds.map fun d => some (.sh d)
  | [], vs, ds, _, h1, h2 => by
    cases vs with
    | cons _ _ => cases h1
    | nil =>
      cases ds with
      | cons _ _ => cases h2
      | nil => rfl
  | m :: ms, vs, ds, h, h1, h2 => by
    cases vs with
    | nil => cases h1
    | cons v vs =>
      cases ds with
      | nil => cases h2
      | cons d ds =>
        have e : m = .ro := h m List.mem_cons_self
        subst e
        show some (Cell.sh d) :: argNv ms vs ds = some (Cell.sh d) :: _
        rw [argNv_ro (fun m hm => h m (List.mem_cons_of_mem _ hm)) (by simpa using h1) (by simpa using h2)]
end

/-! ## calls of defs that change nothing -/
theorem ioOk_ro : ∀ {ms : List Md} {vs : List V}, (∀ m ∈ ms, m = .ro) → ioOk ms vs = true
  | [], _, _ => by unfold ioOk; rfl
  | m :: ms, [], h => by
    have e : m = .ro := h m List.mem_cons_self
    subst e
    rfl
  | m :: ms, v :: vs, h => by
    have e : m = .ro := h m List.mem_cons_self
    subst e
    exact ioOk_ro (ms := ms) (vs := vs) fun m hm => h m (List.mem_cons_of_mem _ hm)
def callS (n : Nat) (sem : List D → Option Ou) (fr : Nv → Option (List D)) : Nv → Option D := fun ρ => (fr ρ).bind fun ds => if ds.length = n then match sem ds with
  | some (.ret d _ _) => some d
  | _ => none
  else none
/-- .. where the value is a new list or dict -/
def callO (n : Nat) (sem : List D → Option Ou) (fr : Nv → Option (List D)) : Nv → Option D := fun ρ => (fr ρ).bind fun ds => if ds.length = n then match sem ds with
  | some (.ret d true _) => some d
  | _ => none
  else none
/-- .. where it is flat -/
def callF (n : Nat) (sem : List D → Option Ou) (fr : Nv → Option (List D)) : Nv → Option D := fun ρ => (fr ρ).bind fun ds => if ds.length = n then match sem ds with
  | some (.ret d false _) => if scal d = true then some d else none
  | _ => none
  else none
section
variable {cs : List Addr} {X : Cx} {e : Expr} {es : List Expr} {pos p : Pos} {fr : Nv → Option (List D)} {x : Str} {CX : CXT} {k : Nat} {f : Addr} {fd : FuncData} {ps : List Str} {ms : List Md} {sem : List D → Option Ou}
theorem vws_len {K : PySem.W.Frag} {F : Hp} {σ : L2.St} {ρ : Nv} : ∀ {vs : List V} {ds : List D}, Vws K F σ ρ vs ds → vs.length = ds.length
  | _, _, .nil => rfl
  | _, _, .cons _ b => by rw [List.length_cons, List.length_cons, vws_len b]
theorem e_call (F : FnOk X.prog X.w X.K X.mg X.base CX k f fd ps (spD X.K cs ms sem)) (hro : ∀ m ∈ ms, m = .ro) (hr : Room k X.A) (hg : Gl X x) (hm : X.mg x = some (.ref f)) (hk : PySem.W.keepIn X.K (.ref f) = true) (hb : Binds X.K fd ps []) (hx : Passes CX X E0)
    (ha : EPs cs X (e :: es) fr) (hdb : (x == ("__debug__" : Str)) = false := by decide) (he : starEach (e :: es) X.env = (false, eval e X.env) :: starEach es X.env := by rfl) (hpl : (backTo pos (starEach es X.env)).any (·.1) = false := by rfl) :
    EP' cs X (.Call (.Name x p) (e :: es) [] pos) (callS ms.length sem fr) := ⟨pe_imp (pe_call F hr hg hm hk hb .nil hx ha.h hdb he hpl) fun σ H Q ⟨Z, F0, ρ, d, R, ef, q⟩ => by
  obtain ⟨ds, e1, e2⟩ := Option.bind_eq_some_iff.mp ef
  split at e2
  · rename_i hl
    refine ⟨Z, F0, ρ, ds, R, e1, fun vs F1 H1 x1 R1 r1 => ?_⟩
    split at e2
    · rename_i d' own outs es
      cases e2
      rw [List.append_nil]
      have hv : vs.length = ms.length := by rw [r1.len]; exact hl
      refine ⟨oth F1 H1, F1, ds, _, hv, hl, ioOk_ro hro, ?_, es, fun v F2 H2 x2 R2 res => ?_⟩
      · rw [argNv_ro hro hv hl]
        exact R1.lend r1
      · have RB := R1.back x2 R2
        unfold ResV at res
        split at res
        · obtain ⟨p', rfl, h1, h2, h3, h4⟩ := res
          obtain ⟨z1, z2⟩ := R1.backN h2
          obtain ⟨o, g1, g2⟩ := h4.rp
          exact q _ _ _ ((x1.trans x2).trans (Ext.upd h1)) (RB.give g1 h1 z1 z2) (g2 _ (Ext.upd h1) upd_same)
        · exact q v F2 H2 (x1.trans x2) RB res
    · cases e2
  · cases e2⟩
theorem e_callO (F : FnOk X.prog X.w X.K X.mg X.base CX k f fd ps (spD X.K cs ms sem)) (hro : ∀ m ∈ ms, m = .ro) (hr : Room k X.A) (hg : Gl X x) (hm : X.mg x = some (.ref f)) (hk : PySem.W.keepIn X.K (.ref f) = true) (hb : Binds X.K fd ps []) (hx : Passes CX X E0)
    (ha : EPs cs X (e :: es) fr) (hdb : (x == ("__debug__" : Str)) = false := by decide) (he : starEach (e :: es) X.env = (false, eval e X.env) :: starEach es X.env := by rfl) (hpl : (backTo pos (starEach es X.env)).any (·.1) = false := by rfl) :
    EN cs X (.Call (.Name x p) (e :: es) [] pos) (callO ms.length sem fr) := ⟨pe_imp (pe_call F hr hg hm hk hb .nil hx ha.h hdb he hpl) fun σ H Q ⟨Z, F0, ρ, d, R, ef, q⟩ => by
  obtain ⟨ds, e1, e2⟩ := Option.bind_eq_some_iff.mp ef
  split at e2
  · rename_i hl
    refine ⟨Z, F0, ρ, ds, R, e1, fun vs F1 H1 x1 R1 r1 => ?_⟩
    split at e2
    · rename_i d' outs es
      cases e2
      rw [List.append_nil]
      have hv : vs.length = ms.length := by rw [r1.len]; exact hl
      refine ⟨oth F1 H1, F1, ds, _, hv, hl, ioOk_ro hro, ?_, es, fun v F2 H2 x2 R2 res => ?_⟩
      · rw [argNv_ro hro hv hl]
        exact R1.lend r1
      · have RB := R1.back x2 R2
        unfold ResV at res
        rw [if_pos rfl] at res
        obtain ⟨p', rfl, h1, h2, h3, h4⟩ := res
        obtain ⟨z1, z2⟩ := R1.backN h2
        exact q _ _ _ (x1.trans x2) RB h1 z1 z2 h4
    · cases e2
  · cases e2⟩
theorem e_callF (F : FnOk X.prog X.w X.K X.mg X.base CX k f fd ps (spD X.K cs ms sem)) (hro : ∀ m ∈ ms, m = .ro) (hr : Room k X.A) (hg : Gl X x) (hm : X.mg x = some (.ref f)) (hk : PySem.W.keepIn X.K (.ref f) = true) (hb : Binds X.K fd ps []) (hx : Passes CX X E0)
    (ha : EWs cs X (e :: es) fr) (hdb : (x == ("__debug__" : Str)) = false := by decide) (he : starEach (e :: es) X.env = (false, eval e X.env) :: starEach es X.env := by rfl) (hpl : (backTo pos (starEach es X.env)).any (·.1) = false := by rfl) :
    EP' cs X (.Call (.Name x p) (e :: es) [] pos) (callF ms.length sem fr) := ⟨pe_imp (pe_call F hr hg hm hk hb .nil hx ha.h hdb he hpl) fun σ H Q ⟨Z, F0, ρ, d, R, ef, q⟩ => by
  obtain ⟨ds, e1, e2⟩ := Option.bind_eq_some_iff.mp ef
  split at e2
  · rename_i hl
    refine ⟨Z, F0, ρ, ds, R, e1, fun vs F1 H1 x1 R1 w1 => ?_⟩
    split at e2
    · rename_i d' outs es
      split at e2
      · rename_i hs
        cases e2
        rw [List.append_nil]
        have hv : vs.length = ms.length := by rw [vws_len w1]; exact hl
        refine ⟨oth (plusM σ ρ F1 H1) H1, plusM σ ρ F1 H1, ds, _, hv, hl, ioOk_ro hro, ?_, es, fun v F2 H2 x2 R2 res => ?_⟩
        · rw [argNv_ro hro hv hl]
          exact R1.lendW w1
        · obtain ⟨RB, xb⟩ := R1.backW x2 R2
          unfold ResV at res
          rw [if_neg Bool.false_ne_true] at res
          exact q v _ H2 (x1.trans xb) RB (res.scal hs _)
      · cases e2
    · cases e2
  · cases e2⟩
end
end DS

namespace DS
open PySem L2

/-! ## statements -/
inductive SR where
  | nx (ρ : Nv)
  | bk (ρ : Nv)
  | ct (ρ : Nv)
  | rt (d : D) (own : Bool) (ρ : Nv)
  | exc (c : Value)
/-- what is wanted behind a statement, at the names' end ρ -/
def Wish (K : PySem.W.Frag) (cs : List Addr) (E : XK) (Z F : Hp) (n : Nat) (D : Ends) : SR → Prop
  | .nx ρ => ∀ σ F' H', σ.length = n → Ext F F' → Rep K cs Z F' H' σ ρ → D.nx σ H'
  | .bk ρ => ∀ σ F' H', σ.length = n → Ext F F' → Rep K cs Z F' H' σ ρ → D.bk σ H'
  | .ct ρ => ∀ σ F' H', σ.length = n → Ext F F' → Rep K cs Z F' H' σ ρ → D.ct σ H'
  | .rt d own ρ => ∀ v σ F' H', σ.length = n → Ext F F' → Rep K cs Z F' H' σ ρ → ResV K Z F' H' σ ρ v d own → D.rt v H'
  | .exc c => ∀ F' H', Ext F F' → Rep K cs Z F' H' [] [] → E c none H'
def tS (K : PySem.W.Frag) (cs : List Addr) (E : XK) (g : Nv → Option SR) : TS := fun D σ H => ∃ Z F ρ r, Rep K cs Z F H σ ρ ∧ g ρ = some r ∧ Wish K cs E Z F σ.length D r
structure SD (cs : List Addr) (X : Cx) (E : XK) (st : Stmt) (g : Nv → Option SR) : Prop where
  h : PS X st (tS X.K cs E g)
structure SDs (cs : List Addr) (X : Cx) (E : XK) (st : List Stmt) (g : Nv → Option SR) : Prop where
  h : PSs X st (tS X.K cs E g)
def seqS (g g' : Nv → Option SR) : Nv → Option SR := fun ρ => (g ρ).bind fun r => match r with
  | .nx ρ' => g' ρ'
  | r => some r
section
variable {K : PySem.W.Frag} {cs : List Addr} {Z F H F' H' : Hp} {σ σ' : L2.St} {ρ ρ' : Nv} {v : V} {d : D}
theorem Wish.ext {E : XK} {n : Nat} {D : Ends} {r : SR} (e : Ext F F') (h : Wish K cs E Z F n D r) : Wish K cs E Z F' n D r := by
  cases r with
  | nx ρ => exact fun σ G H' l x => h σ G H' l (e.trans x)
  | bk ρ => exact fun σ G H' l x => h σ G H' l (e.trans x)
  | ct ρ => exact fun σ G H' l x => h σ G H' l (e.trans x)
  | rt d o ρ => exact fun v σ G H' l x => h v σ G H' l (e.trans x)
  | exc c => exact fun G H' x => h G H' (e.trans x)
/-- a slot takes shared data -/
theorem Rep.setSh (R : Rep K cs Z F H σ ρ) (i : Nat) (r : Rp K F v d) : Rep K cs Z F H (σ.set i (some v)) (ρ.set i (some (.sh d))) := by
  have hset : ∀ {j : Nat} {c : Cell}, (ρ.set i (some (.sh d)))[j]? = some (some c) → (j = i ∧ c = .sh d ∧ i < ρ.length) ∨ (j ≠ i ∧ ρ[j]? = some (some c)) := fun {j c} h => by
    by_cases hj : j = i
    · subst hj
      by_cases hl : j < ρ.length
      · rw [List.getElem?_set_self hl] at h
        cases h
        exact .inl ⟨rfl, rfl, hl⟩
      · rw [List.getElem?_eq_none (by rw [List.length_set]; omega)] at h
        cases h
    · rw [List.getElem?_set_ne (Ne.symm hj)] at h
      exact .inr ⟨hj, h⟩
  have sne : ∀ {j : Nat}, j ≠ i → (σ.set i (some v))[j]? = σ[j]? := fun hj => List.getElem?_set_ne (Ne.symm hj)
  refine ⟨by rw [List.length_set, List.length_set]; exact R.len, R.fh, R.zh, fun j c h1 h2 => ?_, fun j d' h1 => ?_, fun j k c e a h1 h2 h3 h4 h5 h6 => ?_, fun j a d' h1 => ?_, R.tab⟩
  · rcases hset h1 with ⟨_, rfl, _⟩ | ⟨hj, h⟩
    · cases h2
    · rw [sne hj]
      exact R.mine j c h h2
  · rcases hset h1 with ⟨rfl, e, hl⟩ | ⟨hj, h⟩
    · cases e
      exact ⟨v, by rw [List.getElem?_set_self (by rw [R.len]; exact hl)], r⟩
    · rw [sne hj]
      exact R.sh j d' h
  · rcases hset h1 with ⟨_, rfl, _⟩ | ⟨hj, h⟩
    · cases h2
    · rcases hset h3 with ⟨_, rfl, _⟩ | ⟨hk, h'⟩
      · cases h4
      · rw [sne hj] at h5
        rw [sne hk] at h6
        exact R.inj j k c e a h h2 h' h4 h5 h6
  · rcases hset h1 with ⟨_, e, _⟩ | ⟨hj, h⟩
    · cases e
    · rw [sne hj]
      exact R.io j a d' h
/-- .. a new list or dict -/
theorem Rep.setOw {p : Addr} (R : Rep K cs Z F H σ ρ) (i : Nat) (fp : F p = none) (zp : Z p = none) (mp : ¬ Mine σ ρ p) (o : Own K F H p d) : Rep K cs Z F H (σ.set i (some (.ref p))) (ρ.set i (some (.ow d))) := by
  have hset : ∀ {j : Nat} {c : Cell}, (ρ.set i (some (.ow d)))[j]? = some (some c) → (j = i ∧ c = .ow d ∧ i < ρ.length) ∨ (j ≠ i ∧ ρ[j]? = some (some c)) := fun {j c} h => by
    by_cases hj : j = i
    · subst hj
      by_cases hl : j < ρ.length
      · rw [List.getElem?_set_self hl] at h
        cases h
        exact .inl ⟨rfl, rfl, hl⟩
      · rw [List.getElem?_eq_none (by rw [List.length_set]; omega)] at h
        cases h
    · rw [List.getElem?_set_ne (Ne.symm hj)] at h
      exact .inr ⟨hj, h⟩
  have sne : ∀ {j : Nat}, j ≠ i → (σ.set i (some (V.ref p)))[j]? = σ[j]? := fun hj => List.getElem?_set_ne (Ne.symm hj)
  have sself : i < ρ.length → (σ.set i (some (V.ref p)))[i]? = some (some (.ref p)) := fun hl => by rw [List.getElem?_set_self (by rw [R.len]; exact hl)]
  refine ⟨by rw [List.length_set, List.length_set]; exact R.len, R.fh, R.zh, fun j c h1 h2 => ?_, fun j d' h1 => ?_, fun j k c e a h1 h2 h3 h4 h5 h6 => ?_, fun j a d' h1 => ?_, R.tab⟩
  · rcases hset h1 with ⟨rfl, rfl, hl⟩ | ⟨hj, h⟩
    · exact ⟨p, sself hl, fp, zp, o⟩
    · rw [sne hj]
      exact R.mine j c h h2
  · rcases hset h1 with ⟨rfl, e, hl⟩ | ⟨hj, h⟩
    · cases e
    · rw [sne hj]
      exact R.sh j d' h
  · rcases hset h1 with ⟨rfl, rfl, hl⟩ | ⟨hj, h⟩
    · rcases hset h3 with ⟨rfl, _, _⟩ | ⟨hk, h'⟩
      · rfl
      · rw [sself hl] at h5
        cases h5
        rw [sne hk] at h6
        exact (mp ⟨k, e, h', h4, h6⟩).elim
    · rcases hset h3 with ⟨rfl, rfl, hl⟩ | ⟨hk, h'⟩
      · rw [sself hl] at h6
        cases h6
        rw [sne hj] at h5
        exact (mp ⟨j, c, h, h2, h5⟩).elim
      · rw [sne hj] at h5
        rw [sne hk] at h6
        exact R.inj j k c e a h h2 h' h4 h5 h6
  · rcases hset h1 with ⟨_, e, _⟩ | ⟨hj, h⟩
    · cases e
    · rw [sne hj]
      exact R.io j a d' h
/-- a name is forgotten -/
theorem Rep.drop (R : Rep K cs Z F H σ ρ) (i : Nat) (w : Option V) : Rep K cs Z F H (σ.set i w) (ρ.set i none) := by
  have hset : ∀ {j : Nat} {c : Cell}, (ρ.set i none)[j]? = some (some c) → j ≠ i ∧ ρ[j]? = some (some c) := fun {j c} h => by
    by_cases hj : j = i
    · subst hj
      by_cases hl : j < ρ.length
      · rw [List.getElem?_set_self hl] at h
        cases h
      · rw [List.getElem?_eq_none (by rw [List.length_set]; omega)] at h
        cases h
    · rw [List.getElem?_set_ne (Ne.symm hj)] at h
      exact ⟨hj, h⟩
  have sne : ∀ {j : Nat}, j ≠ i → (σ.set i w)[j]? = σ[j]? := fun hj => List.getElem?_set_ne (Ne.symm hj)
  refine ⟨by rw [List.length_set, List.length_set]; exact R.len, R.fh, R.zh, fun j c h1 h2 => ?_, fun j d' h1 => ?_, fun j k c e a h1 h2 h3 h4 h5 h6 => ?_, fun j a d' h1 => ?_, R.tab⟩
  · obtain ⟨hj, h⟩ := hset h1
    rw [sne hj]
    exact R.mine j c h h2
  · obtain ⟨hj, h⟩ := hset h1
    rw [sne hj]
    exact R.sh j d' h
  · obtain ⟨hj, h⟩ := hset h1
    obtain ⟨hk, h'⟩ := hset h3
    rw [sne hj] at h5
    rw [sne hk] at h6
    exact R.inj j k c e a h h2 h' h4 h5 h6
  · obtain ⟨hj, h⟩ := hset h1
    rw [sne hj]
    exact R.io j a d' h
end
section
variable {cs : List Addr} {X : Cx} {E : XK} {st : Stmt} {rest : List Stmt} {g g' : Nv → Option SR} {e : Expr} {pos : Pos} {fa : Nv → Option D} {ga : Nv → Option Bool}
theorem sd_nil : SDs cs X E [] (fun ρ => some (.nx ρ)) := ⟨pss_imp pss_nil fun D σ H ⟨Z, F, ρ, r, R, e, w⟩ => by
  cases e
  exact w σ F H rfl (Ext.refl F) R⟩
theorem t_seq {K : PySem.W.Frag} : ∀ D σ H, tS K cs E (seqS g g') D σ H → tSeq (tS K cs E g) (tS K cs E g') D σ H := fun D σ H ⟨Z, F, ρ, r, R, e, w⟩ => by
  obtain ⟨r1, e1, e2⟩ := Option.bind_eq_some_iff.mp e
  refine ⟨Z, F, ρ, r1, R, e1, ?_⟩
  cases r1 with
  | nx ρ1 =>
    intro σ1 F1 H1 l1 x1 R1
    exact ⟨Z, F1, ρ1, r, R1, e2, by rw [l1]; exact w.ext x1⟩
  | bk ρ1 => cases e2; exact w
  | ct ρ1 => cases e2; exact w
  | rt d o ρ1 => cases e2; exact w
  | exc c => cases e2; exact w
theorem sd_cons (h1 : SD cs X E st g) (h2 : SDs cs X E rest g') : SDs cs X E (st :: rest) (seqS g g') := ⟨pss_imp (pss_cons h1.h h2.h) t_seq⟩
theorem sd_one (h : SD cs X E st g) : SDs cs X E [st] g := ⟨pss_one h.h⟩
theorem sd_pass : SD cs X E (.Pass pos) (fun ρ => some (.nx ρ)) := ⟨ps_imp ps_pass fun D σ H ⟨Z, F, ρ, r, R, e, w⟩ => by
  cases e
  exact w σ F H rfl (Ext.refl F) R⟩
theorem sd_break : SD cs X E (.Break pos) (fun ρ => some (.bk ρ)) := ⟨ps_imp ps_break fun D σ H ⟨Z, F, ρ, r, R, e, w⟩ => by
  cases e
  exact w σ F H rfl (Ext.refl F) R⟩
theorem sd_cont : SD cs X E (.Continue pos) (fun ρ => some (.ct ρ)) := ⟨ps_imp ps_continue fun D σ H ⟨Z, F, ρ, r, R, e, w⟩ => by
  cases e
  exact w σ F H rfl (Ext.refl F) R⟩
/-- a text that says what is done -/
theorem sd_doc {x : Str} {j : Nat} {pos' : Pos} : SD cs X E (.Expr (.Constant (.str x) j pos) pos') (fun ρ => some (.nx ρ)) := ⟨ps_imp ps_doc fun D σ H ⟨Z, F, ρ, r, R, e, w⟩ => by
  cases e
  exact w σ F H rfl (Ext.refl F) R⟩
/-- code that is never reached -/
theorem sd_never : SD cs X E st (fun _ => none) := ⟨ps_imp ps_never fun D σ H ⟨Z, F, ρ, r, R, e, w⟩ => by cases e⟩
theorem sds_never : SDs cs X E rest (fun _ => none) := ⟨pss_imp pss_never fun D σ H ⟨Z, F, ρ, r, R, e, w⟩ => by cases e⟩
theorem sd_expr (h : EP' cs X e fa) (hs : swapsWith e none pos.line X.env = pure false := by rfl) : SD cs X E (.Expr e pos) (fun ρ => (fa ρ).map fun _ => .nx ρ) := ⟨ps_imp (ps_expr h.h hs) fun D σ H ⟨Z, F, ρ, r, R, ef, w⟩ => by
  obtain ⟨d, e1, rfl⟩ := Option.map_eq_some_iff.mp ef
  exact ⟨Z, F, ρ, d, R, e1, fun v F1 H1 x1 R1 _ => w σ F1 H1 rfl x1 R1⟩⟩
def setS (i : Nat) (fa : Nv → Option D) : Nv → Option SR := fun ρ => (fa ρ).map fun d => .nx (ρ.set i (some (.sh d)))
def setN (i : Nat) (fa : Nv → Option D) : Nv → Option SR := fun ρ => (fa ρ).map fun d => .nx (ρ.set i (some (.ow d)))
theorem sd_set {i : Nat} {x : Str} {pos' : Pos} (hN : X.N.Nodup) (hi : X.N[i]? = some x) (hx : Loc X.env.scope x) (h : EP' cs X e fa) (hs : swapsWith e (some (.Name x pos')) pos.line X.env = pure false := by rfl) (hf : X.fn x = true ∨ X.env.scope.names.lookup x = some .local := by first | exact .inl rfl | exact .inr rfl | assumption) :
    SD cs X E (.Assign [.Name x pos'] e pos) (setS i fa) := ⟨ps_imp (ps_set hN hi hx h.h hs hf) fun D σ H ⟨Z, F, ρ, r, R, ef, w⟩ => by
  obtain ⟨d, e1, rfl⟩ := Option.map_eq_some_iff.mp ef
  exact ⟨Z, F, ρ, d, R, e1, fun v F1 H1 x1 R1 r1 => w _ F1 H1 (by rw [List.length_set]) x1 (R1.setSh i r1)⟩⟩
theorem sd_setN {i : Nat} {x : Str} {pos' : Pos} (hN : X.N.Nodup) (hi : X.N[i]? = some x) (hx : Loc X.env.scope x) (h : EN cs X e fa) (hs : swapsWith e (some (.Name x pos')) pos.line X.env = pure false := by rfl) (hf : X.fn x = true ∨ X.env.scope.names.lookup x = some .local := by first | exact .inl rfl | exact .inr rfl | assumption) :
    SD cs X E (.Assign [.Name x pos'] e pos) (setN i fa) := ⟨ps_imp (ps_set hN hi hx h.h hs hf) fun D σ H ⟨Z, F, ρ, r, R, ef, w⟩ => by
  obtain ⟨d, e1, rfl⟩ := Option.map_eq_some_iff.mp ef
  exact ⟨Z, F, ρ, d, R, e1, fun p F1 H1 x1 R1 fp zp mp o => w _ F1 H1 (by rw [List.length_set]) x1 (R1.setOw i fp zp mp o)⟩⟩
theorem sd_ret (h : EP' cs X e fa) : SD cs X E (.Return (some e) pos) (fun ρ => (fa ρ).map fun d => .rt d false ρ) := ⟨ps_imp (ps_ret h.h) fun D σ H ⟨Z, F, ρ, r, R, ef, w⟩ => by
  obtain ⟨d, e1, rfl⟩ := Option.map_eq_some_iff.mp ef
  exact ⟨Z, F, ρ, d, R, e1, fun v F1 H1 x1 R1 r1 => w v σ F1 H1 rfl x1 R1 (by unfold ResV; rw [if_neg Bool.false_ne_true]; exact r1)⟩⟩
theorem sd_retN (h : EN cs X e fa) : SD cs X E (.Return (some e) pos) (fun ρ => (fa ρ).map fun d => .rt d true ρ) := ⟨ps_imp (ps_ret h.h) fun D σ H ⟨Z, F, ρ, r, R, ef, w⟩ => by
  obtain ⟨d, e1, rfl⟩ := Option.map_eq_some_iff.mp ef
  exact ⟨Z, F, ρ, d, R, e1, fun p F1 H1 x1 R1 fp zp mp o => w _ σ F1 H1 rfl x1 R1 (by unfold ResV; rw [if_pos rfl]; exact ⟨p, rfl, fp, zp, mp, o⟩)⟩⟩
/-- return x, x a name of this frame's own list or dict, or of shared data -/
def retNm (i : Nat) : Nv → Option SR := fun ρ => match ρ[i]? with
  | some (some (.sh d)) => some (.rt d false ρ)
  | some (some (.ow d)) => some (.rt d true (ρ.set i none))
  | _ => none
theorem sd_retNm {i : Nat} {x : Str} {pos' : Pos} (h : PE X (.Name x pos) (tVar i)) : SD cs X E (.Return (some (.Name x pos)) pos') (retNm i) := ⟨ps_imp (ps_ret h) fun D σ H ⟨Z, F, ρ, r, R, ef, w⟩ => by
  unfold retNm at ef
  split at ef
  · rename_i d e
    cases ef
    obtain ⟨v, h1, h2⟩ := R.sh i _ e
    exact ⟨v, h1, w v σ F H rfl (Ext.refl F) R (by unfold ResV; rw [if_neg Bool.false_ne_true]; exact h2)⟩
  · rename_i d e
    cases ef
    obtain ⟨a, h1, h2, h3, h4⟩ := R.mine i _ e rfl
    refine ⟨.ref a, h1, w (.ref a) (σ.set i (some (.ref a))) F H (by rw [List.length_set]) (Ext.refl F) (R.drop i _) ?_⟩
    unfold ResV
    rw [if_pos rfl]
    refine ⟨a, rfl, h2, h3, fun ⟨j, c, g1, g2, g3⟩ => ?_, h4⟩
    by_cases hj : j = i
    · subst hj
      by_cases hl : j < ρ.length
      · rw [List.getElem?_set_self hl] at g1
        cases g1
      · rw [List.getElem?_eq_none (by rw [List.length_set]; omega)] at g1
        cases g1
    · rw [List.getElem?_set_ne (Ne.symm hj)] at g1 g3
      exact hj (R.inj j i c _ a g1 g2 e rfl g3 h1)
  · cases ef⟩
theorem sd_ret0 : SD cs X E (.Return none pos) (fun ρ => some (.rt .none false ρ)) := ⟨ps_imp ps_retN fun D σ H ⟨Z, F, ρ, r, R, ef, w⟩ => by
  cases ef
  exact w .non σ F H rfl (Ext.refl F) R (by unfold ResV; rw [if_neg Bool.false_ne_true]; exact .non)⟩
def ifS (ga : Nv → Option Bool) (g g' : Nv → Option SR) : Nv → Option SR := fun ρ => (ga ρ).bind fun k => if k = true then g ρ else g' ρ
theorem sd_if {a b : List Stmt} {c : Expr} (hc : ET cs X c ga) (ha : SDs cs X E a g) (hb : SDs cs X E b g') : SD cs X E (.If c a b pos) (ifS ga g g') := ⟨ps_imp (ps_if hc.h ha.h hb.h) fun D σ H ⟨Z, F, ρ, r, R, ef, w⟩ => by
  obtain ⟨k, e1, e2⟩ := Option.bind_eq_some_iff.mp ef
  refine ⟨Z, F, ρ, k, R, e1, fun F1 H1 x1 R1 => ?_⟩
  by_cases hk : k = true
  · rw [if_pos hk] at e2 ⊢
    exact ⟨Z, F1, ρ, r, R1, e2, w.ext x1⟩
  · rw [if_neg hk] at e2 ⊢
    exact ⟨Z, F1, ρ, r, R1, e2, w.ext x1⟩⟩

/-! ### while -/
def whileS (t : Nv → Option Bool) (g : Nv → Option SR) : Nat → Nv → Option SR
  | 0, _ => none
  | n + 1, ρ => (t ρ).bind fun k => if k = true then (g ρ).bind fun r => match r with
    | .nx ρ' => whileS t g n ρ'
    | .ct ρ' => whileS t g n ρ'
    | .bk ρ' => some (.nx ρ')
    | r => some r
  else some (.nx ρ)
theorem sd_while {c : Expr} {body : List Stmt} (hp : PassesOwn (model X.prog X.w) X.A X.env X.xe) (hc : ET cs X c ga) (hb : SDs cs X E body g) (n : Nv → Nat) : SD cs X E (.While c body [] pos) (fun ρ => whileS ga g (n ρ) ρ) := ⟨ps_imp (ps_while hp hc.h hb.h) fun D σ H ⟨Z, F, ρ, r, R, ef, w⟩ => by
  refine ⟨fun m σ1 H1 => ∃ F1 ρ1, Ext F F1 ∧ σ1.length = σ.length ∧ Rep X.K cs Z F1 H1 σ1 ρ1 ∧ whileS ga g m ρ1 = some r, ⟨n ρ, F, ρ, Ext.refl F, rfl, R, ef⟩, ?_⟩
  rintro m σ1 H1 ⟨F1, ρ1, x1, l1, R1, e1⟩
  cases m with
  | zero => cases e1
  | succ m =>
    obtain ⟨k, e2, e3⟩ := Option.bind_eq_some_iff.mp e1
    refine ⟨Z, F1, ρ1, k, R1, e2, fun F2 H2 x2 R2 => ?_⟩
    by_cases hk : k = true
    · rw [if_pos hk] at e3
      obtain ⟨r1, e4, e5⟩ := Option.bind_eq_some_iff.mp e3
      rw [if_pos hk]
      have again : ∀ {ρ3 : Nv}, whileS ga g m ρ3 = some r → ∀ σ3 F3 H3, σ3.length = σ1.length → Ext F2 F3 → Rep X.K cs Z F3 H3 σ3 ρ3 → ∃ m', m' < m + 1 ∧ ∃ F1 ρ1, Ext F F1 ∧ σ3.length = σ.length ∧ Rep X.K cs Z F1 H3 σ3 ρ1 ∧ whileS ga g m' ρ1 = some r :=
        fun e6 σ3 F3 H3 l3 x3 R3 => ⟨m, Nat.lt_succ_self m, F3, _, (x1.trans x2).trans x3, l3.trans l1, R3, e6⟩
      refine ⟨fun σ3 H3 => ∃ m', m' < m + 1 ∧ ∃ F1 ρ1, Ext F F1 ∧ σ3.length = σ.length ∧ Rep X.K cs Z F1 H3 σ3 ρ1 ∧ whileS ga g m' ρ1 = some r, fun σ3 H3 h => h, Z, F2, ρ1, r1, R2, e4, ?_⟩
      cases r1 with
      | nx ρ3 => exact fun σ3 F3 H3 l3 x3 R3 => again e5 σ3 F3 H3 l3 x3 R3
      | ct ρ3 => exact fun σ3 F3 H3 l3 x3 R3 => again e5 σ3 F3 H3 l3 x3 R3
      | bk ρ3 =>
        cases e5
        exact fun σ3 F3 H3 l3 x3 R3 => w σ3 F3 H3 (l3.trans l1) ((x1.trans x2).trans x3) R3
      | rt d o ρ3 =>
        cases e5
        exact fun v σ3 F3 H3 l3 x3 R3 => w v σ3 F3 H3 (l3.trans l1) ((x1.trans x2).trans x3) R3
      | exc c =>
        cases e5
        exact fun F3 H3 x3 R3 => w F3 H3 ((x1.trans x2).trans x3) R3
    · rw [if_neg hk] at e3
      cases e3
      rw [if_neg hk]
      exact w σ1 F2 H2 l1 (x1.trans x2) R2⟩
end
end DS

namespace DS
open PySem L2

/-! ## a def by its body -/
def outsOf : List Md → List V → Nv → Option (List D)
  | [], _, _ => some []
  | .io :: ms, .ref a :: vs, some (.io b d) :: ρ => if a = b then (outsOf ms vs ρ).map (d :: ·) else none
  | .io :: _, _, _ => none
  | _ :: ms, _ :: vs, _ :: ρ => outsOf ms vs ρ
  | _ :: _, _, _ => none
def finD (ms : List Md) (vs : List V) : SR → Option Ou
  | .nx ρ => (outsOf ms vs ρ).map (.ret .none false ·)
  | .rt d own ρ => (outsOf ms vs ρ).map (.ret d own ·)
  | .exc c => some (.exc c)
  | _ => none
def runD (ms : List Md) (n : Nat) (g : Nv → Option SR) (vs : List V) (ds : List D) : Option Ou := (g (argNv ms vs ds ++ List.replicate n none)).bind (finD ms vs)
theorem outNv_get : ∀ {ms : List Md} {vs : List V} {ρ : Nv} {outs : List D} {i : Nat} {c : Cell}, outsOf ms vs ρ = some outs → (outNv ms vs outs)[i]? = some (some c) → ∃ a d, c = .io a d ∧ vs[i]? = some (.ref a) ∧ ρ[i]? = some (some (.io a d))
  | [], _, _, _, _, _, h, e => by
    cases h
    simp [outNv] at e
  | .io :: ms, .ref a :: vs, some (.io b d) :: ρ, outs, i, c, h, e => by
    unfold outsOf at h
    split at h
    · rename_i hab
      obtain ⟨os, h2, rfl⟩ := Option.map_eq_some_iff.mp h
      cases i with
      | zero =>
        have e' : some (Cell.io a d) = some c := Option.some.inj e
        cases e'
        exact ⟨a, d, rfl, rfl, by rw [hab]; rfl⟩
      | succ i => exact outNv_get (ms := ms) (i := i) h2 e
    · cases h
  | .ro :: ms, v :: vs, r :: ρ, outs, i, c, h, e => by
    have h' : outsOf ms vs ρ = some outs := by cases v <;> exact h
    cases i with
    | zero => cases v <;> simp [outNv] at e
    | succ i =>
      have e' : (outNv ms vs outs)[i]? = some (some c) := by cases v <;> exact e
      exact outNv_get (ms := ms) (i := i) h' e'
  | .mv :: ms, v :: vs, r :: ρ, outs, i, c, h, e => by
    have h' : outsOf ms vs ρ = some outs := by cases v <;> exact h
    cases i with
    | zero => cases v <;> simp [outNv] at e
    | succ i =>
      have e' : (outNv ms vs outs)[i]? = some (some c) := by cases v <;> exact e
      exact outNv_get (ms := ms) (i := i) h' e'
theorem outNv_len : ∀ {ms : List Md} {vs : List V} {ρ : Nv} {outs : List D}, vs.length = ms.length → outsOf ms vs ρ = some outs → (outNv ms vs outs).length = ms.length
  | [], [], _, _, _, h => by
    cases h
    rfl
  | .io :: ms, .ref a :: vs, some (.io b d) :: ρ, outs, hl, h => by
    unfold outsOf at h
    split at h
    · obtain ⟨os, h2, rfl⟩ := Option.map_eq_some_iff.mp h
      show (outNv ms vs os).length + 1 = ms.length + 1
      rw [outNv_len (by simpa using hl) h2]
    · cases h
  | .ro :: ms, v :: vs, r :: ρ, outs, hl, h => by
    have h' : outsOf ms vs ρ = some outs := by cases v <;> exact h
    have e : outNv (.ro :: ms) (v :: vs) outs = none :: outNv ms vs outs := by cases v <;> rfl
    rw [e, List.length_cons, List.length_cons, outNv_len (by simpa using hl) h']
  | .mv :: ms, v :: vs, r :: ρ, outs, hl, h => by
    have h' : outsOf ms vs ρ = some outs := by cases v <;> exact h
    have e : outNv (.mv :: ms) (v :: vs) outs = none :: outNv ms vs outs := by cases v <;> rfl
    rw [e, List.length_cons, List.length_cons, outNv_len (by simpa using hl) h']
section
variable {K : PySem.W.Frag} {cs : List Addr} {Z F H F' H' : Hp} {σ : L2.St} {ρ : Nv} {ms : List Md} {vs : List V} {outs : List D} {v : V} {d : D} {own : Bool}
theorem Rep.back2 (R : Rep K cs Z F H σ ρ) (hl : vs.length = ms.length) (h : outsOf ms vs ρ = some outs) : Rep K cs Z F H (vs.map some) (outNv ms vs outs) := by
  refine ⟨by rw [List.length_map, outNv_len hl h, hl], R.fh, R.zh, fun i c h1 h2 => ?_, fun i d h1 => ?_, fun i j c e a h1 h2 h3 h4 h5 h6 => ?_, fun i a d h1 => ?_, R.tab⟩
  · obtain ⟨a, d, rfl, h3, h4⟩ := outNv_get h h1
    obtain ⟨a', q1, q2⟩ := R.mine i _ h4 rfl
    have q3 := R.io i a d h4
    rw [q3] at q1
    cases q1
    exact ⟨a, by rw [List.getElem?_map, h3]; rfl, q2⟩
  · obtain ⟨_, _, e, _⟩ := outNv_get h h1
    cases e
  · obtain ⟨a1, d1, rfl, g3, g4⟩ := outNv_get h h1
    obtain ⟨a2, d2, rfl, k3, k4⟩ := outNv_get h h3
    rw [List.getElem?_map, g3] at h5
    rw [List.getElem?_map, k3] at h6
    cases h5
    cases h6
    exact R.inj i j _ _ _ g4 rfl k4 rfl (R.io _ _ _ g4) (R.io _ _ _ k4)
  · obtain ⟨a1, d1, e, g3, g4⟩ := outNv_get h h1
    cases e
    rw [List.getElem?_map, g3]
    rfl
theorem ResV.back2 (R : Rep K cs Z F H σ ρ) (h : outsOf ms vs ρ = some outs) (r : ResV K Z F H σ ρ v d own) : ResV K Z F H (vs.map some) (outNv ms vs outs) v d own := by
  unfold ResV at r ⊢
  split at r
  · rename_i ho
    rw [if_pos ho]
    obtain ⟨p, rfl, h1, h2, h3, h4⟩ := r
    refine ⟨p, rfl, h1, h2, fun ⟨i, c, g1, g2, g3⟩ => ?_, h4⟩
    obtain ⟨a1, d1, rfl, k3, k4⟩ := outNv_get h g1
    rw [List.getElem?_map, k3] at g3
    cases g3
    exact h3 ⟨i, _, k4, rfl, R.io i _ _ k4⟩
  · rename_i ho
    rw [if_neg ho]
    exact r
/-- more names, without values yet -/
theorem Rep.pad (R : Rep K cs Z F H σ ρ) (n : Nat) : Rep K cs Z F H (σ ++ List.replicate n none) (ρ ++ List.replicate n none) := by
  have hg : ∀ {i : Nat} {c : Cell}, (ρ ++ List.replicate n none)[i]? = some (some c) → ρ[i]? = some (some c) ∧ (σ ++ List.replicate n none)[i]? = σ[i]? := fun {i c} h => by
    by_cases hi : i < ρ.length
    · rw [List.getElem?_append_left hi] at h
      exact ⟨h, List.getElem?_append_left (by rw [R.len]; exact hi)⟩
    · rw [List.getElem?_append_right (by omega), List.getElem?_replicate] at h
      split at h <;> cases h
  refine ⟨by rw [List.length_append, List.length_append, R.len, List.length_replicate, List.length_replicate], R.fh, R.zh, fun i c h1 h2 => ?_, fun i d h1 => ?_, fun i j c e a h1 h2 h3 h4 h5 h6 => ?_, fun i a d h1 => ?_, R.tab⟩
  · obtain ⟨g1, g2⟩ := hg h1
    rw [g2]
    exact R.mine i c g1 h2
  · obtain ⟨g1, g2⟩ := hg h1
    rw [g2]
    exact R.sh i d g1
  · obtain ⟨g1, g2⟩ := hg h1
    obtain ⟨k1, k2⟩ := hg h3
    rw [g2] at h5
    rw [k2] at h6
    exact R.inj i j c e a g1 h2 k1 h4 h5 h6
  · obtain ⟨g1, g2⟩ := hg h1
    rw [g2]
    exact R.io i a d g1
end
/-- what the body's run must come to -/
def Comes (ms : List Md) (n : Nat) (g : Nv → Option SR) (sem : List D → Option Ou) : Prop := ∀ vs ds o, vs.length = ms.length → ds.length = ms.length → ioOk ms vs = true → sem ds = some o → runD ms n g vs ds = some o
theorem body_ends {cs : List Addr} {K : PySem.W.Frag} {N ps : List Str} {ms : List Md} {sem : List D → Option Ou} {g : Nv → Option SR} {vs : List V} {H : Hp} {Q : VK} {E : XK} (hm : ms.length = ps.length) (hc : Comes ms (N.length - ps.length) g sem) (h : spD K cs ms sem vs H Q E) :
    tS K cs E g { nx := fun _ H' => Q .non H', rt := Q } (L2.start N vs) H := by
  obtain ⟨Z, F, ds, o, hv, hd, hio, R, hs, q⟩ := h
  have e := hc vs ds o hv hd hio hs
  unfold runD at e
  obtain ⟨r, e1, e2⟩ := Option.bind_eq_some_iff.mp e
  have hst : L2.start N vs = vs.map some ++ List.replicate (N.length - ps.length) none := by
    unfold L2.start
    rw [hv, hm]
  refine ⟨Z, F, _, r, by rw [hst]; exact R.pad _, e1, ?_⟩
  cases r with
  | nx ρ =>
    obtain ⟨outs, e3, rfl⟩ := Option.map_eq_some_iff.mp e2
    exact fun σ F' H' _ x R' => q .non F' H' x (R'.back2 hv e3) (by unfold ResV; rw [if_neg Bool.false_ne_true]; exact .non)
  | bk ρ => cases e2
  | ct ρ => cases e2
  | rt d own ρ =>
    obtain ⟨outs, e3, rfl⟩ := Option.map_eq_some_iff.mp e2
    exact fun v σ F' H' _ x R' res => q v F' H' x (R'.back2 hv e3) (ResV.back2 R' e3 res)
  | exc c =>
    cases e2
    exact q
theorem fn_ds {P : Program} {w : World} {K : PySem.W.Frag} {mg : Str → Option Value} {base : Heap} {cs : List Addr} {x qual : Str} {st : Stmt} {f : Addr} {fd : FuncData} {N ps : List Str} {k : Nat} {ms : List Md} {sem : List D → Option Ou} (F : Fun K x qual st f fd) (S : FnScope N ps (defScope st)) (hm : ms.length = ps.length)
    (hbody : ∀ (cdv : Value) (A : Around) (outer : List Env) (s : Shared) (H : Hp) (E : XK), Room k (A.deeper (PyProof.Rows.envOfC qual (defScope st) s.heap.objs.size f cdv)) →
      ∃ g, SDs cs (cxOf CX0 P w K mg base N qual (defScope st) f cdv A outer s H E).nox E (defBody st) g ∧ Comes ms (N.length - ps.length) g sem) :
    FnOk P w K mg base CX0 (k + 1) f fd ps (spD K cs ms sem) := by
  refine F.ok S (fun vs H Q E h => ?_) fun cdv A outer s H vs Q E hr h => ?_
  · obtain ⟨_, _, _, _, hv, _⟩ := h
    rw [hv, hm]
  · obtain ⟨g, h1, h2⟩ := hbody cdv A outer s H E hr
    exact ⟨_, h1.h, body_ends hm h2 h⟩
end DS

namespace DS
open PySem L2

/-! ## what is walked -/
/-- ds come one by one, while P holds -/
structure Src (K : PySem.W.Frag) (cs : List Addr) (P : Hp → L2.St → Nv → Prop) (J : It) (ds : List D) : Prop where
  mono : ∀ F F' σ ρ, Ext F F' → P F σ ρ → P F' σ ρ
  go : ∀ Z F H σ ρ i x, Rep K cs Z F H σ ρ → P F σ ρ → ds[i]? = some x → J.go i H ∧ ∀ y H', J.yld i H y H' → ∃ F', Ext F F' ∧ Rep K cs Z F' H' σ ρ ∧ Rp K F' y x
  stop : ∀ Z F H σ ρ i, Rep K cs Z F H σ ρ → P F σ ρ → ds.length ≤ i → J.stop i H
/-- whatever the names become -/
def AnyP (P : Hp → L2.St → Nv → Prop) : Prop := ∀ F σ ρ σ' ρ', P F σ ρ → P F σ' ρ'
def noMine (ρ : Nv) (i : Nat) : Bool := match ρ[i]? with
  | some (some c) => !c.mine
  | _ => true
def SetP (P : Hp → L2.St → Nv → Prop) : Prop := ∀ F σ ρ i w c, noMine ρ i = true → P F σ ρ → P F (σ.set i w) (ρ.set i c)
def tI (K : PySem.W.Frag) (cs : List Addr) (C : (Hp → L2.St → Nv → Prop) → Prop) (f : Nv → Option (List D)) : TI := fun σ H R => ∃ Z F ρ ds, Rep K cs Z F H σ ρ ∧ f ρ = some ds ∧ ∀ J P F' H', Ext F F' → Rep K cs Z F' H' σ ρ → P F' σ ρ → C P → Src K cs P J ds → R J H'
structure EI (cs : List Addr) (X : Cx) (C : (Hp → L2.St → Nv → Prop) → Prop) (tg e : Expr) (f : Nv → Option (List D)) : Prop where
  h : PI X tg e (tI X.K cs C f)
theorem AnyP.set {P : Hp → L2.St → Nv → Prop} (h : AnyP P) : SetP P := fun F σ ρ i w c _ p => h F σ ρ _ _ p
section
variable {cs : List Addr} {X : Cx} {tg e a b : Expr} {fa fb : Nv → Option D} {f : Nv → Option (List D)} {p pos : Pos}
theorem pi_imp {wi wi' : TI} (h : PI X tg e wi) (i : ∀ σ H R, wi' σ H R → wi σ H R) : PI X tg e wi' := ⟨fun pins s σ H R I q => h.run pins s σ H R I (i σ H R q)⟩
theorem EI.comp (h : EI cs X AnyP tg e f) : EI cs X SetP tg e f := ⟨pi_imp h.h fun σ H R ⟨Z, F, ρ, ds, r, ef, q⟩ => ⟨Z, F, ρ, ds, r, ef, fun J P F' H' x R' p c s => q J P F' H' x R' p c.set s⟩⟩
def asL : D → Option (List D)
  | .list xs => some xs
  | _ => none
def asTu : D → Option (List D)
  | .tuple xs => some xs
  | _ => none
theorem asL_some {d : D} {xs : List D} (h : asL d = some xs) : d = .list xs := by
  cases d <;> simp [asL] at h
  rw [h]
theorem asTu_some {d : D} {xs : List D} (h : asTu d = some xs) : d = .tuple xs := by
  cases d <;> simp [asTu] at h
  rw [h]
theorem src_list {K : PySem.W.Frag} {a : Addr} {ds : List D} {P : Hp → L2.St → Nv → Prop} (hm : ∀ F F' σ ρ, Ext F F' → P F σ ρ → P F' σ ρ) (h : ∀ Z F H σ ρ, Rep K cs Z F H σ ρ → P F σ ρ → ∃ xs, SqL K H a xs ∧ Rps K F xs ds) : Src K cs P (Itl K a) ds := by
  refine ⟨hm, fun Z F H σ ρ i x R p hi => ?_, fun Z F H σ ρ i R p hi => ?_⟩
  · obtain ⟨xs, s, r⟩ := h Z F H σ ρ R p
    obtain ⟨v, h1, h2⟩ := r.get hi
    refine ⟨⟨xs, v, s, h1⟩, fun y H' ⟨e1, e2⟩ => ?_⟩
    subst e1
    have e3 := e2 xs s
    rw [h1] at e3
    cases e3
    exact ⟨F, Ext.refl F, R, h2⟩
  · obtain ⟨xs, s, r⟩ := h Z F H σ ρ R p
    exact ⟨xs, s, by rw [r.len]; exact hi⟩
/-- a list that all read -/
theorem i_list (h : EP' cs X e fa) : EI cs X AnyP tg e (fun ρ => (fa ρ).bind asL) := ⟨pi_imp (pi_list h.h) fun σ H R ⟨Z, F, ρ, ds, r, ef, q⟩ => by
  obtain ⟨d, e1, e2⟩ := Option.bind_eq_some_iff.mp ef
  have hd := asL_some e2
  refine ⟨Z, F, ρ, d, r, e1, fun v F1 H1 x1 R1 r1 => ?_⟩
  rw [hd] at r1
  cases r1 with
  | lst s t =>
    refine ⟨_, rfl, ⟨_, R1.ex.sqL s⟩, ?_⟩
    refine q _ (fun F _ _ => Ext F1 F) F1 H1 x1 R1 (Ext.refl F1) (fun _ _ _ _ _ p => p) (src_list (fun _ _ _ _ x p => p.trans x) fun Z F H σ ρ R2 p => ?_)
    exact ⟨_, R2.ex.sqL (Ext.sqL p s), t.ext p⟩⟩
/-- a list as it stands -/
theorem i_listW (h : EW cs X e fa) : EI cs X SetP tg e (fun ρ => (fa ρ).bind asL) := ⟨pi_imp (pi_list h.h) fun σ H R ⟨Z, F, ρ, ds, r, ef, q⟩ => by
  obtain ⟨d, e1, e2⟩ := Option.bind_eq_some_iff.mp ef
  have hd := asL_some e2
  refine ⟨Z, F, ρ, d, r, e1, fun v F1 H1 x1 R1 w1 => ?_⟩
  rw [hd] at w1
  obtain ⟨a, xs, rfl, s1, _⟩ := R1.lst w1
  refine ⟨a, rfl, ⟨xs, s1⟩, ?_⟩
  refine q _ (fun F σ ρ => Vw X.K F σ ρ (.ref a) (.list ds)) F1 H1 x1 R1 w1 (fun F σ ρ i w c hn p => ?_) (src_list (fun _ _ _ _ x p => p.ext x) fun Z F H σ ρ R2 p => ?_)
  · rcases p with p | ⟨j, c', h1, h2, h3, h4⟩
    · exact .inl p
    · have hj : j ≠ i := fun z => by
        subst z
        unfold noMine at hn
        rw [h1] at hn
        simp [h2] at hn
      exact .inr ⟨j, c', by rw [List.getElem?_set_ne (Ne.symm hj)]; exact h1, h2, h3, by rw [List.getElem?_set_ne (Ne.symm hj)]; exact h4⟩
  · obtain ⟨a', xs', e3, s', t⟩ := R2.lst p
    cases e3
    exact ⟨xs', s', t⟩⟩
theorem i_tup (h : EP' cs X e fa) : EI cs X AnyP tg e (fun ρ => (fa ρ).bind asTu) := ⟨pi_imp (pi_tup h.h) fun σ H R ⟨Z, F, ρ, ds, r, ef, q⟩ => by
  obtain ⟨d, e1, e2⟩ := Option.bind_eq_some_iff.mp ef
  have hd := asTu_some e2
  refine ⟨Z, F, ρ, d, r, e1, fun v F1 H1 x1 R1 r1 => ?_⟩
  rw [hd] at r1
  cases r1 with
  | tup s t =>
    refine ⟨_, rfl, ⟨_, R1.ex.sqT s⟩, ?_⟩
    refine q _ (fun F _ _ => Ext F1 F) F1 H1 x1 R1 (Ext.refl F1) (fun _ _ _ _ _ p => p) ⟨fun _ _ _ _ x p => p.trans x, fun Z F H σ ρ i x R2 p hi => ?_, fun Z F H σ ρ i R2 p hi => ?_⟩
    · obtain ⟨v, h1, h2⟩ := (t.ext p).get hi
      have s2 := R2.ex.sqT (Ext.sqT p s)
      refine ⟨⟨_, v, s2, h1⟩, fun y H' ⟨e1, e2⟩ => ?_⟩
      subst e1
      have e3 := e2 _ s2
      rw [h1] at e3
      cases e3
      exact ⟨F, Ext.refl F, R2, h2⟩
    · exact ⟨_, R2.ex.sqT (Ext.sqT p s), by rw [t.len]; exact hi⟩⟩
/-- the signs of a text -/
def signsD (x : Str) : List D := x.cps.toList.map fun c => .str ⟨#[c]⟩
def asSg : D → Option (List D)
  | .str x => some (signsD x)
  | _ => none
theorem i_str (h : EW cs X e fa) : EI cs X AnyP tg e (fun ρ => (fa ρ).bind asSg) := ⟨pi_imp (pi_str h.h) fun σ H R ⟨Z, F, ρ, ds, r, ef, q⟩ => by
  obtain ⟨d, e1, e2⟩ := Option.bind_eq_some_iff.mp ef
  refine ⟨Z, F, ρ, d, r, e1, fun v F1 H1 x1 R1 w1 => ?_⟩
  unfold asSg at e2
  split at e2
  · cases e2
    cases R1.vstr w1
    refine ⟨_, rfl, q _ (fun _ _ _ => True) F1 H1 x1 R1 trivial (fun _ _ _ _ _ p => p) ⟨fun _ _ _ _ _ p => p, fun Z F H σ ρ i x R2 _ hi => ?_, fun Z F H σ ρ i R2 _ hi => ?_⟩⟩
    · unfold signsD at hi
      rw [List.getElem?_map] at hi
      obtain ⟨c, h1, rfl⟩ := Option.map_eq_some_iff.mp hi
      rw [Array.getElem?_toList] at h1
      refine ⟨(Array.getElem?_eq_some_iff.mp h1).1, fun y H' ⟨e1, c', e2, e3⟩ => ?_⟩
      subst e1 e3
      rw [h1] at e2
      cases e2
      exact ⟨F, Ext.refl F, R2, .str _⟩
    · unfold signsD at hi
      rw [List.length_map] at hi
      exact hi
  · cases e2⟩
def rngD (lo : Int) (n : Nat) : List D := (List.range n).map fun (i : Nat) => .int (lo + i)
theorem src_rng {K : PySem.W.Frag} (lo : Int) (n : Nat) : Src K cs (fun _ _ _ => True) (Itr lo n) (rngD lo n) := by
  refine ⟨fun _ _ _ _ _ p => p, fun Z F H σ ρ i x R2 _ hi => ?_, fun Z F H σ ρ i R2 _ hi => ?_⟩
  · unfold rngD at hi
    rw [List.getElem?_map] at hi
    obtain ⟨j, h1, rfl⟩ := Option.map_eq_some_iff.mp hi
    obtain ⟨h2, h3⟩ := List.getElem?_eq_some_iff.mp h1
    rw [List.getElem_range] at h3
    subst h3
    rw [List.length_range] at h2
    refine ⟨h2, fun y H' ⟨e1, e2⟩ => ?_⟩
    subst e1 e2
    exact ⟨F, Ext.refl F, R2, .int _⟩
  · unfold rngD at hi
    rw [List.length_map, List.length_range] at hi
    exact hi
def rng1 : List D → Option (List D)
  | [.int j] => if -(2 ^ 62) ≤ j ∧ j < 2 ^ 62 then some (rngD 0 j.toNat) else none
  | _ => none
def rng2 : List D → Option (List D)
  | [.int i, .int j] => if (-(2 ^ 62) ≤ i ∧ i < 2 ^ 62) ∧ (-(2 ^ 62) ≤ j ∧ j < 2 ^ 62) then some (rngD i (j - i).toNat) else none
  | _ => none
theorem rps_int {K : PySem.W.Frag} {F : Hp} {v : V} {i : Int} (h : Rp K F v (.int i)) : v = .int i := by
  cases h
  rfl
theorem i_rng1 {fr : Nv → Option (List D)} (hg : Gl X "range") (hm : X.mg "range" = none) (ha : EPs cs X [a] fr) (hs : starEach [a] X.env = [(false, eval a X.env)] := by rfl) : EI cs X AnyP tg (.Call (.Name "range" p) [a] [] pos) (fun ρ => (fr ρ).bind rng1) :=
  ⟨pi_imp (pi_range1 hg hm ha.h hs) fun σ H R ⟨Z, F, ρ, ds, r, ef, q⟩ => by
    obtain ⟨d, e1, e2⟩ := Option.bind_eq_some_iff.mp ef
    refine ⟨Z, F, ρ, d, r, e1, fun vs F1 H1 x1 R1 r1 => ?_⟩
    unfold rng1 at e2
    split at e2
    · split at e2
      · rename_i hb
        cases e2
        cases r1 with
        | cons t u =>
          cases u
          cases rps_int t
          exact ⟨_, rfl, hb.1, hb.2, q _ _ F1 H1 x1 R1 trivial (fun _ _ _ _ _ p => p) (src_rng 0 _)⟩
      · cases e2
    · cases e2⟩
theorem i_rng2 {fr : Nv → Option (List D)} (hg : Gl X "range") (hm : X.mg "range" = none) (ha : EPs cs X [a, b] fr) (hs : starEach [a, b] X.env = [(false, eval a X.env), (false, eval b X.env)] := by rfl) (hs2 : starEach [b] X.env = [(false, eval b X.env)] := by rfl) :
    EI cs X AnyP tg (.Call (.Name "range" p) [a, b] [] pos) (fun ρ => (fr ρ).bind rng2) :=
  ⟨pi_imp (pi_range2 hg hm ha.h hs hs2) fun σ H R ⟨Z, F, ρ, ds, r, ef, q⟩ => by
    obtain ⟨d, e1, e2⟩ := Option.bind_eq_some_iff.mp ef
    refine ⟨Z, F, ρ, d, r, e1, fun vs F1 H1 x1 R1 r1 => ?_⟩
    unfold rng2 at e2
    split at e2
    · split at e2
      · rename_i hb
        cases e2
        cases r1 with
        | cons t u =>
          cases u with
          | cons t' u =>
            cases u
            cases rps_int t
            cases rps_int t'
            exact ⟨_, _, rfl, ⟨hb.1.1, hb.1.2, hb.2.1, hb.2.2⟩, q _ _ F1 H1 x1 R1 trivial (fun _ _ _ _ _ p => p) (src_rng _ _)⟩
      · cases e2
    · cases e2⟩
def enumD (ds : List D) : List D := (List.range ds.length).map fun (i : Nat) => .tuple [.int i, ds.getD i .none]
theorem i_enum {fr : Nv → Option (List D)} {elts : List Expr} {kk : Nat} {tpos : Pos} (hg : Gl X "enumerate") (hm : X.mg "enumerate" = none) (ha : EPs cs X [a] fr) (hs : starEach [a] X.env = [(false, eval a X.env)] := by rfl) :
    EI cs X AnyP (.Tuple elts kk tpos) (.Call (.Name "enumerate" p) [a] [] pos) (fun ρ => (fr ρ).bind fun ds => match ds with
      | [.list xs] => some (enumD xs)
      | _ => none) :=
  ⟨pi_imp (pi_enum hg hm ha.h hs) fun σ H R ⟨Z, F, ρ, ds, r, ef, q⟩ => by
    obtain ⟨d, e1, e2⟩ := Option.bind_eq_some_iff.mp ef
    refine ⟨Z, F, ρ, d, r, e1, fun vs F1 H1 x1 R1 r1 => ?_⟩
    split at e2
    · rename_i xs
      cases e2
      cases r1 with
      | cons t u =>
        cases u
        cases t with
        | lst s t =>
          refine ⟨_, _, rfl, R1.ex.sqL s, ?_⟩
          refine q _ (fun F _ _ => Ext F1 F) F1 H1 x1 R1 (Ext.refl F1) (fun _ _ _ _ _ p => p) ⟨fun _ _ _ _ x p => p.trans x, fun Z F H σ ρ i x R2 p hi => ?_, fun Z F H σ ρ i R2 p hi => ?_⟩
          · unfold enumD at hi
            rw [List.getElem?_map] at hi
            obtain ⟨j, h1, rfl⟩ := Option.map_eq_some_iff.mp hi
            obtain ⟨h2, h3⟩ := List.getElem?_eq_some_iff.mp h1
            rw [List.getElem_range] at h3
            subst h3
            rw [List.length_range] at h2
            have s2 := R2.ex.sqL (Ext.sqL p s)
            have hx : xs[i]? = some (xs.getD i .none) := by rw [List.getD_eq_getElem?_getD, List.getElem?_eq_getElem h2]; rfl
            obtain ⟨v, g1, g2⟩ := (t.ext p).get hx
            refine ⟨⟨_, v, s2, g1⟩, fun y H' ⟨T, z, e1, e2, e3, e4⟩ => ?_⟩
            have e5 := e4 _ s2
            rw [g1] at e5
            cases e5
            subst e1 e3
            obtain ⟨R3, x3, _⟩ := R2.new (o := .tup [.int (i : Nat), v]) e2
            exact ⟨_, x3, R3, .tup (.inl (.inl upd_same)) (.cons (.int _) (.cons (g2.ext x3) .nil))⟩
          · unfold enumD at hi
            rw [List.length_map, List.length_range] at hi
            exact ⟨_, R2.ex.sqL (Ext.sqL p s), by rw [t.len]; exact hi⟩
    · cases e2⟩
end

/-! ## what is stored -/
def tG (K : PySem.W.Frag) (cs : List Addr) (a : D → Nv → Option Nv) : TG := fun v σ H Q => ∃ Z F ρ d ρ', Rep K cs Z F H σ ρ ∧ Rp K F v d ∧ a d ρ = some ρ' ∧ ∀ σ' F' H', σ'.length = σ.length → Ext F F' → Rep K cs Z F' H' σ' ρ' → Q σ' H'
def tGs (K : PySem.W.Frag) (cs : List Addr) (a : List D → Nv → Option Nv) : TGs := fun vs σ H Q => ∃ Z F ρ ds ρ', Rep K cs Z F H σ ρ ∧ Rps K F vs ds ∧ a ds ρ = some ρ' ∧ ∀ σ' F' H', σ'.length = σ.length → Ext F F' → Rep K cs Z F' H' σ' ρ' → Q σ' H'
structure GD (cs : List Addr) (X : Cx) (tg : Expr) (a : D → Nv → Option Nv) : Prop where
  h : PG X tg (tG X.K cs a)
structure GDs (cs : List Addr) (X : Cx) (tg : List Expr) (a : List D → Nv → Option Nv) : Prop where
  h : PGs X tg (tGs X.K cs a)
section
variable {cs : List Addr} {X : Cx} {tg : Expr} {tgs : List Expr} {pos : Pos} {a : D → Nv → Option Nv} {as : List D → Nv → Option Nv}
theorem pg_imp {t t' : TG} (h : PG X tg t) (i : ∀ v σ H Q, t' v σ H Q → t v σ H Q) : PG X tg t' := ⟨fun pins s σ H v u Q I r q => h.run pins s σ H v u Q I r (i v σ H Q q)⟩
theorem pgs_imp {t t' : TGs} (h : PGs X tgs t) (i : ∀ v σ H Q, t' v σ H Q → t v σ H Q) : PGs X tgs t' := ⟨fun pins s σ H v u Q I r q => h.run pins s σ H v u Q I r (i v σ H Q q)⟩
def toNm (i : Nat) : D → Nv → Option Nv := fun d ρ => some (ρ.set i (some (.sh d)))
theorem g_name {i : Nat} {x : Str} (hN : X.N.Nodup) (hi : X.N[i]? = some x) (hx : Loc X.env.scope x) (hf : X.fn x = true ∨ X.env.scope.names.lookup x = some .local := by first | exact .inl rfl | exact .inr rfl | assumption) : GD cs X (.Name x pos) (toNm i) :=
  ⟨pg_imp (pg_name hN hi hx hf) fun v σ H Q ⟨Z, F, ρ, d, ρ', R, r, e, q⟩ => by
    cases e
    exact q _ F H (by rw [List.length_set]) (Ext.refl F) (R.setSh i r)⟩
def toNil : List D → Nv → Option Nv
  | [], ρ => some ρ
  | _, _ => none
def toCons (a : D → Nv → Option Nv) (as : List D → Nv → Option Nv) : List D → Nv → Option Nv
  | d :: r, ρ => (a d ρ).bind (as r)
  | _, _ => none
theorem gs_nil : GDs cs X [] toNil := ⟨pgs_imp pgs_nil fun v σ H Q ⟨Z, F, ρ, ds, ρ', R, r, e, q⟩ => by
  unfold toNil at e
  split at e
  · cases e
    cases r
    exact ⟨rfl, q σ F H rfl (Ext.refl F) R⟩
  · cases e⟩
theorem gs_cons (h1 : GD cs X tg a) (h2 : GDs cs X tgs as) (hs : (assignEach (tg :: tgs) X.env).map (·.2) = assign tg X.env :: (assignEach tgs X.env).map (·.2) := by rfl) : GDs cs X (tg :: tgs) (toCons a as) := ⟨pgs_imp (pgs_cons h1.h h2.h hs) fun v σ H Q ⟨Z, F, ρ, ds, ρ', R, r, e, q⟩ => by
  unfold toCons at e
  split at e
  · obtain ⟨ρ1, e1, e2⟩ := Option.bind_eq_some_iff.mp e
    cases r with
    | cons t u =>
      exact ⟨_, _, rfl, Z, F, ρ, _, ρ1, R, t, e1, fun σ1 F1 H1 l1 x1 R1 => ⟨Z, F1, ρ1, _, ρ', R1, u.ext x1, e2, fun σ2 F2 H2 l2 x2 R2 => q σ2 F2 H2 (l2.trans l1) (x1.trans x2) R2⟩⟩
  · cases e⟩
def toTu (n : Nat) (as : List D → Nv → Option Nv) : D → Nv → Option Nv := fun d ρ => match d with
  | .tuple ds => if ds.length = n then as ds ρ else none
  | _ => none
theorem g_tup {k n : Nat} (hc : X.calm = true) (h : GDs cs X tgs as) (hn : (assignEach tgs X.env).length = n := by rfl) (hst : (assignEach tgs X.env).findIdx? (·.1) = none := by rfl) : GD cs X (.Tuple tgs k pos) (toTu n as) := ⟨pg_imp (pg_tup hc h.h hn hst) fun v σ H Q ⟨Z, F, ρ, d, ρ', R, r, e, q⟩ => by
  unfold toTu at e
  split at e
  · split at e
    · rename_i hl
      cases r with
      | tup s t => exact ⟨_, _, rfl, R.ex.sqT s, by rw [t.len]; exact hl, Z, F, ρ, _, ρ', R, t, e, q⟩
    · cases e
  · cases e⟩
end

/-! ## for -/
def forS (a : D → Nv → Option Nv) (g : Nv → Option SR) : List D → Nv → Option SR
  | [], ρ => some (.nx ρ)
  | d :: ds, ρ => (a d ρ).bind fun ρ1 => (g ρ1).bind fun r => match r with
    | .nx ρ2 => forS a g ds ρ2
    | .ct ρ2 => forS a g ds ρ2
    | .bk ρ2 => some (.nx ρ2)
    | r => some r
section
variable {cs : List Addr} {X : Cx} {E : XK} {tg iter : Expr} {body : List Stmt} {pos : Pos} {a : D → Nv → Option Nv} {f : Nv → Option (List D)} {g : Nv → Option SR}
theorem sd_for (hp : PassesOwn (model X.prog X.w) X.A X.env X.xe) (hc : X.calm = true) (hi : EI cs X AnyP tg iter f) (hg : GD cs X tg a) (hb : SDs cs X E body g) (hs : ∀ x, foldedSetIterable iter X.env x = pure x := by intro _; rfl) :
    SD cs X E (.For tg iter body [] pos) (fun ρ => (f ρ).bind fun ds => forS a g ds ρ) := ⟨ps_imp (ps_for hp hc hi.h hg.h hb.h hs) fun D σ H ⟨Z, F, ρ, r, R, ef, w⟩ => by
  obtain ⟨ds, e1, e2⟩ := Option.bind_eq_some_iff.mp ef
  refine ⟨Z, F, ρ, ds, R, e1, fun J P F1 H1 x1 R1 p1 hP S => ?_⟩
  refine ⟨fun i m σ2 H2 => i + m = ds.length ∧ ∃ F2 ρ2, Ext F F2 ∧ σ2.length = σ.length ∧ Rep X.K cs Z F2 H2 σ2 ρ2 ∧ P F2 σ2 ρ2 ∧ forS a g (ds.drop i) ρ2 = some r, ⟨ds.length, by omega, F1, ρ, x1, rfl, R1, p1, by rw [List.drop_zero]; exact e2⟩, ?_⟩
  rintro i m σ2 H2 ⟨hm, F2, ρ2, x2, l2, R2, p2, e3⟩
  by_cases hlt : i < ds.length
  · have hd : ds.drop i = ds[i] :: ds.drop (i + 1) := List.drop_eq_getElem_cons hlt
    rw [hd] at e3
    obtain ⟨ρ3, e4, e5⟩ := Option.bind_eq_some_iff.mp e3
    obtain ⟨r1, e6, e7⟩ := Option.bind_eq_some_iff.mp e5
    obtain ⟨hgo, hy⟩ := S.go Z F2 H2 σ2 ρ2 i ds[i] R2 p2 (List.getElem?_eq_getElem hlt)
    refine .inr ⟨hgo, fun σ3 H3 => ∃ m', m' < m ∧ (i + 1) + m' = ds.length ∧ ∃ F3 ρ3, Ext F F3 ∧ σ3.length = σ.length ∧ Rep X.K cs Z F3 H3 σ3 ρ3 ∧ P F3 σ3 ρ3 ∧ forS a g (ds.drop (i + 1)) ρ3 = some r, fun σ3 H3 h => h, fun y H3 hyl => ?_⟩
    obtain ⟨F3, x3, R3, r3⟩ := hy y H3 hyl
    refine ⟨Z, F3, ρ2, ds[i], ρ3, R3, r3, e4, fun σ4 F4 H4 l4 x4 R4 => ⟨Z, F4, ρ3, r1, R4, e6, ?_⟩⟩
    have x24 : Ext F F4 := (x2.trans x3).trans x4
    have l42 : σ4.length = σ.length := l4.trans l2
    have p4 : ∀ {F5 : Hp} {σ5 : L2.St} {ρ5 : Nv}, Ext F4 F5 → P F5 σ5 ρ5 := fun {F5 σ5 ρ5} x5 => hP _ _ _ _ _ (S.mono _ _ _ _ ((x3.trans x4).trans x5) p2)
    cases r1 with
    | nx ρ5 => exact fun σ5 F5 H5 l5 x5 R5 => ⟨m - 1, by omega, by omega, F5, ρ5, x24.trans x5, l5.trans l42, R5, p4 x5, e7⟩
    | ct ρ5 => exact fun σ5 F5 H5 l5 x5 R5 => ⟨m - 1, by omega, by omega, F5, ρ5, x24.trans x5, l5.trans l42, R5, p4 x5, e7⟩
    | bk ρ5 =>
      cases e7
      exact fun σ5 F5 H5 l5 x5 R5 => w σ5 F5 H5 (l5.trans l42) (x24.trans x5) R5
    | rt d o ρ5 =>
      cases e7
      exact fun v σ5 F5 H5 l5 x5 R5 => w v σ5 F5 H5 (l5.trans l42) (x24.trans x5) R5
    | exc c =>
      cases e7
      exact fun F5 H5 x5 R5 => w F5 H5 (x24.trans x5) R5
  · have hd : ds.drop i = [] := List.drop_of_length_le (by omega)
    rw [hd] at e3
    cases e3
    exact .inl ⟨S.stop Z F2 H2 σ2 ρ2 i R2 p2 (by omega), w σ2 F2 H2 l2 x2 R2⟩⟩
end

/-! ## list comprehensions -/
def lcD (i : Nat) (t : Nv → Option Bool) (f : Nv → Option D) (ρ : Nv) : List D → Option (List D)
  | [] => some []
  | x :: xs => (t (ρ.set i (some (.sh x)))).bind fun b => if b = true then (f (ρ.set i (some (.sh x)))).bind fun y => (lcD i t f ρ xs).map (y :: ·) else lcD i t f ρ xs
structure ETs (cs : List Addr) (X : Cx) (ifs : List Expr) (f : Nv → Option Bool) : Prop where
  h : PTs X ifs (tPT X.K cs f)
section
variable {cs : List Addr} {X : Cx} {c : Expr} {ga : Nv → Option Bool}
theorem pts_imp {ifs : List Expr} {t t' : TT} (h : PTs X ifs t) (i : ∀ σ H Q, t' σ H Q → t σ H Q) : PTs X ifs t' := ⟨fun pins s σ H Q I q => h.run pins s σ H Q I (i σ H Q q)⟩
theorem ets_nil : ETs cs X [] (fun _ => some true) := ⟨pts_imp pts_nil fun σ H Q ⟨Z, F, ρ, b, R, e, q⟩ => by
  cases e
  exact q F H (Ext.refl F) R⟩
theorem ets_one (h : ET cs X c ga) : ETs cs X [c] ga := ⟨pts_one h.h⟩
end
section
variable {K : PySem.W.Frag} {cs : List Addr} {Z Z' F H F' H' : Hp} {σ : L2.St} {ρ : Nv} {i : Nat}
/-- behind the block -/
theorem Rep.restore {w : Option V} {c : Option Cell} (R : Rep K cs Z F H σ ρ) (hn : noMine ρ i = true) (hc : ∀ c', c = some c' → c'.mine = false) (x : Ext F F') (hz : ∀ a o, Z a = some o → Z' a = some o) (R' : Rep K cs Z' F' H' (σ.set i w) (ρ.set i c)) : Rep K cs Z F' H' σ ρ := by
  have nm : ∀ {j : Nat} {e : Cell}, ρ[j]? = some (some e) → e.mine = true → j ≠ i := fun {j e} h1 h2 z => by
    subst z
    unfold noMine at hn
    rw [h1] at hn
    simp [h2] at hn
  refine ⟨R.len, R'.fh, fun a o h => R'.zh a o (hz a o h), fun j e h1 h2 => ?_, fun j d h1 => ?_, R.inj, R.io, R'.tab⟩
  · have hj := nm h1 h2
    obtain ⟨a, q1, q2, q3, q4⟩ := R'.mine j e (by rw [List.getElem?_set_ne (Ne.symm hj)]; exact h1) h2
    rw [List.getElem?_set_ne (Ne.symm hj)] at q1
    refine ⟨a, q1, q2, ?_, q4⟩
    cases hza : Z a with
    | none => rfl
    | some o => rw [hz a o hza] at q3; cases q3
  · obtain ⟨v, q1, q2⟩ := R.sh j d h1
    exact ⟨v, q1, q2.ext x⟩
/-- an object of nobody's is set aside -/
theorem Rep.aside {p : Addr} {o : HO} (R : Rep K cs Z F H σ ρ) (hp : H p = some o) (fp : F p = none) (mp : ¬ Mine σ ρ p) : Rep K cs (upd Z p o) F H σ ρ := by
  refine ⟨R.len, R.fh, fun a u h => ?_, fun j e h1 h2 => ?_, R.sh, R.inj, R.io, R.tab⟩
  · by_cases ha : a = p
    · subst ha
      rw [upd_same] at h
      cases h
      exact ⟨hp, fp⟩
    · rw [upd_ne ha] at h
      exact R.zh a u h
  · obtain ⟨a, q1, q2, q3, q4⟩ := R.mine j e h1 h2
    have ha : a ≠ p := fun z => mp ⟨j, e, h1, h2, by rw [← z]; exact q1⟩
    exact ⟨a, q1, q2, by rw [upd_ne ha]; exact q3, q4⟩
/-- .. and changed there -/
theorem Rep.asideSet {p : Addr} {o o' : HO} (R : Rep K cs (upd Z p o) F H σ ρ) : Rep K cs (upd Z p o') F (upd H p o') σ ρ := by
  obtain ⟨hp, fp⟩ := R.zh p o upd_same
  refine ⟨R.len, fun a u h => ?_, fun a u h => ?_, fun j e h1 h2 => ?_, R.sh, R.inj, R.io, R.tab⟩
  · rw [upd_ne (ne_of_none h fp)]
    exact R.fh a u h
  · by_cases ha : a = p
    · subst ha
      rw [upd_same] at h ⊢
      exact ⟨h, fp⟩
    · rw [upd_ne ha] at h
      rw [upd_ne ha]
      exact R.zh a u (by rw [upd_ne ha]; exact h)
  · obtain ⟨a, q1, q2, q3, q4⟩ := R.mine j e h1 h2
    have ha : a ≠ p := fun z => by rw [z, upd_same] at q3; cases q3
    exact ⟨a, q1, q2, by rw [upd_ne ha] at q3 ⊢; exact q3, q4.ext (Ext.refl F) (upd_ne ha)⟩
end
section
variable {cs : List Addr} {X : Cx} {elt iter : Expr} {ifs : List Expr} {scope : Scope} {x : Str} {i : Nat} {px pos : Pos} {f : Nv → Option (List D)} {t : Nv → Option Bool} {fe : Nv → Option D}
def lcV (i : Nat) (f : Nv → Option (List D)) (t : Nv → Option Bool) (fe : Nv → Option D) : Nv → Option D := fun ρ => (f ρ).bind fun ds => if noMine ρ i = true ∧ ds.length ≤ 100000 then (lcD i t fe ρ ds).map .list else none
theorem lcD_len {t : Nv → Option Bool} {fe : Nv → Option D} {ρ : Nv} : ∀ {ds : List D} {ys : List D}, lcD i t fe ρ ds = some ys → ys.length ≤ ds.length
  | [], _, h => by
    cases h
    exact Nat.le_refl _
  | d :: ds, ys, h => by
    obtain ⟨b, _, h2⟩ := Option.bind_eq_some_iff.mp h
    split at h2
    · obtain ⟨y, _, h3⟩ := Option.bind_eq_some_iff.mp h2
      obtain ⟨zs, h4, rfl⟩ := Option.map_eq_some_iff.mp h3
      have := lcD_len h4
      simp only [List.length_cons]
      omega
    · have := lcD_len h2
      simp only [List.length_cons]
      omega
theorem e_lc (hc : X.calm = true) (hN : X.N.Nodup) (hix : X.N[i]? = some x) (hi : EI cs X SetP (.Name x px) iter f) (ok : BlkOk X.N X.env.scope scope [(x, i)])
    (hl : ∀ (s : Shared) (H : Hp) (C : Addr) (cl : List (Str × Addr)) (fp : List Addr), (X.blk s H scope (compEnvC scope cl C X.env) fp).env.scope.names.lookup x = some .local)
    (ht : ∀ (s : Shared) (H : Hp) (C : Addr) (cl : List (Str × Addr)) (fp : List Addr), ETs cs (X.blk s H scope (compEnvC scope cl C X.env) fp) ifs t)
    (he : ∀ (s : Shared) (H : Hp) (C : Addr) (cl : List (Str × Addr)) (fp : List Addr), EP' cs (X.blk s H scope (compEnvC scope cl C X.env) fp) elt fe) (hs : ∀ x, foldedSetIterable iter X.env x = pure x := by intro _; rfl) :
    EN cs X (.ListComp elt [⟨.Name x px, iter, ifs, 0⟩] scope pos) (lcV i f t fe) := by
  refine ⟨pe_imp (pe_lc (own := [(x, i)]) (g := gName i) (tt := tPT X.K cs t) (te := tP X.K cs fe) hc hN hi.h ok (fun s H C cl fp => pg_name (X := X.blk s H scope (compEnvC scope cl C X.env) fp) (i := i) hN hix (.inl (hl s H C cl fp)) (.inr (hl s H C cl fp))) (fun s H C cl fp => (ht s H C cl fp).h) (fun s H C cl fp => (he s H C cl fp).h) hs) ?_⟩
  rintro σ H Q ⟨Z, F, ρ, d, R, ef, q⟩
  obtain ⟨ds, e1, e2⟩ := Option.bind_eq_some_iff.mp ef
  split at e2
  · rename_i hb
    obtain ⟨hn, hdl⟩ := hb
    obtain ⟨ys, e3, rfl⟩ := Option.map_eq_some_iff.mp e2
    refine ⟨Z, F, ρ, ds, R, e1, fun J P F1 H1 x1 R1 p1 hP S D hD => ?_⟩
    -- D, the new list, is set aside
    obtain ⟨R2, fD, zD, mD⟩ := R1.made (o := .lst []) hD
    have R3 := R2.aside upd_same fD mD
    have R4 : Rep X.K cs (upd Z D (.lst [])) F1 (upd H1 D (.lst [])) (σ.set i none) (ρ.set i none) := R3.drop i none
    have pS : P F1 (σ.set i none) (ρ.set i none) := hP _ _ _ _ _ _ hn p1
    refine ⟨fun k m H2 => k + m = ds.length ∧ ∃ F2 acc zs rest, Ext F1 F2 ∧ Rep X.K cs (upd Z D (.lst acc)) F2 H2 (σ.set i none) (ρ.set i none) ∧ P F2 (σ.set i none) (ρ.set i none) ∧ Rps X.K F2 acc zs ∧ acc.length ≤ k ∧ lcD i t fe ρ (ds.drop k) = some rest ∧ ys = zs ++ rest,
      ⟨ds.length, by omega, F1, [], [], ys, Ext.refl F1, R4, pS, .nil, Nat.le_refl _, by rw [List.drop_zero]; exact e3, rfl⟩, ?_⟩
    rintro k m H2 ⟨hm, F2, acc, zs, rest, x2, R5, p5, r5, la, e5, hy⟩
    by_cases hlt : k < ds.length
    · have hd : ds.drop k = ds[k] :: ds.drop (k + 1) := List.drop_eq_getElem_cons hlt
      rw [hd] at e5
      obtain ⟨b, e6, e7⟩ := Option.bind_eq_some_iff.mp e5
      obtain ⟨hgo, hyl⟩ := S.go _ F2 H2 _ _ k ds[k] R5 p5 (List.getElem?_eq_getElem hlt)
      refine .inr ⟨hgo, fun H3 => ∃ m', m' < m ∧ (k + 1) + m' = ds.length ∧ ∃ F3 acc zs rest, Ext F1 F3 ∧ Rep X.K cs (upd Z D (.lst acc)) F3 H3 (σ.set i none) (ρ.set i none) ∧ P F3 (σ.set i none) (ρ.set i none) ∧ Rps X.K F3 acc zs ∧ acc.length ≤ k + 1 ∧ lcD i t fe ρ (ds.drop (k + 1)) = some rest ∧ ys = zs ++ rest, fun H3 h => h, fun v H3 hyv => ?_⟩
      obtain ⟨F3, x3, R6, r6⟩ := hyl v H3 hyv
      have R7 := R6.setSh i r6
      have sset : ∀ w : Option V, (σ.set i none).set i w = σ.set i w := fun w => by rw [List.set_set]
      have rset : ∀ c : Option Cell, (ρ.set i none).set i c = ρ.set i c := fun c => by rw [List.set_set]
      rw [sset, rset] at R7
      refine ⟨?_, ?_⟩
      · show ((σ.set i none).set i (some v)).set i none = σ.set i none
        rw [List.set_set, List.set_set]
      · have hw : List.set (wipe σ (List.map (fun x => x.snd) [(x, i)])) i (some v) = σ.set i (some v) := sset (some v)
        rw [hw]
        refine ⟨_, F3, _, b, R7, e6, fun F4 H4 x4 R8 => ?_⟩
        have back : ∀ {F5 H5 : Hp} {acc' : List V}, Rep X.K cs (upd Z D (.lst acc')) F5 H5 (σ.set i (some v)) (ρ.set i (some (.sh ds[k]))) → Rep X.K cs (upd Z D (.lst acc')) F5 H5 (σ.set i none) (ρ.set i none) := fun {F5 H5 acc'} r => by
          have := r.drop i none
          rw [List.set_set, List.set_set] at this
          exact this
        by_cases hb : b = true
        · rw [if_pos hb] at e7
          show if b = true then _ else _
          rw [if_pos hb]
          obtain ⟨y, e8, e9⟩ := Option.bind_eq_some_iff.mp e7
          obtain ⟨rest', e10, rfl⟩ := Option.map_eq_some_iff.mp e9
          refine ⟨_, F4, _, y, R8, e8, fun u F5 H5 x5 R9 r9 => ⟨acc, (R9.zh D _ upd_same).1, ?_, ?_⟩⟩
          · have : (100000 : Nat) ≤ sizeLine := by decide
            omega
          · have x25 : Ext F2 F5 := (x3.trans x4).trans x5
            refine ⟨m - 1, by omega, by omega, F5, acc ++ [u], zs ++ [y], rest', x2.trans x25, back R9.asideSet, S.mono _ _ _ _ x25 p5, (r5.ext x25).app (.cons r9 .nil), ?_, e10, ?_⟩
            · rw [List.length_append]
              simp only [List.length_cons, List.length_nil]
              omega
            · rw [hy, List.append_assoc]
              rfl
        · rw [if_neg hb] at e7
          show if b = true then _ else _
          rw [if_neg hb]
          have x24 : Ext F2 F4 := x3.trans x4
          exact ⟨m - 1, by omega, by omega, F4, acc, zs, rest, x2.trans x24, back R8, S.mono _ _ _ _ x24 p5, r5.ext x24, by omega, e7, hy⟩
    · have hd : ds.drop k = [] := List.drop_of_length_le (by omega)
      rw [hd] at e5
      cases e5
      rw [List.append_nil] at hy
      refine .inl ⟨S.stop _ F2 H2 _ _ k R5 p5 (by omega), ?_⟩
      obtain ⟨hDH, hDF⟩ := R5.zh D _ upd_same
      have RB : Rep X.K cs Z F2 H2 σ ρ := R1.restore hn (fun _ z => by cases z) x2 (fun a o h => by
        have ha : a ≠ D := ne_of_none h zD
        rw [upd_ne ha]
        exact h) R5
      refine q D F2 H2 (x1.trans x2) RB hDF zD mD ⟨acc, hDH, ?_⟩
      rw [hy]
      exact r5
  · cases e2
end
end DS

namespace GxA
open PySem L2 GenW
open PyProof.Rows (AllBare)

/-! ## all(elt for x in it): the generator runs while all asks for it -/
/-- the generator's own frame -/
def gcx (X : Cx) (A : Around) (s0 : Shared) (H0 : Hp) (env : Env) (ex : List Addr) (pn : List (Addr × Obj)) (N : List Str) : Cx :=
  { X with A := A, N := N, s_0 := s0, H_0 := H0, env := env, outer := X.stack, stack := env :: X.stack, ex := ex, fn := fun _ => false, calm := true, pn := pn, xe := fun _ _ => False }
structure GScp (scope : Scope) (x : Str) : Prop where
  kind : scope.kind = .function
  co : scope.isCoroutine = false
  cell : ∀ y ∈ scope.names, y.2 ≠ .cell
  free : ∀ y ∈ scope.names, y.2 ≠ .free
  dot : scope.names.lookup (".0" : Str) = some NameKind.local
  loc : scope.names.lookup x = some .local
theorem lk_mem {α : Type} : ∀ {l : List (Str × α)} {n : Str} {k : α}, l.lookup n = some k → (n, k) ∈ l
  | (m, v) :: r, n, k, h => by
    rw [List.lookup_cons] at h
    split at h
    · rename_i e
      cases h
      rw [eq_of_beq e]
      exact List.mem_cons_self
    · exact List.mem_cons_of_mem _ (lk_mem h)
section
variable {X : Cx} {pins : List (Addr × Obj)} {σ : L2.St} {H : Hp} {s s' : Shared}
theorem Inv.gens (I : Inv X pins σ H s) (ho : s'.os = s.os) (hh : s'.heap = s.heap) (hb : AllBare s'.gens) : Inv X pins σ H s' :=
  ⟨I.ok, ho.trans I.os, hb, by rw [hh]; exact I.base, by rw [hh]; exact I.loc, by rw [hh]; exact I.cell, I.free, I.freeC, by rw [hh]; exact I.pin, by rw [hh]; exact I.hok, I.len⟩
end
abbrev gexp (elt iter : Expr) (x : Str) (px gpos : Pos) (scope : Scope) : Expr := .GeneratorExp elt [⟨.Name x px, iter, [], 0⟩] scope gpos
section
variable {A : Around} {elt iter : Expr} {x : Str} {px gpos : Pos} {scope : Scope} {it : Addr} {env : Env}
theorem over_loop_handled : (A.over (.compLoop (gexp elt iter x px gpos scope) 0 (.ref it) .none env) []).handled = A.handled := rfl
theorem over_loop_depth : (A.over (.compLoop (gexp elt iter x px gpos scope) 0 (.ref it) .none env) []).depth = A.depth + 1 := rfl
theorem over_loop_units : (A.over (.compLoop (gexp elt iter x px gpos scope) 0 (.ref it) .none env) []).units ≤ A.units + 3 := Nat.le_of_eq rfl
theorem over_loop_frames {l : List Env} (h : A.frames = some l) : (A.over (.compLoop (gexp elt iter x px gpos scope) 0 (.ref it) .none env) []).frames = some (env :: l) := by
  simp [Around.over, h, pushEnvs, envsOf, Code.envs, Code.env?, Code.isFrame, Code.weight, Code.frames, Code.isInlined]
end
abbrev gC (X : Cx) (A2 : Around) (elt iter : Expr) (x : Str) (px gpos : Pos) (scope : Scope) (it : Addr) (s0 : Shared) (H0 : Hp) (env : Env) (fp : List Addr) (pn : List (Addr × Obj)) : Cx :=
  gcx X (A2.over (.compLoop (gexp elt iter x px gpos scope) 0 (.ref it) .none env) []) s0 H0 env fp pn [x]
/-- what is asked: W goes on turn by turn -/
def tAllG (P : Addr) (wi : TI) (te : TE) : TE := fun σ H Q => wi σ H fun J H1 => H1 P = some (.ext (DS.tabP P)) ∧ ∃ W : Nat → Nat → Hp → Prop, (∃ m, W 0 m H1) ∧ ∀ i m H2, W i m H2 →
  (J.stop i H2 ∧ Q (.bl true) H2) ∨ (J.go i H2 ∧ ∀ y H3, J.yld i H2 y H3 → te [some y] H3 fun v H4 => ∃ b, v = .bl b ∧ if b = true then ∃ m', m' < m ∧ W (i + 1) m' H4 else Q (.bl false) H4)

section
variable {X : Cx} {elt iter : Expr} {x : Str} {px gpos : Pos} {scope : Scope} {wi : TI} {te : TE} {k : Nat}

/-- the protocol: True goes on, False is the end -/
def YB (X : Cx) (pn : List (Addr × Obj)) (Gx : Cx) (Q : VK) : Protocol := fun n s₀ v s kap => ∃ b σ H, v = .bool b ∧ Inv Gx [] σ H s ∧ (b = false → Q (.bl false) H) ∧
  (b = true → ∀ s', s'.os = s.os → s'.heap = s.heap → AllBare s'.gens → kap (.send .none) s')
def RB (Gx : Cx) (Q : VK) : GenEnd := fun n s₀ r s => r = .ok .next ∧ (∃ σ H, Inv Gx [] σ H s ∧ Q (.bl true) H)

theorem seg_turns {A2 : Around} {s0 : Shared} {H0 : Hp} {env : Env} {fp : List Addr} {pn : List (Addr × Obj)} {it : Addr} {tn : Nat → Heap → Prop} {J : It} {Q : VK} {W : Nat → Nat → Hp → Prop}
    (S : GScp scope x) (henv : env.scope = scope)
    (hel : PE (gC X A2 elt iter x px gpos scope it s0 H0 env fp pn) elt te)
    (T : Turn X.prog X.w X.K (.Name x px) J fp it tn)
    (hfp : ∀ {H : Hp}, (∀ b ∈ fp, H b = none) → ∀ b ∈ fp, FpOk (gC X A2 elt iter x px gpos scope it s0 H0 env fp pn) [] H b)
    (turn : ∀ i m H2, W i m H2 → (J.stop i H2 ∧ Q (.bl true) H2) ∨ (J.go i H2 ∧ ∀ y H3, J.yld i H2 y H3 → te [some y] H3 fun v H4 => ∃ b, v = .bl b ∧ if b = true then ∃ m', m' < m ∧ W (i + 1) m' H4 else Q (.bl false) H4)) :
    ∀ (n i m : Nat) (s₀ s : Shared) (σ : L2.St) (H : Hp), m < n → W i m H → Inv (gC X A2 elt iter x px gpos scope it s0 H0 env fp pn) [] σ H s → tn i s.heap → (∀ b ∈ fp, H b = none) →
      Seg (model X.prog X.w) A2 (RB (gC X A2 elt iter x px gpos scope it s0 H0 env fp pn) Q) (YB X pn (gC X A2 elt iter x px gpos scope it s0 H0 env fp pn) Q) n s₀
        (.compLoop (gexp elt iter x px gpos scope) 0 (.ref it) .none env) ((model X.prog X.w).den (.compLoop (gexp elt iter x px gpos scope) 0 (.ref it) .none env)) [] s := by
  intro n
  induction n with
  | zero => intro i m s₀ s σ H hm; exact absurd hm (Nat.not_lt_zero m)
  | succ n ih =>
    intro i m s₀ s σ H hm hw I st hf
    have kx : env.kindOf x = some .local := by
      show env.scope.names.lookup x = _
      rw [henv]
      exact S.loc
    show Seg _ A2 _ _ _ s₀ _ ((compTurn (gexp elt iter x px gpos scope) 0 (.ref it) .none env).onRaise (leaving env)) [] s
    rw [compTurn_gen, Sem.onRaise_eq_wrap]
    refine seg_bind_wrap (wpAny_standAt ?_)
    rcases turn i m H hw with ⟨hstop, hq⟩ | ⟨hgo, hgoes⟩
    · refine seg_bind_wrap (thn (T.done (gC X A2 elt iter x px gpos scope it s0 H0 env fp pn) rfl rfl rfl rfl i [] s σ H _ I (hfp hf) st hstop) fun r s1 ⟨hr, I1⟩ => ?_)
      subst hr
      exact seg_end (.ok .next) ⟨rfl, σ, H, I1, hq⟩
    · refine seg_bind_wrap (thn (T.item (gC X A2 elt iter x px gpos scope it s0 H0 env fp pn) rfl rfl rfl rfl i [] s σ H _ I (hfp hf) st hgo) fun r s1 ⟨u, hr, h1⟩ => ?_)
      subst hr
      refine seg_bind_wrap (thn h1 fun _ s2 ⟨y, H2, I2, ry, hy, st2, hf2⟩ => ?_)
      have I2' := I2.pinned (hfp hf2) (T.obj _ _ st2)
      have hlen : σ.length = 1 := I2.len
      refine seg_bind_wrap (wpAny_mono ((pg_name (i := 0) (X := gC X A2 elt iter x px gpos scope it s0 H0 env fp pn) (List.nodup_cons.mpr ⟨by simp, List.nodup_nil⟩) rfl (.inl kx) (.inr kx)).run _ s2 σ H2 y u (fun σ' H' => σ' = [some y] ∧ H' = H2) I2' ry ?_) (fun _ s3 ⟨σ3, H3, I3, e1, e2⟩ => ?_) fun _ _ z => False.elim z)
      · match σ, hlen with
        | [z], _ => exact ⟨rfl, rfl⟩
      subst e1 e2
      simp only [List.forIn_nil]
      refine seg_bind_wrap (wpAny_pure ?_)
      simp only [if_true]
      have hyo : ∀ v, yieldOut env v = yieldValue v := fun v => by simp only [yieldOut, henv, S.co, Bool.false_eq_true, if_false]
      simp only [hyo]
      rw [Sem.bind_eq_wrap', Sem.bind_eq_wrap', Sem.wrap_wrap, Sem.wrap_wrap]
      refine seg_wrap (wpAny_mono (hel.run _ s3 [some y] _ _ I3 (hgoes y _ hy)) (fun v s4 ⟨v', H4, I4, rv, b, eb, hb⟩ => ?_) fun _ _ z => False.elim z)
      subst eb
      obtain rfl : v = Value.bool b := rv
      have st4 : tn (i + 1) s4.heap := T.keep _ _ _ st2 fun c hc o e => (I4.pin (c, o) (List.mem_append_right _ (List.mem_append_right _ (mem_pinsAt hc e)))).1
      have hf4 : ∀ c ∈ fp, H4 c = none := fun c hc => by
        obtain ⟨o, ho, _⟩ := T.obj _ _ st2 c hc
        exact (I4.pin (c, o) (List.mem_append_right _ (List.mem_append_right _ (mem_pinsAt hc ho)))).2.1
      have I5 := I4.unpinned
      refine seg_at (seg_yield rfl rfl rfl ⟨b, [some y], H4, rfl, I5, fun hbf => ?_, fun hbt s' ho hh hba => ?_⟩)
      · rw [hbf, if_neg Bool.false_ne_true] at hb
        exact hb
      · rw [hbt, if_pos rfl] at hb
        obtain ⟨m', hm', hw'⟩ := hb
        exact seg_again rfl (ih (i + 1) m' s' s' [some y] H4 (by omega) hw' (Inv.gens I5 ho hh hba) (by rw [hh]; exact st4) hf4)

theorem seg_first {A2 : Around} {env : Env} {fp : List Addr} {it : Addr} {tn : Nat → Heap → Prop} {J : It} {R : GenEnd} {Y : Protocol} {n : Nat} {s₀ s : Shared}
    (T : Turn X.prog X.w X.K (.Name x px) J fp it tn) (st : tn 0 s.heap)
    (loop : Seg (model X.prog X.w) A2 R Y n s₀ (.compLoop (gexp elt iter x px gpos scope) 0 (.ref it) .none env) ((model X.prog X.w).den (.compLoop (gexp elt iter x px gpos scope) 0 (.ref it) .none env)) [] s) :
    Seg (model X.prog X.w) A2 R Y n s₀ (.compStart (gexp elt iter x px gpos scope) 0 (.ref it) .none env) ((model X.prog X.w).den (.compStart (gexp elt iter x px gpos scope) 0 (.ref it) .none env)) [] s := by
  show Seg _ A2 _ _ _ s₀ _ ((compStart (gexp elt iter x px gpos scope) 0 (.ref it) .none env).onRaise (leaving env)) [] s
  unfold compStart
  rw [Sem.onRaise_eq_wrap]
  show Seg _ A2 _ _ _ s₀ _ ((ask >>= _).wrap _ _ _ _) [] s
  refine seg_bind_wrap (wpAny_askSetting ?_)
  split
  · exact seg_again rfl loop
  · first
      | exact seg_bind_wrap (wpAny_rule (seg_bind_wrap (wpAny_standAt (seg_bind_wrap (T.self _ 0 s _ _ st (seg_again rfl loop))))))
      | (refine seg_bind_wrap (wpAny_rule ?_); show Seg _ A2 _ _ _ s₀ _ ((standAt iter.pos >>= _).wrap _ _ _ _) [] s; exact seg_bind_wrap (wpAny_standAt (seg_bind_wrap (T.self _ 0 s _ _ st (seg_again rfl loop)))))

theorem all_turns {Gx : Cx} {pn : List (Addr × Obj)} {pins : List (Addr × Obj)} {σ : L2.St} {Q : VK} {a : Addr} {g : Nat} (hh : X.A.handled = none) (hd : X.A.depth < recursionLimit)
    (hpin : ∀ (σ' : L2.St) (H' : Hp) (s' : Shared), Inv Gx [] σ' H' s' → s'.heap.IsGen a g) (back : ∀ (σ' : L2.St) (H' : Hp) (s' : Shared), Inv Gx [] σ' H' s' → Inv X pins σ H' s') :
    ∀ (n : Nat) (s : Shared) (gs : GenState), s.heap.IsGen a g → s.heap.NoLimit → s.gens[g]? = some gs → gs.Goes (model X.prog X.w) X.A.in1.in1 (RB Gx Q) (YB X pn Gx Q) n (.send .none) (s.setGen g .running) →
      codeAny (model X.prog X.w) X.A (.builtin "all.loop" ⟨[.ref a], []⟩) (fun r s' => match r with
        | .ok (.ret v) => EP X pins σ Q v s'
        | .ok _ => False
        | .error e => X.xe e s') s := by
  intro n
  induction n with
  | zero =>
    intro s gs hg hl hgs hgo
    refine codeAny_builtin PySem.F.entry_all_loop ?_
    rw [Around.under_plainId PySem.F.plain_all_loop _]
    show wpAny _ X.A.in1 (pyNext (.ref a) >>= _) _ _ s
    refine wpAny_bind (wpAny_pyNext_genexpQ (A := X.A.in1) (P := fun _ _ s1 => ∃ σ1 H1, Inv Gx [] σ1 H1 s1 ∧ Q (.bl true) H1) hh hl hd hg hgs hgo (fun v s₁ gs' hb hv => ?_) (fun s₁ hp h' hk => ?_))
    · obtain ⟨b, σ1, H1, rfl, I1, hF, hT⟩ := hv
      refine wpAny_bind (wpAny_holding (wpAny_truthy_bool ?_))
      refine wpAny_bind (wpAny_letGo ?_)
      cases b with
      | true => exact (hT rfl s₁ rfl rfl I1.bare).elim
      | false =>
        simp only [Bool.false_eq_true, if_false]
        refine wpAny_bind (wpAny_rule (wpAny_pure ?_))
        exact ⟨.bl false, H1, back _ _ _ (Inv.gens I1 rfl rfl (allBare_setGen I1.bare hb)), rfl, hF rfl⟩
    · obtain ⟨σ1, H1, I1, q1⟩ := hp
      refine wpAny_bind (wpAny_rule (wpAny_pure ?_))
      have I2 := Inv.gens (s' := s₁.setGen g .finished) I1 rfl rfl (allBare_setGen I1.bare rfl)
      exact ⟨.bl true, H1, back _ _ _ (I2.kept (t' := (s₁.setGen g .finished).toks) hk), rfl, q1⟩
  | succ n ih =>
    intro s gs hg hl hgs hgo
    have hgl : g < s.gens.size := (Array.getElem?_eq_some_iff.mp hgs).1
    refine codeAny_builtin PySem.F.entry_all_loop ?_
    rw [Around.under_plainId PySem.F.plain_all_loop _]
    show wpAny _ X.A.in1 (pyNext (.ref a) >>= _) _ _ s
    refine wpAny_bind (wpAny_gsz (n := g + 1) hgl (wpAny_pyNext_genexpQ (A := X.A.in1) (P := fun _ _ s1 => ∃ σ1 H1, Inv Gx [] σ1 H1 s1 ∧ Q (.bl true) H1) hh hl hd hg hgs hgo (fun v s₁ gs' hb hv => ?_) (fun s₁ hp h' hk => ?_)))
    · intro hsz
      obtain ⟨b, σ1, H1, rfl, I1, hF, hT⟩ := hv
      refine wpAny_bind (wpAny_holding (wpAny_truthy_bool ?_))
      refine wpAny_bind (wpAny_letGo ?_)
      have hgl1 : g < s₁.gens.size := by
        have h2 : (s₁.setGen g gs').gens.size = s₁.gens.size := setGen_size s₁ g gs'
        have h3 : g + 1 ≤ (s₁.setGen g gs').gens.size := hsz
        omega
      have I2 := Inv.gens (s' := s₁.setGen g gs') I1 rfl rfl (allBare_setGen I1.bare hb)
      cases b with
      | true =>
        simp only [if_true]
        refine wpAny_pure ⟨plainId_quiet PySem.F.plain_all_loop _, ih _ gs' (hpin _ _ _ I2) I2.nolimit (setGen_at hgl1) ?_⟩
        exact hT rfl _ rfl rfl (allBare_setGen (allBare_setGen I1.bare hb) rfl)
      | false =>
        simp only [Bool.false_eq_true, if_false]
        refine wpAny_bind (wpAny_rule (wpAny_pure ?_))
        exact ⟨.bl false, H1, back _ _ _ I2, rfl, hF rfl⟩
    · intro _
      obtain ⟨σ1, H1, I1, q1⟩ := hp
      refine wpAny_bind (wpAny_rule (wpAny_pure ?_))
      have I2 := Inv.gens (s' := s₁.setGen g .finished) I1 rfl rfl (allBare_setGen I1.bare rfl)
      exact ⟨.bl true, H1, back _ _ _ (I2.kept (t' := (s₁.setGen g .finished).toks) hk), rfl, q1⟩

theorem clo_none {cells : List (Str × Addr)} : ∀ {names : List (Str × NameKind)} {acc : List (Str × Addr)}, (∀ y ∈ names, y.2 ≠ .free) → cloFrom cells names acc = acc
  | [], acc, _ => rfl
  | (n, k) :: r, acc, h => by
    have hk : k ≠ .free := h (n, k) List.mem_cons_self
    unfold cloFrom
    cases k <;> first | exact absurd rfl hk | (exact clo_none fun y hy => h y (List.mem_cons_of_mem _ hy))

/-- the generator's frame at its begin -/
theorem inv_gen {pins : List (Addr × Obj)} {σ : L2.St} {H : Hp} {s2 s5 : Shared} {A' : Around} {env : Env} {fp : List Addr} {a : Addr} {go : Obj} (I : Inv X pins σ H s2) (S : GScp scope x) (henv : env.scope = scope) (hglob : env.globals = X.env.globals) (hblt : env.builtins = builtinsNs) (hcells : env.cells = [])
    (hfr : env.frame = some env.locals) (hlo : s2.heap.objs.size ≤ env.locals) (hA : A'.handled = none) (hAf : A'.frames = some (env :: X.stack)) (hfp : ∀ b ∈ fp, FpOk X pins H b ∧ b < s2.heap.objs.size)
    (hos : s5.os = s2.os) (hba : AllBare s5.gens) (hun : Un (frs X.stack) fp H H s2.heap s5.heap) (hok : HOk X.prog X.w H s5.heap) (hns : ∃ m, s5.heap.Ns env.locals m)
    (ha : s5.heap.get? a = some go) (hag : env.locals < a) (hgo : ∀ v, go.data ≠ .cell v) :
    Inv (gcx X A' s2 H env fp [(a, go)] [x]) [] [none] H s5 := by
  have noc : ∀ y c, env.cells.lookup y = some c → False := fun y c e => by
    rw [hcells] at e
    cases e
  have hn : ∀ {b : Addr}, s2.heap.objs.size ≤ b → H b = none := fun {b} hb => I.hok.fresh hb
  have nost : ∀ {b : Addr}, s2.heap.objs.size ≤ b → b ∉ frs X.stack := fun {b} hb hm => by
    rcases List.mem_cons.mp (I.stkSub b hm) with z | z
    · have := I.lt
      rw [z] at hb
      exact absurd (Nat.lt_of_lt_of_le this hb) (Nat.lt_irrefl _)
    · exact I.nofs hb z
  refine ⟨⟨I.ok.mod, ?_, hglob.trans I.ok.glob, hblt, hlo, fun y z c h1 _ => (noc y c h1).elim, fun y hy => ?_, fun y c _ h => (noc y c h).elim, fun _ => hA, hAf, .inr ⟨rfl, hfr⟩, fun b hb => ⟨?_, fun y c h => (noc y c h).elim⟩, I.bs, Nat.le_trans I.ok.bsz I.sz, fun b o e hb => ?_, fun b hb hm => ?_, I.stack, I.stkFree⟩,
    hos, hba, hun, ?_, fun y c h => (noc y c h).elim, hn hlo, fun y c h => (noc y c h).elim, fun p hp => ?_, hok, rfl⟩
  · show env.scope.kind = _
    rw [henv]
    exact S.kind
  · have hy : env.scope.names.lookup y = some .cell ∨ env.scope.names.lookup y = some .free := hy
    rw [henv] at hy
    rcases hy with hy | hy
    · exact absurd rfl (S.cell _ (lk_mem hy))
    · exact absurd rfl (S.free _ (lk_mem hy))
  · exact Nat.ne_of_lt (Nat.lt_of_lt_of_le (hfp b hb).2 hlo)
  · obtain ⟨⟨_, _, _, h4, _⟩, _⟩ := hfp b hb
    rcases h4 with z | z
    · exact I.ok.noex b o e z
    · have := Heap.lt_size (I.ok.bs b o e).1
      exact absurd (Nat.lt_of_lt_of_le this z) (Nat.lt_irrefl _)
  · obtain ⟨⟨_, h2, h3, _⟩, _⟩ := hfp b hb
    rcases List.mem_cons.mp (I.stkSub b hm) with z | z
    · exact h2 z
    · exact h3 z
  · obtain ⟨m, hm⟩ := hns
    refine ⟨m, hm, fun i y v e1 e2 => ?_⟩
    cases i with
    | zero => cases e2
    | succ i => simp at e2
  · rw [List.append_nil] at hp
    rw [List.mem_singleton.mp hp]
    have hs : s2.heap.objs.size ≤ a := Nat.le_trans hlo (Nat.le_of_lt hag)
    exact ⟨ha, hn hs, Nat.ne_of_gt hag, nost hs, hgo⟩

theorem room_gen {A2 : Around} {k : Nat} (hr : Room (k + 1) A2) (env : Env) (it : Addr) : Room k (A2.in1.in1.over (.compLoop (gexp elt iter x px gpos scope) 0 (.ref it) .none env) []) := by
  refine ⟨hr.hd, ?_, ?_⟩
  · have := hr.dp
    rw [over_loop_depth]
    show A2.depth + 1 + 3 * k + 5 < _
    omega
  · have h1 := hr.un
    have h2 := over_loop_units (A := A2.in1.in1) (elt := elt) (iter := iter) (x := x) (px := px) (gpos := gpos) (scope := scope) (it := it) (env := env)
    have h3 : A2.in1.in1.units = A2.units + 2 := rfl
    omega
theorem pe_allG {c P : Addr} {p pos : Pos} (hr : Room (k + 1) X.A) (hc : X.calm = true) (hg : Gl X "all") (hm : X.mg "all" = none) (hb : bootBuiltins "all" = some (.builtin "all")) (TB : GxR.TabB X.base X.mg c P) (hcode : X.env.code = .ref c) (S : GScp scope x) (hi : PI X (.Name x px) iter wi)
    (hel : ∀ (A' : Around) (s0 : Shared) (H0 : Hp) (C : Addr) (code : Value) (ex : List Addr) (pn : List (Addr × Obj)), Room k A' → PE (gcx X A' s0 H0 (genEnv scope [] C code builtinsNs X.env) ex pn [x]) elt te)
    (hs : ∀ v, genFold iter X.env v = pure v)
    (he : starEach [gexp elt iter x px gpos scope] X.env = (false, eval (gexp elt iter x px gpos scope) X.env) :: starEach [] X.env := by rfl) :
    PE X (.Call (.Name "all" p) [gexp elt iter x px gpos scope] [] pos) (tAllG P wi te) := by
  refine ⟨fun pins s σ H Q I h => ?_⟩
  refine wpAny_Call_Name_kw (ld_blt I hg hm hb ?_)
  refine PyProof.Rows.callWith_builtin1 ?_ he (by rfl)
  rw [he]
  show wpAny _ _ (spliced ((false, eval (gexp elt iter x px gpos scope) X.env) :: backTo pos (starEach [] X.env))) _ _ s
  refine Calls.spliced_cons ?_
  have clo : closureFor scope X.env = pure [] := by
    rw [closure_ok (fun y hy z => absurd z (S.free y hy)), clo_none S.free]
  refine wpAny_GeneratorExp_make S.co clo S.cell S.dot S.kind hr.depth ?_ hs
  refine thn (hi.run pins s σ H _ I h) fun xv s1 h1 => thn h1 fun itv s2 h2 => ?_
  obtain ⟨it, fp, tn, J, H2, rfl, I2, T, st2, hfp, hP, W, ⟨m0, hw0⟩, turn⟩ := h2
  refine ⟨I2.nolimit, ?_⟩
  obtain ⟨⟨ps, hPs, ht⟩, _⟩ := (show ObjOk X.prog X.w H2 s2.heap P (.ext (DS.tabP P)) from I2.hok P _ hP)
  have cd : PySem.W.CodeHd s2.heap c P := TB.code.keeps I2.bk
  have cont : ∀ (code : Value) (h3 : Heap) (tk : Nat) (ps' : Array Value), Heap.ExtBut P s2.heap h3 → s2.heap.objs.size ≤ h3.objs.size → h3.get? P = some { cls := .none, data := .fields ps' } → TriplesOk ps'.toList →
      wpAny (model X.prog X.w) X.A (builtinsFor X.env.globals X.env.builtins) (fun bi s₄ =>
        ∀ h', h'.Ns s₄.heap.objs.size (fun y => if y = ".0" then some (Value.ref it) else none) → Heap.SameBut s₄.heap.objs.size (s₄.heap.push { cls := .type "frame", data := .dict #[] }) h' →
          wpAny (model X.prog X.w) X.A (spliced (backTo pos (starEach [] X.env))) (fun us s9 => wpAny (model X.prog X.w) X.A (call (.builtin "all") (.ref h'.objs.size :: us)) (EP X pins σ Q) X.xe s9) X.xe
            { s₄ with
              gens := s₄.gens.push (.fresh (.compStart (gexp elt iter x px gpos scope) 0 (.ref it) .none (genEnv scope [] s₄.heap.objs.size code bi X.env))),
              toks := s₄.toks + 1 + 1 + 1,
              heap := h'.push { cls := .type "generator", data := .fields #[.int s₄.gens.size 0, .str "<genexpr>" (s₄.toks + 1), .str (X.env.qual ++ "<genexpr>") (s₄.toks + 1 + 1)] } }) X.xe { s2 with heap := h3, toks := tk } := by
    intro code h3 tk ps' hx hsz hP3 ht3
    obtain ⟨bm, ob, e1, e2, e3, e4, e5, e6, e7, e8⟩ := TB.bm
    have keep3 : ∀ b u, b ≠ P → s2.heap.get? b = some u → h3.get? b = some u := fun b u hb e => hx b u hb e
    refine wpAny_builtinsFor (m := X.mg) (by rw [I2.ok.glob]; exact (I2.mod.glob.keeps I2.bk).extBut hx TB.gP) e1 e2 (keep3 _ _ e4 (I2.bk _ _ e5)) e6 e7 e8 ?_
    intro h' hn' hs'
    refine Calls.spliced_nil ?_
    have hsz' : h'.objs.size = h3.objs.size + 1 := by rw [hs'.1, Heap.size_push]
    generalize hgo : ({ cls := .type "generator", data := .fields #[.int s2.gens.size 0, .str "<genexpr>" (tk + 1), .str (X.env.qual ++ "<genexpr>") (tk + 1 + 1)] } : Obj) = go
    have hgc : go.cls = .type "generator" := by rw [← hgo]
    have hgd : go.data = .fields #[.int s2.gens.size 0, .str "<genexpr>" (tk + 1), .str (X.env.qual ++ "<genexpr>") (tk + 1 + 1)] := by rw [← hgo]
    have hgs : go.slots = #[] := by rw [← hgo]
    have hgp : (h'.push go).get? h'.objs.size = some go := by
      rw [← hgo]
      exact Heap.get?_push_size _ rfl
    have isg : ∀ {hh : Heap}, hh.get? h'.objs.size = some go → hh.IsGen h'.objs.size s2.gens.size := fun {hh} e => ⟨go, _, _, e, hgc, hgd, hgs⟩
    have keep5 : ∀ b u, b ≠ P → s2.heap.get? b = some u → (h'.push go).get? b = some u := fun b u hb e => by
      have q := keep3 b u hb e
      exact Heap.get?_push_of_some _ (hs'.extBut b u (Nat.ne_of_lt (Heap.lt_size q)) (Heap.get?_push_of_some _ q))
    have hPlt : P < h3.objs.size := Heap.lt_size hP3
    have hP5 : (h'.push go).get? P = some { cls := .none, data := .fields ps' } := Heap.get?_push_of_some _ (hs'.extBut P _ (Nat.ne_of_lt hPlt) (Heap.get?_push_of_some _ hP3))
    have nP : ∀ b, H2 b = none → b ≠ P := fun b hb z => by
      rw [z, hP] at hb
      cases hb
    have un5 : Un (frs X.stack) fp H2 H2 s2.heap (h'.push go) := by
      refine ⟨fun b o e n _ _ => keep5 b o (nP b n) e, fun b o e n _ _ => ⟨o.slots, keep5 b o (nP b n) e⟩, fun b o _ n _ => n, fun b o e _ => ?_, fun b xs q => q, fun b o u q => q, fun b qs q => ⟨#[], by rw [q]; simp⟩⟩
      by_cases hb : b = P
      · rw [hb]
        exact ⟨_, hP5⟩
      · exact ⟨o, keep5 b o hb e⟩
    have ok5 : HOk X.prog X.w H2 (h'.push go) := fun b o e => by
      by_cases hb : b = P
      · subst hb
        rw [hP] at e
        cases e
        obtain ⟨_, _, q3⟩ := (show ObjOk X.prog X.w H2 s2.heap b (.ext (DS.tabP b)) from I2.hok b _ hP)
        exact ⟨⟨ps', hP5, ht3⟩, ⟨_, hP5⟩, q3⟩
      · refine (I2.hok b o e).stay (fun d v hd q => keep5 d v (fun z => ?_) q) (fun _ q => q) fun _ _ q => q
        rcases hd with z2 | z2
        · exact hb (z2.symm.trans z)
        · rw [z, hP] at z2
          cases z2
    have flt : ∀ b ∈ fp, b < s2.heap.objs.size := fun b hb => by
      obtain ⟨o, ho, _⟩ := T.obj _ _ st2 b hb
      exact Heap.lt_size ho
    have fst : ∀ b ∈ fp, b ∉ frs X.stack := fun b hb hm => by
      obtain ⟨_, q2, q3, _⟩ := hfp b hb
      rcases List.mem_cons.mp (I2.stkSub b hm) with z | z
      · exact q2 z
      · exact q3 z
    have st5 : tn 0 (h'.push go) := T.keep _ _ _ st2 fun b hb o e => keep5 b o (nP b (hfp b hb).1) e
    have ba5 : AllBare (s2.gens.push (.fresh (.compStart (gexp elt iter x px gpos scope) 0 (.ref it) .none (genEnv scope [] h3.objs.size code builtinsNs X.env)))) := I2.bare.push rfl
    have IG : ∀ (s5 : Shared), s5.os = s2.os → s5.heap = h'.push go → AllBare s5.gens → Inv (gC X X.A.in1.in1 elt iter x px gpos scope it s2 H2 (genEnv scope [] h3.objs.size code builtinsNs X.env) fp [(h'.objs.size, go)]) [] [none] H2 s5 := fun s5 h5o h5h h5b => by
      have hns5 : ∃ m, s5.heap.Ns h3.objs.size m := ⟨fun y => if y = ".0" then some (Value.ref it) else none, by
        rw [h5h]
        exact hn'.push _⟩
      exact inv_gen I2 S rfl rfl rfl rfl rfl hsz (show X.A.in1.in1.handled = none from hr.hd) (over_loop_frames (show X.A.in1.in1.frames = some X.stack from I2.ok.frames)) (fun b hb => ⟨hfp b hb, flt b hb⟩) h5o h5b (by rw [h5h]; exact un5) (by rw [h5h]; exact ok5) hns5 (by rw [h5h]; exact hgp) (by show h3.objs.size < _; omega) fun v z => by rw [hgd] at z; cases z
    refine call_function_tree PySem.F.kind_all PySem.F.plain_all PySem.F.entry_all (PySem.F.args_all1 _) ?_
    unfold Builtin.«all»
    refine wpAny_bind (m := oneArg "all" _) (wpAny_pure ?_)
    refine wpAny_bind (wpAny_pyIter_gen (isg hgp) ?_)
    refine wpAny_pure ⟨plainId_quiet PySem.F.plain_all_loop _, ?_⟩
    refine all_turns (Gx := gC X X.A.in1.in1 elt iter x px gpos scope it s2 H2 (genEnv scope [] h3.objs.size code builtinsNs X.env) fp [(h'.objs.size, go)]) (pn := [(h'.objs.size, go)]) hr.hd hr.depth (fun σ' H' s' I' => isg (I'.pin (h'.objs.size, go) (List.mem_append_left _ List.mem_cons_self)).1) (fun σ' H' s' I' => ?_) (m0 + 1) _ _ (isg hgp) ?_ (Array.getElem?_push_size ..) ?_
    · exact I2.call' (ch := fp) I'.os I'.base I'.hok I'.bare fun b hb => by
        obtain ⟨_, q2, q3, q4, q5, q6⟩ := hfp b hb
        exact ⟨q4, q2, q5, q6⟩
    · exact (IG { s2 with gens := s2.gens.push (.fresh (.compStart (gexp elt iter x px gpos scope) 0 (.ref it) .none (genEnv scope [] h3.objs.size code builtinsNs X.env))), toks := tk + 1 + 1 + 1, heap := h'.push go } rfl rfl ba5).nolimit
    · refine ⟨rfl, seg_first T st5 (seg_turns S rfl (hel _ _ _ _ _ _ _ (room_gen hr _ _)) T (fun {H'} hn b hb => ?_) turn (m0 + 1) 0 m0 _ _ [none] H2 (Nat.lt_succ_self m0) hw0 (IG _ rfl rfl (allBare_setGen ba5 rfl)) st5 fun b hb => (hfp b hb).1)⟩
      refine ⟨hn b hb, Nat.ne_of_lt (Nat.lt_of_lt_of_le (flt b hb) hsz), fst b hb, .inl hb, fun y cc e => (by cases e), fun p hp => ?_⟩
      rw [List.append_nil] at hp
      rw [List.mem_singleton.mp hp]
      have h9 : s2.heap.objs.size < h'.objs.size := by omega
      exact Nat.ne_of_gt (Nat.lt_trans (flt b hb) h9)
  cases hf : codeAmong gpos ps.toList with
  | none =>
    refine wpAny_genexprCodeX hcode (cd.code hPs ht) (cd.tab hPs) hf fun c' h' tk hx hge hlt hco' _ htab' _ => ?_
    obtain ⟨o1, vs, f1, tf, fl, tg, inF, tx, tt, op, _, _, _, _, _, _, _, _, _, htr, _⟩ := hco'
    exact cont _ h' tk _ hx (Nat.le_trans hge (Nat.le_of_lt hlt)) htab'.2 htr
  | some cv =>
    refine wpAny_genexprCode_hit hcode (cd.code hPs ht) hf ?_
    exact cont cv s2.heap s2.toks ps (Heap.ExtBut.refl _ _) (Nat.le_refl _) hPs ht
end
end GxA

namespace DS
open PySem L2

/-! ## all over a generator expression -/
def allD (fe : Nv → Option D) : List D → Option Bool
  | [] => some true
  | d :: ds => (fe [some (.sh d)]).bind fun r => (asB r).bind fun b => if b = true then allD fe ds else some false
section
variable {cs : List Addr} {X : Cx} {elt iter : Expr} {x : Str} {px gpos p pos : Pos} {scope : Scope} {f : Nv → Option (List D)} {fe : Nv → Option D} {k : Nat} {c P : Addr}
theorem e_allG (hr : Room (k + 1) X.A) (hc : X.calm = true) (hg : Gl X "all") (hm : X.mg "all" = none) (TB : GxR.TabB X.base X.mg c P) (hcode : X.env.code = .ref c) (hP : P ∈ cs) (S : GxA.GScp scope x) (hi : EI cs X AnyP (.Name x px) iter f)
    (hel : ∀ (A' : Around) (s0 : Shared) (H0 : Hp) (C : Addr) (code : Value) (ex : List Addr) (pn : List (Addr × Obj)), Room k A' → EP' cs (GxA.gcx X A' s0 H0 (genEnv scope [] C code builtinsNs X.env) ex pn [x]) elt fe)
    (hb : bootBuiltins "all" = some (.builtin "all") := by decide +kernel)
    (hs : ∀ v, genFold iter X.env v = pure v := by intro _; rfl)
    (he : starEach [GxA.gexp elt iter x px gpos scope] X.env = (false, eval (GxA.gexp elt iter x px gpos scope) X.env) :: starEach [] X.env := by rfl) :
    EP' cs X (.Call (.Name "all" p) [.GeneratorExp elt [⟨.Name x px, iter, [], 0⟩] scope gpos] [] pos) (fun ρ => (f ρ).bind fun ds => (allD fe ds).map .bool) := by
  refine ⟨pe_imp (GxA.pe_allG (te := tP X.K cs fe) hr hc hg hm hb TB hcode S hi.h (fun A' s0 H0 C code ex pn h => (hel A' s0 H0 C code ex pn h).h) hs he) ?_⟩
  rintro σ H Q ⟨Z, F, ρ, d, R, ef, q⟩
  obtain ⟨ds, e1, e2⟩ := Option.bind_eq_some_iff.mp ef
  obtain ⟨b, e3, rfl⟩ := Option.map_eq_some_iff.mp e2
  refine ⟨Z, F, ρ, ds, R, e1, fun J Pr F1 H1 x1 R1 p1 hP' Sr => ⟨R1.fh _ _ (R1.tab P hP), ?_⟩⟩
  refine ⟨fun i m H2 => i + m = ds.length ∧ ∃ F2, Ext F1 F2 ∧ Rep X.K cs Z F2 H2 σ ρ ∧ Pr F2 σ ρ ∧ allD fe (ds.drop i) = some b, ⟨ds.length, by omega, F1, Ext.refl F1, R1, p1, by rw [List.drop_zero]; exact e3⟩, ?_⟩
  rintro i m H2 ⟨hmi, F2, x2, R2, p2, e4⟩
  by_cases hlt : i < ds.length
  · have hd : ds.drop i = ds[i] :: ds.drop (i + 1) := List.drop_eq_getElem_cons hlt
    rw [hd] at e4
    obtain ⟨r, e5, e6⟩ := Option.bind_eq_some_iff.mp e4
    obtain ⟨b', e7, e8⟩ := Option.bind_eq_some_iff.mp e6
    have hr' := asB_some e7
    obtain ⟨hgo, hyl⟩ := Sr.go Z F2 H2 σ ρ i ds[i] R2 p2 (List.getElem?_eq_getElem hlt)
    refine .inr ⟨hgo, fun y H3 hy => ?_⟩
    obtain ⟨F3, x3, R3, r3⟩ := hyl y H3 hy
    refine ⟨oth F3 H3, F3, [some (.sh ds[i])], r, R3.lend (.cons r3 .nil), e5, fun v F4 H4 x4 R4 r4 => ⟨b', (hr' ▸ r4).isbl, ?_⟩⟩
    have RB := R3.back x4 R4
    by_cases hb' : b' = true
    · rw [if_pos hb'] at e8
      rw [if_pos hb']
      exact ⟨m - 1, by omega, by omega, F4, (x2.trans x3).trans x4, RB, Sr.mono _ _ _ _ (x3.trans x4) p2, e8⟩
    · rw [if_neg hb'] at e8
      rw [if_neg hb']
      cases e8
      exact q _ F4 H4 (((x1.trans x2).trans x3).trans x4) RB (.bl false)
  · have hd : ds.drop i = [] := List.drop_of_length_le (by omega)
    rw [hd] at e4
    cases e4
    exact .inl ⟨Sr.stop Z F2 H2 σ ρ i R2 p2 (by omega), q _ F2 H2 (x1.trans x2) R2 (.bl true)⟩
end

/-! ## a def whose code object is known -/
structure FunC (K : PySem.W.Frag) (x qual : Str) (st : Stmt) (f : Addr) (fd : FuncData) (c : Addr) : Prop where
  ex : ∃ (oc : Value) (od : Option Addr) (kV doc pm : Value) (an : Option Addr) (ct : Value) (osl : Array (Option Value)),
    fd = PySem.W.fnOf x qual (defArgs st) (defBody st) (defScope st) .none kV doc pm an (.ref c) ct ∧ K.lookup f = some ⟨oc, od, .func fd, osl⟩ ∧ PySem.W.codeIn K (.ref c) qual = true
  kp : PySem.W.keepIn K (.ref f) = true
theorem FunC.fn {K : PySem.W.Frag} {x qual : Str} {st : Stmt} {f : Addr} {fd : FuncData} {c : Addr} (F : FunC K x qual st f fd c) : Fun K x qual st f fd := by
  obtain ⟨oc, od, kV, doc, pm, an, ct, osl, h⟩ := F.ex
  exact ⟨⟨oc, od, kV, doc, pm, an, _, ct, osl, h⟩, F.kp⟩
theorem fnc_mk {K : PySem.W.Frag} {x qual : Str} {st : Stmt} {f c : Addr} {oc : Value} {od an : Option Addr} {osl : Array (Option Value)} {kV doc pm ct : Value} (l : K.lookup f = some ⟨oc, od, .func (PySem.W.fnOf x qual (defArgs st) (defBody st) (defScope st) .none kV doc pm an (.ref c) ct), osl⟩)
    (hc : PySem.W.codeIn K (.ref c) qual = true) (k : PySem.W.keepIn K (.ref f) = true) : FunC K x qual st f (PySem.W.fnOf x qual (defArgs st) (defBody st) (defScope st) .none kV doc pm an (.ref c) ct) c := ⟨⟨oc, od, kV, doc, pm, an, ct, osl, rfl, l, hc⟩, k⟩
theorem fn_dsC {P : Program} {w : World} {K : PySem.W.Frag} {mg : Str → Option Value} {base : Heap} {cs : List Addr} {x qual : Str} {st : Stmt} {f c : Addr} {fd : FuncData} {N ps : List Str} {k : Nat} {ms : List Md} {sem : List D → Option Ou} (F : FunC K x qual st f fd c) (S : FnScope N ps (defScope st)) (hm : ms.length = ps.length)
    (hbody : ∀ (A : Around) (outer : List Env) (s : Shared) (H : Hp) (E : XK), Room k (A.deeper (PyProof.Rows.envOfC qual (defScope st) s.heap.objs.size f (.ref c))) →
      ∃ g, SDs cs (cxOf CX0 P w K mg base N qual (defScope st) f (.ref c) A outer s H E).nox E (defBody st) g ∧ Comes ms (N.length - ps.length) g sem) :
    FnOk P w K mg base CX0 (k + 1) f fd ps (spD K cs ms sem) := by
  obtain ⟨oc, od, kV, doc, pm, an, ct, osl, rfl, lk, hcd⟩ := F.ex
  refine fn_of lk hcd S (fun vs H Q E h => ?_) fun A outer s H vs Q E hr h => ?_
  · obtain ⟨_, _, _, _, hv, _⟩ := h
    rw [hv, hm]
  · obtain ⟨g, h1, h2⟩ := hbody A outer s H E hr
    exact ⟨_, h1.h.nox, body_ends hm h2 h⟩

/-! ## the law's end, with tables of code objects -/
open Classical
/-- tables, as things that are known -/
noncomputable def toX (cs : List Addr) (H : Hp) : Hp := fun a => if a ∈ cs then some (.ext (tabP a)) else H a
noncomputable def unX (cs : List Addr) (T : Addr → Array Value) (H : Hp) : Hp := fun a => if a ∈ cs then some (.tbl (T a)) else H a
theorem tab_stay (p : Addr) : ∀ h1 h2 : Heap, tabP p h1 → (∀ o, h1.get? p = some o → h2.get? p = some o) → tabP p h2 := fun h1 h2 ⟨ps, e, t⟩ k => ⟨ps, k _ e, t⟩
theorem tri0 : TriplesOk ([] : List Value) := by
  first
    | trivial
    | exact ⟨rfl⟩
    | (unfold TriplesOk; simp)
section
variable {P : Program} {w : World} {K : PySem.W.Frag} {mg : Str → Option Value} {base : Heap} {CX : CXT} {k : Nat} {f : Addr} {fd : FuncData} {ps : List Str} {sp : Sp} {cs : List Addr}
/-- the law's promise over tables as the head leaves them: what is wanted does not hang on the heap -/
noncomputable def spTab (cs : List Addr) (sp : Sp) : Sp := fun vs H Q E => (∀ p ∈ cs, H p = some (.tbl #[])) ∧ (∀ v H1 H2, Q v H1 → Q v H2) ∧ sp vs (toX cs H) (fun v H' => Q v H' ∧ ∀ p ∈ cs, H' p = some (.ext (tabP p))) E
theorem toX_none {H : Hp} (h : ∀ p ∈ cs, H p = some (.tbl #[])) {b : Addr} : toX cs H b = none ↔ H b = none := by
  unfold toX
  by_cases hb : b ∈ cs
  · rw [if_pos hb, h b hb]
    simp
  · rw [if_neg hb]
theorem fn_tab (F : FnOk P w K mg base CX0 k f fd ps sp) : FnOk P w K mg base CX0 k f fd ps (spTab cs sp) := by
  refine ⟨fun vs H Q E h => F.len _ _ _ _ h.2.2, fun A outer s H args us vs Q E hr e0 hb hv h => ?_⟩
  obtain ⟨hT, hQ, hs⟩ := h
  have kp : ∀ b o, H b = some o → b ∉ cs → toX cs H b = some o := fun b o e hb => by
    unfold toX
    rw [if_neg hb]
    exact e
  have ok : HOk P w (toX cs H) s.heap := fun b o e => by
    unfold toX at e
    by_cases hb : b ∈ cs
    · rw [if_pos hb] at e
      cases e
      have q : s.heap.get? b = some { cls := .none, data := .fields #[] } := e0.hok b _ (hT b hb)
      exact ⟨⟨#[], q, tri0⟩, ⟨_, q⟩, tab_stay b⟩
    · rw [if_neg hb] at e
      refine (e0.hok b o e).stay (fun _ _ _ q => q) (fun d q => kp d _ q fun z => ?_) fun d xs q => kp d _ q fun z => ?_
      · rw [hT d z] at q
        cases q
      · rw [hT d z] at q
        cases q
  have e1 : Env0 P w K mg base A outer s (toX cs H) := ⟨e0.frames, e0.mod, fun b o e => ⟨(e0.bs b o e).1, (toX_none hT).mpr (e0.bs b o e).2⟩, e0.bsz, e0.funs, fun b hb => (toX_none hT).mpr (e0.frf b hb), ok, e0.bare⟩
  refine codeAny_mono (F.run A outer s (toX cs H) args us vs _ E hr e1 hb hv hs) fun r s' hq => ?_
  cases r with
  | error e => exact hq.elim
  | ok fl =>
    cases fl with
    | next => exact hq
    | brk => exact hq
    | cont => exact hq
    | ret u =>
      obtain ⟨v, H', os, bare, un, hok, rv, q, hx⟩ := hq
      have ht : ∀ p, ∃ T : Array Value, p ∈ cs → s'.heap.get? p = some { cls := .none, data := .fields T } := fun p => by
        by_cases hp : p ∈ cs
        · obtain ⟨⟨T, e, _⟩, _⟩ := (show ObjOk P w H' s'.heap p (.ext (tabP p)) from hok p _ (hx p hp))
          exact ⟨T, fun _ => e⟩
        · exact ⟨#[], fun z => absurd z hp⟩
      have T : Addr → Array Value := fun p => Classical.choose (ht p)
      have hT' : ∀ p ∈ cs, s'.heap.get? p = some { cls := .none, data := .fields (Classical.choose (ht p)) } := fun p hp => Classical.choose_spec (ht p) hp
      have ku : ∀ b o, H' b = some o → b ∉ cs → unX cs (fun p => Classical.choose (ht p)) H' b = some o := fun b o e hb => by
        unfold unX
        rw [if_neg hb]
        exact e
      refine ⟨v, unX cs (fun p => Classical.choose (ht p)) H', os, bare, ⟨fun b o e n hb1 hb2 => un.keep b o e ((toX_none hT).mpr n) hb1 hb2, fun b o e n hb1 hb2 => un.slot b o e ((toX_none hT).mpr n) hb1 hb2, fun b o e n hb2 => ?_, fun b o e hb2 => un.there b o e hb2, fun b xs e => ?_, fun b o u e => ?_, fun b ps e => ?_⟩, fun b o e => ?_, rv, hQ _ _ _ q⟩
      · have h1 := un.free b o e ((toX_none hT).mpr n) hb2
        unfold unX
        rw [if_neg fun z => by rw [hx b z] at h1; cases h1]
        exact h1
      · have hb : b ∉ cs := fun z => by rw [hT b z] at e; cases e
        exact ku b _ (un.tups b xs (kp b _ e hb)) hb
      · have hb : b ∉ cs := fun z => by rw [hT b z] at e; cases e
        exact ku b _ (un.frzs b o u (kp b _ e hb)) hb
      · by_cases hb : b ∈ cs
        · rw [hT b hb] at e
          cases e
          refine ⟨Classical.choose (ht b), ?_⟩
          unfold unX
          rw [if_pos hb]
          simp
        · obtain ⟨more, h1⟩ := un.tbls b ps (kp b _ e hb)
          exact ⟨more, ku b _ h1 hb⟩
      · unfold unX at e
        by_cases hb : b ∈ cs
        · rw [if_pos hb] at e
          cases e
          exact hT' b hb
        · rw [if_neg hb] at e
          refine (hok b o e).stay (fun _ _ _ q => q) (fun d q => ku d _ q fun z => ?_) fun d xs q => ku d _ q fun z => ?_
          · rw [hx d z] at q
            cases q
          · rw [hx d z] at q
            cases q
/-- what the law is to do: True, whatever the script -/
noncomputable def semLaw (n : Nat) : List D → Option Ou := fun ds => if ∃ ns : List Int, ds = [.list (ns.map .int)] ∧ ns.length ≤ n then some (.ret (.bool true) false []) else none
theorem rps_ints {F : Hp} : ∀ ns : List Int, Rps K F (ns.map V.int) (ns.map PyData.int)
  | [] => .nil
  | n :: ns => .cons (.int n) (rps_ints ns)
theorem law_asks {n : Nat} {H : Hp} {a : Addr} {ns : List Int} (hT : ∀ p ∈ cs, H p = some (.tbl #[])) (hl : ns.length ≤ n) (hS : SqL K H a (ns.map V.int)) :
    spTab cs (spD K cs [.ro] (semLaw n)) [.ref a] H (fun v _ => v = .bl true) fun _ _ _ => False := by
  refine ⟨hT, fun v H1 H2 q => q, fun _ => none, toX cs H, [.list (ns.map .int)], .ret (.bool true) false [], rfl, rfl, rfl, ?_, ?_, ?_⟩
  · refine rep_sh (vs := [.ref a]) (ds := [.list (ns.map .int)]) rfl (fun _ _ h => h) (fun _ _ h => by cases h) (.cons (.lst ?_ (rps_ints ns)) .nil) fun p hp => ?_
    · rcases hS with (h | ⟨o, h⟩) | h
      · refine .inl (.inl ?_)
        unfold toX
        rw [if_neg fun z => by rw [hT a z] at h; cases h]
        exact h
      · refine .inl (.inr ⟨o, ?_⟩)
        unfold toX
        rw [if_neg fun z => by rw [hT a z] at h; cases h]
        exact h
      · exact .inr h
    · unfold toX
      rw [if_pos hp]
  · unfold semLaw
    rw [if_pos ⟨ns, rfl, hl⟩]
  · intro v F' H' x R' res
    unfold ResV at res
    rw [if_neg Bool.false_ne_true] at res
    exact ⟨res.isbl, fun p hp => R'.fh _ _ (R'.tab p hp)⟩
end
end DS

namespace DS
open PySem L2

/-! ## a def that may be called by its name -/
structure Cal (P : Program) (w : World) (K : PySem.W.Frag) (mg : Str → Option Value) (base : Heap) (cs : List Addr) (x : Str) (k : Nat) (ps : List Str) (ms : List Md) (sem : List D → Option Ou) : Prop where
  ex : ∃ f fd, FnOk P w K mg base CX0 k f fd ps (spD K cs ms sem) ∧ mg x = some (.ref f) ∧ PySem.W.keepIn K (.ref f) = true ∧ Binds K fd ps []
/-- the place's program, view and so on -/
structure AtX (X : Cx) (P : Program) (w : World) (K : PySem.W.Frag) (mg : Str → Option Value) (base : Heap) : Prop where
  prog : X.prog = P
  w : X.w = w
  K : X.K = K
  mg : X.mg = mg
  base : X.base = base
section
variable {P : Program} {w : World} {K : PySem.W.Frag} {mg : Str → Option Value} {base : Heap} {cs : List Addr} {X : Cx} {e : Expr} {es : List Expr} {pos p : Pos} {fr : Nv → Option (List D)} {x : Str} {k j : Nat} {ps : List Str} {ms : List Md} {sem : List D → Option Ou}
theorem c_call (C : Cal P w K mg base cs x k ps ms sem) (hX : AtX X P w K mg base) (hro : ∀ m ∈ ms, m = .ro) (hr : Room j X.A) (hj : k ≤ j) (hg : Gl X x) (ha : EPs cs X (e :: es) fr) (hdb : (x == ("__debug__" : Str)) = false := by decide)
    (he : starEach (e :: es) X.env = (false, eval e X.env) :: starEach es X.env := by rfl) (hpl : (backTo pos (starEach es X.env)).any (·.1) = false := by rfl) : EP' cs X (.Call (.Name x p) (e :: es) [] pos) (callS ms.length sem fr) := by
  obtain ⟨rfl, rfl, rfl, rfl, rfl⟩ := hX
  obtain ⟨f, fd, h1, h2, h3, h4⟩ := C.ex
  exact e_call h1 hro (hr.mono hj) hg h2 h3 h4 pass0 ha hdb he hpl
theorem c_callO (C : Cal P w K mg base cs x k ps ms sem) (hX : AtX X P w K mg base) (hro : ∀ m ∈ ms, m = .ro) (hr : Room j X.A) (hj : k ≤ j) (hg : Gl X x) (ha : EPs cs X (e :: es) fr) (hdb : (x == ("__debug__" : Str)) = false := by decide)
    (he : starEach (e :: es) X.env = (false, eval e X.env) :: starEach es X.env := by rfl) (hpl : (backTo pos (starEach es X.env)).any (·.1) = false := by rfl) : EN cs X (.Call (.Name x p) (e :: es) [] pos) (callO ms.length sem fr) := by
  obtain ⟨rfl, rfl, rfl, rfl, rfl⟩ := hX
  obtain ⟨f, fd, h1, h2, h3, h4⟩ := C.ex
  exact e_callO h1 hro (hr.mono hj) hg h2 h3 h4 pass0 ha hdb he hpl
theorem c_callF (C : Cal P w K mg base cs x k ps ms sem) (hX : AtX X P w K mg base) (hro : ∀ m ∈ ms, m = .ro) (hr : Room j X.A) (hj : k ≤ j) (hg : Gl X x) (ha : EWs cs X (e :: es) fr) (hdb : (x == ("__debug__" : Str)) = false := by decide)
    (he : starEach (e :: es) X.env = (false, eval e X.env) :: starEach es X.env := by rfl) (hpl : (backTo pos (starEach es X.env)).any (·.1) = false := by rfl) : EP' cs X (.Call (.Name x p) (e :: es) [] pos) (callF ms.length sem fr) := by
  obtain ⟨rfl, rfl, rfl, rfl, rfl⟩ := hX
  obtain ⟨f, fd, h1, h2, h3, h4⟩ := C.ex
  exact e_callF h1 hro (hr.mono hj) hg h2 h3 h4 pass0 ha hdb he hpl
/-- f() -/
def call0 (sem : List D → Option Ou) : Nv → Option D := fun _ => match sem [] with
  | some (.ret d _ _) => some d
  | _ => none
theorem c_call0 (C : Cal P w K mg base cs x k ps [] sem) (hX : AtX X P w K mg base) (hr : Room j X.A) (hj : k ≤ j) (hg : Gl X x) (hdb : (x == ("__debug__" : Str)) = false := by decide) : EP' cs X (.Call (.Name x p) [] [] pos) (call0 sem) := by
  obtain ⟨rfl, rfl, rfl, rfl, rfl⟩ := hX
  obtain ⟨f, fd, h1, h2, h3, h4⟩ := C.ex
  refine ⟨pe_imp (pe_call0 h1 (hr.mono hj) hg h2 h3 h4 .nil (pass0 (X := X)) hdb) fun σ H Q ⟨Z, F0, ρ, d, R, ef, q⟩ => ?_⟩
  unfold call0 at ef
  split at ef
  · rename_i d' own outs es
    cases ef
    refine ⟨oth F0 H, F0, [], _, rfl, rfl, rfl, R.lend (vs := []) .nil, es, fun v F2 H2 x2 R2 res => ?_⟩
    have RB := R.back x2 R2
    unfold ResV at res
    split at res
    · obtain ⟨p', rfl, h1, h2, h3, h4⟩ := res
      obtain ⟨z1, z2⟩ := R.backN h2
      obtain ⟨o, g1, g2⟩ := h4.rp
      exact q _ _ _ (x2.trans (Ext.upd h1)) (RB.give g1 h1 z1 z2) (g2 _ (Ext.upd h1) upd_same)
    · exact q v F2 H2 x2 RB res
  · cases ef
end
/-! ## y = [.. for .. in ..] on one row -/
section
variable {cs : List Addr} {X : Cx} {E : XK} {elt iter : Expr} {ifs : List Expr} {scope : Scope} {x y : Str} {i j : Nat} {px py pos spos : Pos} {f : Nv → Option (List D)} {t : Nv → Option Bool} {fe : Nv → Option D}
/-- what a comprehension's reading gives: (it is the reading of e_lc) -/
theorem t_lc (σ : L2.St) (H : Hp) (Q : VK) (h : tN X.K cs (lcV i f t fe) σ H Q) : tLc (tI X.K cs SetP f) (gName i) (tPT X.K cs t) (tP X.K cs fe) [i] σ H Q := by
  obtain ⟨Z, F, ρ, d, R, ef, q⟩ := h
  obtain ⟨ds, e1, e2⟩ := Option.bind_eq_some_iff.mp ef
  split at e2
  · rename_i hb
    obtain ⟨hn, hdl⟩ := hb
    obtain ⟨ys, e3, rfl⟩ := Option.map_eq_some_iff.mp e2
    refine ⟨Z, F, ρ, ds, R, e1, fun J P F1 H1 x1 R1 p1 hP S D hD => ?_⟩
    obtain ⟨R2, fD, zD, mD⟩ := R1.made (o := .lst []) hD
    have R3 := R2.aside upd_same fD mD
    have R4 : Rep X.K cs (upd Z D (.lst [])) F1 (upd H1 D (.lst [])) (σ.set i none) (ρ.set i none) := R3.drop i none
    have pS : P F1 (σ.set i none) (ρ.set i none) := hP _ _ _ _ _ _ hn p1
    refine ⟨fun k m H2 => k + m = ds.length ∧ ∃ F2 acc zs rest, Ext F1 F2 ∧ Rep X.K cs (upd Z D (.lst acc)) F2 H2 (σ.set i none) (ρ.set i none) ∧ P F2 (σ.set i none) (ρ.set i none) ∧ Rps X.K F2 acc zs ∧ acc.length ≤ k ∧ lcD i t fe ρ (ds.drop k) = some rest ∧ ys = zs ++ rest,
      ⟨ds.length, by omega, F1, [], [], ys, Ext.refl F1, R4, pS, .nil, Nat.le_refl _, by rw [List.drop_zero]; exact e3, rfl⟩, ?_⟩
    rintro k m H2 ⟨hm, F2, acc, zs, rest, x2, R5, p5, r5, la, e5, hy⟩
    by_cases hlt : k < ds.length
    · have hd : ds.drop k = ds[k] :: ds.drop (k + 1) := List.drop_eq_getElem_cons hlt
      rw [hd] at e5
      obtain ⟨b, e6, e7⟩ := Option.bind_eq_some_iff.mp e5
      obtain ⟨hgo, hyl⟩ := S.go _ F2 H2 _ _ k ds[k] R5 p5 (List.getElem?_eq_getElem hlt)
      refine .inr ⟨hgo, fun H3 => ∃ m', m' < m ∧ (k + 1) + m' = ds.length ∧ ∃ F3 acc zs rest, Ext F1 F3 ∧ Rep X.K cs (upd Z D (.lst acc)) F3 H3 (σ.set i none) (ρ.set i none) ∧ P F3 (σ.set i none) (ρ.set i none) ∧ Rps X.K F3 acc zs ∧ acc.length ≤ k + 1 ∧ lcD i t fe ρ (ds.drop (k + 1)) = some rest ∧ ys = zs ++ rest, fun H3 h => h, fun v H3 hyv => ?_⟩
      obtain ⟨F3, x3, R6, r6⟩ := hyl v H3 hyv
      have R7 := R6.setSh i r6
      have sset : ∀ w : Option V, (σ.set i none).set i w = σ.set i w := fun w => by rw [List.set_set]
      have rset : ∀ c : Option Cell, (ρ.set i none).set i c = ρ.set i c := fun c => by rw [List.set_set]
      rw [sset, rset] at R7
      refine ⟨?_, ?_⟩
      · show ((σ.set i none).set i (some v)).set i none = σ.set i none
        rw [List.set_set, List.set_set]
      · have hw : List.set (wipe σ [i]) i (some v) = σ.set i (some v) := sset (some v)
        rw [hw]
        refine ⟨_, F3, _, b, R7, e6, fun F4 H4 x4 R8 => ?_⟩
        have back : ∀ {F5 H5 : Hp} {acc' : List V}, Rep X.K cs (upd Z D (.lst acc')) F5 H5 (σ.set i (some v)) (ρ.set i (some (.sh ds[k]))) → Rep X.K cs (upd Z D (.lst acc')) F5 H5 (σ.set i none) (ρ.set i none) := fun {F5 H5 acc'} r => by
          have := r.drop i none
          rw [List.set_set, List.set_set] at this
          exact this
        by_cases hb : b = true
        · rw [if_pos hb] at e7
          show if b = true then _ else _
          rw [if_pos hb]
          obtain ⟨y, e8, e9⟩ := Option.bind_eq_some_iff.mp e7
          obtain ⟨rest', e10, rfl⟩ := Option.map_eq_some_iff.mp e9
          refine ⟨_, F4, _, y, R8, e8, fun u F5 H5 x5 R9 r9 => ⟨acc, (R9.zh D _ upd_same).1, ?_, ?_⟩⟩
          · have : (100000 : Nat) ≤ sizeLine := by decide
            omega
          · have x25 : Ext F2 F5 := (x3.trans x4).trans x5
            refine ⟨m - 1, by omega, by omega, F5, acc ++ [u], zs ++ [y], rest', x2.trans x25, back R9.asideSet, S.mono _ _ _ _ x25 p5, (r5.ext x25).app (.cons r9 .nil), ?_, e10, ?_⟩
            · rw [List.length_append]
              simp only [List.length_cons, List.length_nil]
              omega
            · rw [hy, List.append_assoc]
              rfl
        · rw [if_neg hb] at e7
          show if b = true then _ else _
          rw [if_neg hb]
          have x24 : Ext F2 F4 := x3.trans x4
          exact ⟨m - 1, by omega, by omega, F4, acc, zs, rest, x2.trans x24, back R8, S.mono _ _ _ _ x24 p5, r5.ext x24, by omega, e7, hy⟩
    · have hd : ds.drop k = [] := List.drop_of_length_le (by omega)
      rw [hd] at e5
      cases e5
      rw [List.append_nil] at hy
      refine .inl ⟨S.stop _ F2 H2 _ _ k R5 p5 (by omega), ?_⟩
      obtain ⟨hDH, hDF⟩ := R5.zh D _ upd_same
      have RB : Rep X.K cs Z F2 H2 σ ρ := R1.restore hn (fun _ z => by cases z) x2 (fun a o h => by
        have ha : a ≠ D := ne_of_none h zD
        rw [upd_ne ha]
        exact h) R5
      refine q D F2 H2 (x1.trans x2) RB hDF zD mD ⟨acc, hDH, ?_⟩
      rw [hy]
      exact r5
  · cases e2
theorem sd_setLc (hc : X.calm = true) (hN : X.N.Nodup) (hy : X.N[j]? = some y) (hyl : X.env.scope.names.lookup y = some .local) (hsw : swapsWith (.ListComp elt [⟨.Name x px, iter, ifs, 0⟩] scope pos) (some (.Name y py)) spos.line X.env = pure true)
    (hix : X.N[i]? = some x) (hi : EI cs X SetP (.Name x px) iter f) (ok : BlkOk X.N X.env.scope scope [(x, i)])
    (hl : ∀ (s : Shared) (H : Hp) (C : Addr) (cl : List (Str × Addr)) (fp : List Addr), (X.blk s H scope (compEnvC scope cl C X.env) fp).env.scope.names.lookup x = some .local)
    (ht : ∀ (s : Shared) (H : Hp) (C : Addr) (cl : List (Str × Addr)) (fp : List Addr), ETs cs (X.blk s H scope (compEnvC scope cl C X.env) fp) ifs t)
    (he : ∀ (s : Shared) (H : Hp) (C : Addr) (cl : List (Str × Addr)) (fp : List Addr), EP' cs (X.blk s H scope (compEnvC scope cl C X.env) fp) elt fe) (hs : ∀ x, foldedSetIterable iter X.env x = pure x := by intro _; rfl) :
    SD cs X E (.Assign [.Name y py] (.ListComp elt [⟨.Name x px, iter, ifs, 0⟩] scope pos) spos) (setN j (lcV i f t fe)) := by
  refine ⟨ps_imp (ps_setLc (i := j) (own := [(x, i)]) (g := gName i) (tt := tPT X.K cs t) (te := tP X.K cs fe) hc hN hy hyl hsw hi.h ok (fun s H C cl fp => pg_name (X := X.blk s H scope (compEnvC scope cl C X.env) fp) (i := i) hN hix (.inl (hl s H C cl fp)) (.inr (hl s H C cl fp))) (fun s H C cl fp => (ht s H C cl fp).h) (fun s H C cl fp => (he s H C cl fp).h) hs) ?_⟩
  rintro D σ H ⟨Z, F, ρ, r, R, ef, w⟩
  obtain ⟨d, e1, rfl⟩ := Option.map_eq_some_iff.mp ef
  exact t_lc σ H _ ⟨Z, F, ρ, d, R, e1, fun p F1 H1 x1 R1 fp zp mp o => w _ F1 H1 (by rw [List.length_set]) x1 (R1.setOw j fp zp mp o)⟩
theorem sd_setLcS (hc : X.calm = true) (hN : X.N.Nodup) (hy : X.N[j]? = some y) (hyl : X.env.scope.names.lookup y = some .local) (hsw : swapsWith (.ListComp elt [⟨.Name x px, iter, ifs, 0⟩] scope pos) (some (.Name y py)) spos.line X.env = pure true)
    (hix : X.N[i]? = some x) (hi : EI cs X SetP (.Name x px) iter f) (ok : BlkOk X.N X.env.scope scope [(x, i)])
    (hl : ∀ (s : Shared) (H : Hp) (C : Addr) (cl : List (Str × Addr)) (fp : List Addr), (X.blk s H scope (compEnvC scope cl C X.env) fp).env.scope.names.lookup x = some .local)
    (ht : ∀ (s : Shared) (H : Hp) (C : Addr) (cl : List (Str × Addr)) (fp : List Addr), ETs cs (X.blk s H scope (compEnvC scope cl C X.env) fp) ifs t)
    (he : ∀ (s : Shared) (H : Hp) (C : Addr) (cl : List (Str × Addr)) (fp : List Addr), EP' cs (X.blk s H scope (compEnvC scope cl C X.env) fp) elt fe) (hs : ∀ x, foldedSetIterable iter X.env x = pure x := by intro _; rfl) :
    SD cs X E (.Assign [.Name y py] (.ListComp elt [⟨.Name x px, iter, ifs, 0⟩] scope pos) spos) (setS j (lcV i f t fe)) := by
  refine ⟨ps_imp (ps_setLc (i := j) (own := [(x, i)]) (g := gName i) (tt := tPT X.K cs t) (te := tP X.K cs fe) hc hN hy hyl hsw hi.h ok (fun s H C cl fp => pg_name (X := X.blk s H scope (compEnvC scope cl C X.env) fp) (i := i) hN hix (.inl (hl s H C cl fp)) (.inr (hl s H C cl fp))) (fun s H C cl fp => (ht s H C cl fp).h) (fun s H C cl fp => (he s H C cl fp).h) hs) ?_⟩
  rintro D σ H ⟨Z, F, ρ, r, R, ef, w⟩
  obtain ⟨d, e1, rfl⟩ := Option.map_eq_some_iff.mp ef
  refine t_lc σ H _ ⟨Z, F, ρ, d, R, e1, fun p F1 H1 x1 R1 fp zp mp o => ?_⟩
  obtain ⟨ob, h1, h2⟩ := o.rp
  exact w _ _ H1 (by rw [List.length_set]) (x1.trans (Ext.upd fp)) ((R1.give h1 fp zp mp).setSh j (h2 _ (Ext.upd fp) upd_same))
end

/-! ## small things -/
theorem hu65 {k : Nat} {A : Around} (h : Room k A) : A.units + 65 < cLine := by have := h.un; omega
theorem e_gint {cs : List Addr} {X : Cx} {x : Str} {i : Int} {pos : Pos} (hg : Gl X x) (h : ∃ t, X.mg x = some (.int i t)) (hd : (x == ("__debug__" : Str)) = false := by decide) : EP' cs X (.Name x pos) (fun _ => some (.int i)) := by
  obtain ⟨t, h⟩ := h
  exact e_glob (pe_glob (v := .int i) hg h ⟨t, rfl⟩ hd) fun F => .int i
end DS

namespace DS
open PySem L2
instance : DecidableEq Md := fun a b => by
  cases a <;> cases b <;> first | exact isTrue rfl | exact isFalse fun h => by cases h

/-! ## what a def comes to, where it changes none of its arguments -/
def shs (ds : List D) (n : Nat) : Nv := (ds.map fun d => some (.sh d)) ++ List.replicate n none
def fin0 (k : Nat) : SR → Option Ou
  | .nx ρ => if k ≤ ρ.length then some (.ret .none false []) else none
  | .rt d own ρ => if k ≤ ρ.length then some (.ret d own []) else none
  | .exc c => some (.exc c)
  | _ => none
/-- its meaning by its body's: k arguments, n names more -/
def semR (k n : Nat) (g : Nv → Option SR) : List D → Option Ou := fun ds => if ds.length = k then (g (shs ds n)).bind (fin0 k) else none
theorem outs_ro : ∀ {ms : List Md} {vs : List V} {ρ : Nv}, (∀ m ∈ ms, m = .ro) → vs.length = ms.length → ms.length ≤ ρ.length → outsOf ms vs ρ = some []
  | [], _, _, _, _, _ => rfl
  | m :: ms, [], _, _, h, _ => by cases h
  | m :: ms, v :: vs, [], _, _, h => by simp at h
  | m :: ms, v :: vs, r :: ρ, h, h1, h2 => by
    have e : m = .ro := h m List.mem_cons_self
    subst e
    show outsOf ms vs ρ = some []
    exact outs_ro (fun m hm => h m (List.mem_cons_of_mem _ hm)) (by simpa using h1) (by simpa using h2)
theorem comes_ro {ms : List Md} {n : Nat} {g : Nv → Option SR} (hro : ∀ m ∈ ms, m = .ro) : Comes ms n g (semR ms.length n g) := fun vs ds o hv hd _ h => by
  unfold semR at h
  rw [if_pos hd] at h
  unfold runD
  rw [argNv_ro hro hv hd]
  obtain ⟨r, e1, e2⟩ := Option.bind_eq_some_iff.mp h
  show (g (shs ds n)).bind _ = _
  rw [e1]
  show finD ms vs r = some o
  cases r with
  | nx ρ =>
    unfold fin0 at e2
    dsimp only at e2
    split at e2
    · rename_i hl
      cases e2
      show (outsOf ms vs ρ).map _ = _
      rw [outs_ro hro hv hl]
      rfl
    · cases e2
  | rt d own ρ =>
    unfold fin0 at e2
    dsimp only at e2
    split at e2
    · rename_i hl
      cases e2
      show (outsOf ms vs ρ).map _ = _
      rw [outs_ro hro hv hl]
      rfl
    · cases e2
  | bk ρ => cases e2
  | ct ρ => cases e2
  | exc c => cases e2; rfl

/-! ## steps over data -/
def sgOk (d : D) : Bool := match d with
  | .none => true
  | .bool _ => true
  | .int _ => true
  | .str x => decide (x.length ≤ 100000) && PyData.strOk x
  | _ => false
/-- data of at most this depth, its texts plain and short -/
def fine : Nat → D → Bool
  | 0, d => sgOk d
  | n + 1, .list xs => xs.all (fine n)
  | n + 1, .tuple xs => xs.all (fine n)
  | _ + 1, d => sgOk d
theorem lay_all {n : Nat} (ih : ∀ d, fine n d = true → d.canLay0 = true ∧ d.depth ≤ n) : ∀ xs : List D, xs.all (fine n) = true → PyData.canLayAll0 xs = true ∧ PyData.depthAll xs ≤ n
  | [], _ => ⟨by rw [PyData.canLayAll0], by rw [PyData.depthAll]; exact Nat.zero_le _⟩
  | x :: xs, h => by
    rw [List.all_cons, Bool.and_eq_true] at h
    obtain ⟨h1, h2⟩ := ih x h.1
    obtain ⟨h3, h4⟩ := lay_all ih xs h.2
    refine ⟨by rw [PyData.canLayAll0, h1, h3]; rfl, ?_⟩
    rw [PyData.depthAll]
    omega
theorem lay_sg {d : D} (h : sgOk d = true) : d.canLay0 = true ∧ d.depth = 0 := by
  cases d with
  | none => exact ⟨by simp [PyData.canLay0], by simp [PyData.depth]⟩
  | bool b => exact ⟨by simp [PyData.canLay0], by simp [PyData.depth]⟩
  | int i => exact ⟨by simp [PyData.canLay0], by simp [PyData.depth]⟩
  | str x =>
    have h' : decide (x.length ≤ 100000) = true ∧ PyData.strOk x = true := by simpa [sgOk] using h
    exact ⟨by rw [PyData.canLay0]; exact h'.2, by simp [PyData.depth]⟩
  | list _ => cases h
  | tuple _ => cases h
  | dict _ => cases h
theorem lay_fine : ∀ (n : Nat) (d : D), fine n d = true → d.canLay0 = true ∧ d.depth ≤ n
  | 0, d, h => by
    obtain ⟨h1, h2⟩ := lay_sg (d := d) (by unfold fine at h; exact h)
    exact ⟨h1, by omega⟩
  | n + 1, d, h => by
    cases d with
    | list xs =>
      obtain ⟨h1, h2⟩ := lay_all (lay_fine n) xs (by simpa [fine] using h)
      exact ⟨by rw [PyData.canLay0]; exact h1, by rw [PyData.depth]; omega⟩
    | tuple xs =>
      obtain ⟨h1, h2⟩ := lay_all (lay_fine n) xs (by simpa [fine] using h)
      exact ⟨by rw [PyData.canLay0]; exact h1, by rw [PyData.depth]; omega⟩
    | _ =>
      obtain ⟨h1, h2⟩ := lay_sg (by simpa [fine] using h)
      exact ⟨h1, by omega⟩
theorem shaped_fine {n : Nat} {d : D} (h : fine n d = true) (hn : n ≤ 60) : SeqAt.shaped d = true := by
  obtain ⟨h1, h2⟩ := lay_fine n d h
  unfold SeqAt.shaped
  rw [h1, Bool.true_and]
  exact decide_eq_true (by omega)
theorem shaped_int {i : Int} : SeqAt.shaped (.int i) = true := shaped_fine (n := 0) (d := .int i) rfl (by decide)
theorem shaped_none : SeqAt.shaped .none = true := shaped_fine (n := 0) (d := .none) rfl (by decide)
theorem shaped_bool {i : Bool} : SeqAt.shaped (.bool i) = true := shaped_fine (n := 0) (d := .bool i) rfl (by decide)
theorem shaped_str {x : Str} (h1 : x.length ≤ 100000) (h2 : PyData.strOk x = true) : SeqAt.shaped (.str x) = true := shaped_fine (n := 0) (d := .str x) (by simp [fine, sgOk, h1, h2]) (by decide)
theorem fine_up : ∀ {n : Nat} {d : D}, fine n d = true → fine (n + 1) d = true
  | 0, d, h => by
    cases d with
    | list _ => cases h
    | tuple _ => cases h
    | dict _ => cases h
    | _ => exact h
  | n + 1, d, h => by
    cases d with
    | list xs =>
      have h' : xs.all (fine n) = true := h
      show xs.all (fine (n + 1)) = true
      rw [List.all_eq_true] at h' ⊢
      exact fun x hx => fine_up (h' x hx)
    | tuple xs =>
      have h' : xs.all (fine n) = true := h
      show xs.all (fine (n + 1)) = true
      rw [List.all_eq_true] at h' ⊢
      exact fun x hx => fine_up (h' x hx)
    | _ => exact h
/-- an item at a rest -/
theorem atI_ok {α : Type} {xs : List α} {i : Int} (h0 : 0 ≤ i) (h1 : i < xs.length) : ∃ x, atI xs i = some x ∧ x ∈ xs := by
  have hj : i.toNat < xs.length := by omega
  refine ⟨xs[i.toNat], ?_, List.getElem_mem hj⟩
  unfold atI ixN
  rw [if_pos h0, if_pos h1]
  show xs[i.toNat]? = _
  exact List.getElem?_eq_getElem hj
theorem atI_mod {α : Type} {xs : List α} {i n : Int} (hn : 0 < n) (hl : n ≤ xs.length) : ∃ x, atI xs (i % n) = some x ∧ x ∈ xs := by
  have h1 := Int.emod_nonneg i (b := n) (by omega)
  have h2 := Int.emod_lt_of_pos i hn
  exact atI_ok h1 (by omega)
end DS

namespace DS
open PySem L2

/-! ## a body's run, step by step -/
def Rets (n : Nat) (o : Bool) (φ : D → Prop) (x : Option SR) : Prop := ∃ d ρ', x = some (.rt d o ρ') ∧ n ≤ ρ'.length ∧ φ d
section
variable {n : Nat} {φ : D → Prop} {g g' : Nv → Option SR} {ρ ρ' : Nv} {t : Nv → Option Bool} {f : Nv → Option D} {d : D} {b o : Bool}
theorem rets_nx (h1 : g ρ = some (.nx ρ')) (h2 : Rets n o φ (g' ρ')) : Rets n o φ (seqS g g' ρ) := by
  unfold seqS
  rw [h1]
  exact h2
theorem rets_rt (h1 : Rets n o φ (g ρ)) : Rets n o φ (seqS g g' ρ) := by
  obtain ⟨d, ρ', e, h⟩ := h1
  unfold seqS
  rw [e]
  exact ⟨d, ρ', rfl, h⟩
theorem rets_if (h : t ρ = some b) (h1 : b = true → Rets n o φ (g ρ)) (h2 : b = false → Rets n o φ (g' ρ)) : Rets n o φ (ifS t g g' ρ) := by
  unfold ifS
  rw [h]
  cases b with
  | true => exact h1 rfl
  | false => exact h2 rfl
/-- if t: return ..; rest -/
theorem rets_ifr (h : t ρ = some b) (h1 : b = true → Rets n o φ (g ρ)) (h2 : b = false → Rets n o φ (g' ρ)) : Rets n o φ (seqS (ifS t g (fun ρ => some (.nx ρ))) g' ρ) := by
  cases b with
  | true => exact rets_rt (rets_if h (fun _ => h1 rfl) fun z => by cases z)
  | false =>
    refine rets_nx (ρ' := ρ) ?_ (h2 rfl)
    unfold ifS
    rw [h]
    rfl
theorem rets_ret (h : f ρ = some d) (hn : n ≤ ρ.length) (hφ : φ d) : Rets n o φ ((fun ρ => (f ρ).map fun d => .rt d o ρ) ρ) := ⟨d, ρ, by show (f ρ).map _ = _; rw [h]; rfl, hn, hφ⟩
theorem setS_is {i : Nat} (h : f ρ = some d) : setS i f ρ = some (.nx (ρ.set i (some (.sh d)))) := by
  unfold setS
  rw [h]
  rfl
theorem sem_rets {k m : Nat} {ds : List D} (hk : ds.length = k) (h : Rets k o φ (g (shs ds m))) : ∃ d, semR k m g ds = some (.ret d o []) ∧ φ d := by
  obtain ⟨d, ρ', e, h1, h2⟩ := h
  refine ⟨d, ?_, h2⟩
  unfold semR
  rw [if_pos hk, e]
  show (if _ then _ else _) = _
  rw [if_pos h1]
theorem op2_is {op : D → D → Option D} {fa fb : Nv → Option D} {x y r : D} (h1 : fa ρ = some x) (h2 : fb ρ = some y) (h3 : op x y = some r) : op2 op fa fb ρ = some r := by
  unfold op2
  rw [h1, h2]
  exact h3
theorem opT_is {op : D → D → Option D} {fa fb : Nv → Option D} {x y : D} (h1 : fa ρ = some x) (h2 : fb ρ = some y) (h3 : op x y = some (.bool b)) : opT op fa fb ρ = some b := by
  unfold opT
  rw [op2_is h1 h2 h3]
  rfl
theorem callS_is {k : Nat} {sem : List D → Option Ou} {fr : Nv → Option (List D)} {ds : List D} {os : List D} (h : fr ρ = some ds) (hk : ds.length = k) (e : sem ds = some (.ret d o os)) : callS k sem fr ρ = some d := by
  unfold callS
  rw [h]
  show (if _ then _ else _) = _
  rw [if_pos hk, e]
theorem cons2_is {fa : Nv → Option D} {fr : Nv → Option (List D)} {ds : List D} (h : fa ρ = some d) (h2 : fr ρ = some ds) : cons2 fa fr ρ = some (d :: ds) := by
  unfold cons2
  rw [h, h2]
  rfl
/-- a comprehension without conditions -/
theorem lcD_all {i : Nat} {Q : D → Prop} : ∀ ds : List D, (∀ x ∈ ds, ∃ y, f (ρ.set i (some (.sh x))) = some y ∧ Q y) → ∃ ys, lcD i (fun _ => some true) f ρ ds = some ys ∧ ys.length = ds.length ∧ ∀ y ∈ ys, Q y
  | [], _ => ⟨[], rfl, rfl, fun _ h => by cases h⟩
  | x :: r, h => by
    obtain ⟨y, e1, q1⟩ := h x List.mem_cons_self
    obtain ⟨ys, e2, l2, q2⟩ := lcD_all r fun z hz => h z (List.mem_cons_of_mem _ hz)
    refine ⟨y :: ys, ?_, by rw [List.length_cons, l2, List.length_cons], fun z hz => ?_⟩
    · rw [lcD]
      show (f (ρ.set i (some (.sh x)))).bind _ = _
      rw [e1]
      show (lcD i (fun _ => some true) f ρ r).map _ = _
      rw [e2]
      rfl
    · rcases List.mem_cons.mp hz with rfl | hz
      · exact q1
      · exact q2 z hz
theorem lcV_all {i : Nat} {Q : D → Prop} {fi : Nv → Option (List D)} {ds : List D} (hi : fi ρ = some ds) (hn : noMine ρ i = true) (hl : ds.length ≤ 100000) (h : ∀ x ∈ ds, ∃ y, f (ρ.set i (some (.sh x))) = some y ∧ Q y) :
    ∃ ys, lcV i fi (fun _ => some true) f ρ = some (.list ys) ∧ ys.length = ds.length ∧ ∀ y ∈ ys, Q y := by
  obtain ⟨ys, e, h1, h2⟩ := lcD_all ds h
  refine ⟨ys, ?_, h1, h2⟩
  unfold lcV
  rw [hi]
  show (if _ then _ else _) = _
  rw [if_pos ⟨hn, hl⟩, e]
  rfl
/-- a loop that goes through, keeping what it keeps -/
theorem forS_all {a : D → Nv → Option Nv} {I : Nv → Prop} : ∀ (ds : List D) (ρ : Nv), I ρ → (∀ d ∈ ds, ∀ ρ, I ρ → ∃ ρ1 ρ2, a d ρ = some ρ1 ∧ g ρ1 = some (.nx ρ2) ∧ I ρ2) → ∃ ρ', forS a g ds ρ = some (.nx ρ') ∧ I ρ'
  | [], ρ, h, _ => ⟨ρ, rfl, h⟩
  | d :: r, ρ, h, hs => by
    obtain ⟨ρ1, ρ2, e1, e2, h2⟩ := hs d List.mem_cons_self ρ h
    obtain ⟨ρ', e3, h3⟩ := forS_all r ρ2 h2 fun z hz => hs z (List.mem_cons_of_mem _ hz)
    refine ⟨ρ', ?_, h3⟩
    rw [forS, e1]
    show (g ρ1).bind _ = _
    rw [e2]
    exact e3
end
/-! ## texts -/
def sgD (c : Nat) : D := .str ⟨#[c]⟩
theorem join_sg (cs : List Nat) : (Txt.join (⟨#[]⟩ : Str) (cs.map fun c => ⟨#[c]⟩)).cps.toList = cs := by
  show (Builtin.Str.glued _ _).cps.toList = cs
  rw [StrLaws.glued_eq_join]
  induction cs with
  | nil => rfl
  | cons c r ih =>
    match r, ih with
    | [], _ => rfl
    | d :: r, ih =>
      show ((Str.append (Str.append (⟨#[c]⟩ : Str) (⟨#[]⟩ : Str)) (Str.join ⟨#[]⟩ ((d :: r).map fun c => ⟨#[c]⟩))).cps).toList = _
      simp only [Str.append, Array.toList_append, ih]
      rfl
theorem strs_sg : ∀ cs : List Nat, strsD (cs.map sgD) = some (cs.map fun c => ⟨#[c]⟩)
  | [] => rfl
  | c :: r => by
    show (strsD (r.map sgD)).map _ = _
    rw [strs_sg r]
    rfl
theorem len_sg : ∀ cs : List Nat, ((cs.map fun c => (⟨#[c]⟩ : Str)).map (·.length)).sum = cs.length
  | [] => rfl
  | c :: r => by
    rw [List.map_cons, List.map_cons, List.sum_cons, len_sg r, List.length_cons]
    show 1 + r.length = _
    omega
theorem joinD_sg {cs : List Nat} (h : cs.length ≤ 100000) : ∃ t : Str, joinD (.str ⟨#[]⟩) (.list (cs.map sgD)) = some (.str t) ∧ t.cps.toList = cs := by
  refine ⟨_, ?_, join_sg cs⟩
  show (strsD (cs.map sgD)).bind _ = _
  rw [strs_sg]
  show (if _ then _ else _) = _
  rw [if_pos]
  rw [len_sg]
  show cs.length + _ * 0 ≤ 100000
  omega
theorem strOk_all {t : Str} : PyData.strOk t = true ↔ ∀ c ∈ t.cps.toList, c < 0x110000 := by
  unfold PyData.strOk
  rw [Array.all_eq_true_iff_forall_mem]
  simp
theorem len_list (t : Str) : t.length = t.cps.toList.length := rfl
theorem fine_str {n : Nat} {t : Str} (h1 : t.length ≤ 100000) (h2 : ∀ c ∈ t.cps.toList, c < 0x110000) : fine n (.str t) = true := by
  have : sgOk (.str t) = true := by
    unfold sgOk
    simp [h1, strOk_all.mpr h2]
  cases n with
  | zero => exact this
  | succ n => exact this
theorem str_fine {n : Nat} {t : Str} (h : fine n (.str t) = true) : t.length ≤ 100000 ∧ ∀ c ∈ t.cps.toList, c < 0x110000 := by
  have : sgOk (.str t) = true := by
    cases n with
    | zero => exact h
    | succ n => exact h
  unfold sgOk at this
  simp only [Bool.and_eq_true, decide_eq_true_eq] at this
  exact ⟨this.1, strOk_all.mp this.2⟩
theorem mem_cutS {z : Str} {lo hi : Option Int} {c : Nat} (h : c ∈ (cutS z lo hi).cps.toList) : c ∈ z.cps.toList := by
  have h' : c ∈ ((z.cps.toList.drop (HT.sIx z.length 0 lo)).take (HT.sIx z.length z.length hi - HT.sIx z.length 0 lo)) := h
  exact List.mem_of_mem_drop (List.mem_of_mem_take h')
theorem mem_app {x y : Str} {c : Nat} (h : c ∈ (x ++ y).cps.toList) : c ∈ x.cps.toList ∨ c ∈ y.cps.toList := by
  have h' : c ∈ (x.cps ++ y.cps).toList := h
  rw [Array.toList_append] at h'
  exact List.mem_append.mp h'
theorem len_app (x y : Str) : (x ++ y).length = x.length + y.length := Str.length_append x y
end DS

namespace DS
open PySem L2 PySem.Spec PyProof.Rows
/-- a promise that asks for less -/
theorem fn_sem {P : Program} {w : World} {K : PySem.W.Frag} {mg : Str → Option Value} {base : Heap} {CX : CXT} {k : Nat} {f : Addr} {fd : FuncData} {ps : List Str} {cs : List Addr} {ms : List Md} {sem sem' : List D → Option Ou} (F : FnOk P w K mg base CX k f fd ps (spD K cs ms sem)) (h : ∀ ds o, sem' ds = some o → sem ds = some o) : FnOk P w K mg base CX k f fd ps (spD K cs ms sem') := by
  have im : ∀ vs H Q E, spD K cs ms sem' vs H Q E → spD K cs ms sem vs H Q E := fun vs H Q E ⟨Z, F, ds, o, h1, h2, h3, h4, h5, h6⟩ => ⟨Z, F, ds, o, h1, h2, h3, h4, h _ _ h5, h6⟩
  exact ⟨fun vs H Q E q => F.len _ _ _ _ (im _ _ _ _ q), fun A outer s H args us vs Q E hr e0 hb hv q => F.run A outer s H args us vs Q E hr e0 hb hv (im _ _ _ _ q)⟩
/-- a def's code object and its table, by what the view shows -/
theorem tab_is {K : PySem.W.Frag} {x : Str} {f c P : Addr} {oc oe : Value} {od oe2 : Option Addr} {fd : FuncData} {sl sl2 : Array (Option Value)} {vs : Array Value} (a : PySem.W.nsIn K mainGlobals x = some (some (.ref f))) (l : K.lookup f = some ⟨oc, od, .func fd, sl⟩) (hc : fd.code = .ref c)
    (g : K.lookup c = some ⟨oe, oe2, .fields vs, sl2⟩) (v : vs[11]? = some (.ref P)) : PySem.W.tabIn K x = some (c, P) := by
  unfold PySem.W.tabIn
  simp [a, l, hc, g, v]
/-- the law's walk, where some of its defs hold generator expressions: their tables are empty behind the head -/
theorem walk_tabs {l : PySem.W.OpenLaw} {n k : Nat} {q : Program} {loose : List Str} {XP : (Str → Option Value) → Heap → Prop} {YP : World → Heap → Prop} {d : DefRec} {K : Params → PySem.W.Frag} {CX : World → CXT} {x : Str} (xs : List Str)
    (hn : l.most = some n) (hn2 : n ≤ sizeLine) (hdf : d.params.defaults = []) (hr : Room k callerA) (hrec : xs.all (fun x => ((recsOf q).find? fun e => e.name == x).isSome) = true) (hY : ∀ (w : World) (h : Heap), YP w h → (K w.params).In h)
    (F : ∀ (w : World) (mg : Str → Option Value) (fa : Addr) (h : Heap), YP w h → (K w.params).In h → h.Ns mainGlobals mg → mg d.name = some (.ref fa) →
      (∀ x c P, x ∈ xs → PySem.W.tabIn (K w.params) x = some (c, P) → PySem.W.CodeHd h c P ∧ h.get? P = some { cls := .none, data := .fields #[] }) → LamX.LawAtS l w (K w.params) (CX w) k n x mg fa h)
    (hCX : ∀ (w : World) (H : Hp) (s : Shared) (e : Value) (s' : Shared), CX w [] H s (fun _ _ _ => False) e s' → False) :
    PySem.W.WalkO q loose XP YP l.row.toRowW d [] (fun f vs => PySem.call f vs) := by
  refine Att.attach_callB hn hdf fun w s₀ s₁ mg mb fa o pm cd doc a vs ns G Y ho hd hcd hmg hobj hints hlen hbits hg => ?_
  have KX := hY w _ Y
  obtain ⟨fd, cs, sp, hT, nT, C, hb, hsp, hF⟩ := F w mg fa _ Y KX G.T.g hmg (fun x c P hx ht => by
    obtain ⟨d', hd'⟩ := Option.isSome_iff_exists.mp (List.all_eq_true.mp hrec x hx)
    exact PySem.W.tab_of G.T KX hd' ht)
  exact LamX.law_callTs KX G.T.g G.T.b G.T.builtins G.T.nolimit hg hT nT C G.T.bmain hobj hints (Nat.le_trans hlen hn2) hr hF hb (fun H hH hS => hsp H a ns hlen hbits hH hS) fun H e s' => hCX w H s₁ e s'
end DS

namespace DS
open PySem L2

/-! ## dicts: keys and values told by data -/
def keyD : D → Option Key
  | .int i => some (.inl i)
  | .str x => some (.inr x)
  | _ => none
def flatD : D → Option V
  | .none => some .non
  | .bool b => some (.bl b)
  | .int i => some (.int i)
  | .str x => some (.str x)
  | _ => none
theorem keyD_k (k : Key) : keyD (kD k) = some k := by cases k <;> rfl
theorem keyD_some {d : D} {k : Key} (h : keyD d = some k) : d = kD k := by
  cases d with
  | int i => cases h; rfl
  | str x => cases h; rfl
  | _ => cases h
theorem flatD_s {v : V} (h : flat v = true) : flatD (sD v) = some v := by
  cases v with
  | non => rfl
  | bl b => rfl
  | int i => rfl
  | str x => rfl
  | _ => cases h
theorem flatD_some {d : D} {v : V} (h : flatD d = some v) : d = sD v ∧ flat v = true := by
  cases d with
  | none => cases h; exact ⟨rfl, rfl⟩
  | bool b => cases h; exact ⟨rfl, rfl⟩
  | int i => cases h; exact ⟨rfl, rfl⟩
  | str x => cases h; exact ⟨rfl, rfl⟩
  | _ => cases h
def decK : List (D × D) → Option (List (Key × V))
  | [] => some []
  | (a, b) :: r => (keyD a).bind fun k => (flatD b).bind fun v => (decK r).map ((k, v) :: ·)
theorem decK_en : ∀ {kvs : List (Key × V)}, (kvs.all fun p => flat p.2) = true → decK (kvs.map enK) = some kvs
  | [], _ => rfl
  | (k, v) :: r, h => by
    rw [List.all_cons, Bool.and_eq_true] at h
    have ih := decK_en h.2
    show (keyD (kD k)).bind _ = _
    rw [keyD_k]
    show (flatD (sD v)).bind _ = _
    rw [flatD_s h.1]
    show (decK (r.map enK)).map _ = _
    rw [ih]
    rfl
theorem decK_enT {kvs : List (List Key × V)} {r : List (Key × V)} (h : decK (kvs.map enT) = some r) : kvs = [] := by
  cases kvs with
  | nil => rfl
  | cons p q => cases h
/-- a dict with plain keys, seen -/
theorem Rep.dk {K : PySem.W.Frag} {cs : List Addr} {Z F H : Hp} {σ : L2.St} {ρ : Nv} {v : V} {es : List (D × D)} {kvs : List (Key × V)} (R : Rep K cs Z F H σ ρ) (h : Vw K F σ ρ v (.dict es)) (e : decK es = some kvs) :
    ∃ a, v = .ref a ∧ Rd H a (.dK kvs) ∧ (kvs.all fun p => flat p.2) = true := by
  have h' := R.all h
  cases h' with
  | dK r f =>
    rw [decK_en f] at e
    cases e
    exact ⟨_, rfl, r, f⟩
  | dT r f n => exact (n (decK_enT e)).elim
theorem rp_flat {K : PySem.W.Frag} {F : Hp} {v : V} (h : flat v = true) : Rp K F v (sD v) := by
  cases v with
  | non => exact .non
  | bl b => exact .bl b
  | int i => exact .int i
  | str x => exact .str x
  | _ => cases h
theorem vw_flat {K : PySem.W.Frag} {cs : List Addr} {Z F H : Hp} {σ : L2.St} {ρ : Nv} {v : V} {d : D} {w : V} (R : Rep K cs Z F H σ ρ) (h : Vw K F σ ρ v d) (e : flatD d = some w) : v = w := by
  have h' := R.all h
  cases h' with
  | non => cases e; rfl
  | bl b => cases e; rfl
  | int i => cases e; rfl
  | str x => cases e; rfl
  | _ => cases e
theorem vw_key {K : PySem.W.Frag} {cs : List Addr} {Z F H : Hp} {σ : L2.St} {ρ : Nv} {v : V} {d : D} {k : Key} (R : Rep K cs Z F H σ ρ) (h : Vw K F σ ρ v d) (e : keyD d = some k) : v = kV k := by
  have h' := R.all h
  cases h' with
  | int i => cases e; rfl
  | str x => cases e; rfl
  | _ => cases e
theorem flat_val {kvs : List (Key × V)} {k : Key} {v : V} (h : (kvs.all fun p => flat p.2) = true) (e : valV kvs k = some v) : flat v = true := by
  unfold valV at e
  obtain ⟨p, h1, rfl⟩ := Option.map_eq_some_iff.mp e
  exact List.all_eq_true.mp h p (List.mem_of_find?_eq_some h1)
/-- d[k] -/
def getKD (d k : D) : Option D := match d with
  | .dict es => (keyD k).bind fun k => (decK es).bind fun kvs => (valV kvs k).map sD
  | _ => none
/-- k in d -/
def inKD (k d : D) : Option D := match d with
  | .dict es => (keyD k).bind fun k => (decK es).map fun kvs => .bool (valV kvs k).isSome
  | _ => none
def ninKD (k d : D) : Option D := match d with
  | .dict es => (keyD k).bind fun k => (decK es).map fun kvs => .bool (!(valV kvs k).isSome)
  | _ => none
section
variable {cs : List Addr} {X : Cx} {a b : Expr} {pos : Pos} {fa fb : Nv → Option D}
theorem e_getK (hu : X.A.units + 65 < cLine) (ha : EW cs X a fa) (hb : EW cs X b fb) (hs : NoSl b) : EP' cs X (.Subscript a b pos) (op2 getKD fa fb) := ⟨pe_imp (pe_dget (by omega) ha.h hb.h hs) fun σ H Q ⟨Z, F, ρ, d, R, ef, q⟩ => by
  unfold op2 at ef
  obtain ⟨x, ea, ef⟩ := Option.bind_eq_some_iff.mp ef
  obtain ⟨y, eb, ef⟩ := Option.bind_eq_some_iff.mp ef
  refine ⟨Z, F, ρ, x, R, ea, fun v F1 H1 e1 R1 w1 => ⟨Z, F1, ρ, y, R1, eb, fun u F2 H2 e2 R2 w2 => ?_⟩⟩
  unfold getKD at ef
  split at ef
  · obtain ⟨k, h1, ef⟩ := Option.bind_eq_some_iff.mp ef
    obtain ⟨kvs, h2, ef⟩ := Option.bind_eq_some_iff.mp ef
    obtain ⟨z, h3, rfl⟩ := Option.map_eq_some_iff.mp ef
    obtain ⟨p, rfl, g1, g2⟩ := R2.dk (w1.ext e2) h2
    have gk := vw_key R2 w2 h1
    subst gk
    exact ⟨p, z, rfl, by rw [← h3]; exact .inl ⟨_, _, g1, rfl, rfl⟩, q z F2 H2 (e1.trans e2) R2 (rp_flat (flat_val g2 h3))⟩
  · cases ef⟩
theorem e_inK (hu : X.A.units + 65 < cLine) (ha : EW cs X a fa) (hb : EW cs X b fb) (hm : behindInMarks .In b = false) : EP' cs X (.Compare a [.In] [b] pos) (op2 inKD fa fb) := ⟨pe_imp (pe_cmp (pc_din (by omega) ha.h hb.h) hm) fun σ H Q ⟨Z, F, ρ, d, R, ef, q⟩ => by
  unfold op2 at ef
  obtain ⟨x, ea, ef⟩ := Option.bind_eq_some_iff.mp ef
  obtain ⟨y, eb, ef⟩ := Option.bind_eq_some_iff.mp ef
  refine ⟨Z, F, ρ, x, R, ea, fun v F1 H1 e1 R1 w1 => ⟨Z, F1, ρ, y, R1, eb, fun u F2 H2 e2 R2 w2 => ?_⟩⟩
  unfold inKD at ef
  split at ef
  · obtain ⟨k, h1, ef⟩ := Option.bind_eq_some_iff.mp ef
    obtain ⟨kvs, h2, rfl⟩ := Option.map_eq_some_iff.mp ef
    obtain ⟨p, rfl, g1, g2⟩ := R2.dk w2 h2
    have gk := vw_key R2 (w1.ext e2) h1
    subst gk
    exact ⟨p, _, rfl, .inl ⟨_, _, g1, rfl, rfl⟩, q _ F2 H2 (e1.trans e2) R2 (.bl _)⟩
  · cases ef⟩
theorem e_ninK (hu : X.A.units + 65 < cLine) (ha : EW cs X a fa) (hb : EW cs X b fb) (hm : behindInMarks .NotIn b = false) : EP' cs X (.Compare a [.NotIn] [b] pos) (op2 ninKD fa fb) := ⟨pe_imp (pe_cmp (pc_dnotin (by omega) ha.h hb.h) hm) fun σ H Q ⟨Z, F, ρ, d, R, ef, q⟩ => by
  unfold op2 at ef
  obtain ⟨x, ea, ef⟩ := Option.bind_eq_some_iff.mp ef
  obtain ⟨y, eb, ef⟩ := Option.bind_eq_some_iff.mp ef
  refine ⟨Z, F, ρ, x, R, ea, fun v F1 H1 e1 R1 w1 => ⟨Z, F1, ρ, y, R1, eb, fun u F2 H2 e2 R2 w2 => ?_⟩⟩
  unfold ninKD at ef
  split at ef
  · obtain ⟨k, h1, ef⟩ := Option.bind_eq_some_iff.mp ef
    obtain ⟨kvs, h2, rfl⟩ := Option.map_eq_some_iff.mp ef
    obtain ⟨p, rfl, g1, g2⟩ := R2.dk w2 h2
    have gk := vw_key R2 (w1.ext e2) h1
    subst gk
    exact ⟨p, _, rfl, .inl ⟨_, _, g1, rfl, rfl⟩, q _ F2 H2 (e1.trans e2) R2 (.bl _)⟩
  · cases ef⟩
theorem et_inK (hu : X.A.units + 65 < cLine) (ha : EW cs X a fa) (hb : EW cs X b fb) (hm : behindInMarks .In b = false) : ET cs X (.Compare a [.In] [b] pos) (opT inKD fa fb) := ⟨pt_imp (pt_cmp (pc_din (by omega) ha.h hb.h) hm) fun σ H Q ⟨Z, F, ρ, k0, R, ef, q⟩ => by
  unfold opT op2 at ef
  obtain ⟨r0, ef, er⟩ := Option.bind_eq_some_iff.mp ef
  obtain ⟨x, ea, ef⟩ := Option.bind_eq_some_iff.mp ef
  obtain ⟨y, eb, ef⟩ := Option.bind_eq_some_iff.mp ef
  refine ⟨Z, F, ρ, x, R, ea, fun v F1 H1 e1 R1 w1 => ⟨Z, F1, ρ, y, R1, eb, fun u F2 H2 e2 R2 w2 => ?_⟩⟩
  unfold inKD at ef
  split at ef
  · obtain ⟨k, h1, ef⟩ := Option.bind_eq_some_iff.mp ef
    obtain ⟨kvs, h2, rfl⟩ := Option.map_eq_some_iff.mp ef
    obtain ⟨p, rfl, g1, g2⟩ := R2.dk w2 h2
    have gk := vw_key R2 (w1.ext e2) h1
    subst gk
    cases er
    exact ⟨p, _, rfl, .inl ⟨_, _, g1, rfl, rfl⟩, _, rfl, q F2 H2 (e1.trans e2) R2⟩
  · cases ef⟩
theorem et_ninK (hu : X.A.units + 65 < cLine) (ha : EW cs X a fa) (hb : EW cs X b fb) (hm : behindInMarks .NotIn b = false) : ET cs X (.Compare a [.NotIn] [b] pos) (opT ninKD fa fb) := ⟨pt_imp (pt_cmp (pc_dnotin (by omega) ha.h hb.h) hm) fun σ H Q ⟨Z, F, ρ, k0, R, ef, q⟩ => by
  unfold opT op2 at ef
  obtain ⟨r0, ef, er⟩ := Option.bind_eq_some_iff.mp ef
  obtain ⟨x, ea, ef⟩ := Option.bind_eq_some_iff.mp ef
  obtain ⟨y, eb, ef⟩ := Option.bind_eq_some_iff.mp ef
  refine ⟨Z, F, ρ, x, R, ea, fun v F1 H1 e1 R1 w1 => ⟨Z, F1, ρ, y, R1, eb, fun u F2 H2 e2 R2 w2 => ?_⟩⟩
  unfold ninKD at ef
  split at ef
  · obtain ⟨k, h1, ef⟩ := Option.bind_eq_some_iff.mp ef
    obtain ⟨kvs, h2, rfl⟩ := Option.map_eq_some_iff.mp ef
    obtain ⟨p, rfl, g1, g2⟩ := R2.dk w2 h2
    have gk := vw_key R2 (w1.ext e2) h1
    subst gk
    cases er
    exact ⟨p, _, rfl, .inl ⟨_, _, g1, rfl, rfl⟩, _, rfl, q F2 H2 (e1.trans e2) R2⟩
  · cases ef⟩
/-- {} -/
theorem e_dnew : EN cs X (.Dict [] [] pos) (fun _ => some (.dict [])) := ⟨pe_imp pe_dnewK fun σ H Q ⟨Z, F, ρ, d, R, ef, q⟩ p hp => by
  cases ef
  obtain ⟨R1, fp, zp, mp⟩ := R.made (o := .dK []) hp
  exact q p F _ (Ext.refl F) R1 fp zp mp (.inl ⟨[], upd_same, rfl, rfl⟩)⟩
/-- list(d) -/
def listKD : List D → Option D
  | [.dict es] => (decK es).map fun kvs => .list (kvs.map fun kv => kD kv.1)
  | _ => none
theorem rp_key {K : PySem.W.Frag} {F : Hp} (k : Key) : Rp K F (kV k) (kD k) := by
  cases k with
  | inl i => exact .int i
  | inr x => exact .str x
theorem rps_keys {K : PySem.W.Frag} {F : Hp} : ∀ kvs : List (Key × V), Rps K F (kvs.map fun kv => kV kv.1) (kvs.map fun kv => kD kv.1)
  | [] => .nil
  | p :: r => .cons (rp_key p.1) (rps_keys r)
/-- list(d), d perhaps locked -/
theorem list_rd (hc : X.calm = true) : CallR X (.type "list") (fun xs H Q => ∃ p kvs, xs = [V.ref p] ∧ Rd H p (.dK kvs) ∧ ∀ l, H l = none → Q (.ref l) (upd H l (.lst (kvs.map fun kv => kV kv.1)))) := by
  rintro pins s σ H xs us Q I r ⟨p, kvs, rfl, hk, q⟩
  obtain ⟨u0, rfl, r0⟩ := r.one
  cases r0
  obtain ⟨len, low, ws, kv, dict⟩ := dk_rd I.hok hk
  obtain ⟨n, place⟩ := dict.dictAt
  have same : kvs.length = ws.length := Paired.length kv
  have size : (kvs.map fun x => kV x.1).length ≤ sizeLine := by
    rw [List.length_map]
    exact len
  refine PySem.W.kdl_call (PySem.W.kdl_dict (knd := mixKind X.prog X.w) (ep := n) low) (I.ok.hd hc) place (by omega) fun hp tk its cap stay made got => ?_
  have vals : Vals (kvs.map fun x => kV x.1) its.toList := by
    refine vals_of_at (by have h1 := got.1; have h2 : its.toList.length = its.size := Array.length_toList; rw [List.length_map]; omega) fun i y z hy hz => ?_
    obtain ⟨key, val, at_, is_⟩ := got.2 i z (by rw [← Array.getElem?_toList]; exact hz)
    have first : (kvs.map Prod.fst)[i]? = some key := by
      have := KV.keys kv
      rw [this, List.getElem?_map, at_]
      rfl
    rw [List.getElem?_map] at first hy
    obtain ⟨pair, g1, g2⟩ := Option.map_eq_some_iff.mp first
    rw [g1] at hy
    cases hy
    show RelV (kV pair.1) z
    rw [g2]
    exact keyIs_rel is_
  exact ⟨.ref s.heap.objs.size, upd H s.heap.objs.size (.lst (kvs.map fun x => kV x.1)), I.laid stay (Nat.le_refl _) ⟨size, its.toList, cap, vals, by rw [Array.toArray_toList]; exact made⟩, rfl, q _ (I.hok.fresh (Nat.le_refl _))⟩
theorem cn_listK (hc : X.calm = true) : CallR X (.type "list") (rNs X.K cs listKD) := by
  rintro pins s σ H xs us Q I r ⟨Z, F, σ', ρ, ds, d, R, w, e, q⟩
  unfold listKD at e
  split at e
  · obtain ⟨kvs, e1, rfl⟩ := Option.map_eq_some_iff.mp e
    obtain ⟨v, rfl, w1⟩ := vws1 w
    obtain ⟨a, rfl, h1, h2⟩ := R.dk w1 e1
    refine list_rd hc pins s σ H _ us Q I r ⟨a, kvs, rfl, h1, fun l hl => ?_⟩
    obtain ⟨R4, fp, zp, mp⟩ := R.made (o := .lst (kvs.map fun kv => kV kv.1)) hl
    exact q l F _ (Ext.refl F) R4 fp zp mp ⟨_, upd_same, rps_keys kvs⟩
  · cases e
end

/-! ## what a frame's own things become -/
def Cell.put : Cell → D → Cell
  | .sh _, d => .sh d
  | .ow _, d => .ow d
  | .io a _, d => .io a d
theorem Cell.put_mine {c : Cell} {d : D} : (c.put d).mine = c.mine := by cases c <;> rfl
theorem Cell.put_got {c : Cell} {d : D} : (c.put d).got = d := by cases c <;> rfl
section
variable {K : PySem.W.Frag} {cs : List Addr} {Z F H : Hp} {σ : L2.St} {ρ : Nv} {c : Cell} {d : D} {a : Addr} {i : Nat} {o : HO}
theorem Rep.mut (R : Rep K cs Z F H σ ρ) (h1 : ρ[i]? = some (some c)) (h2 : c.mine = true) (h3 : σ[i]? = some (some (.ref a))) (ow : Own K F (upd H a o) a d) : Rep K cs Z F (upd H a o) σ (ρ.set i (some (c.put d))) := by
  obtain ⟨a', e', fa, za, _⟩ := R.mine i c h1 h2
  rw [h3] at e'
  cases e'
  have hl : i < ρ.length := (List.getElem?_eq_some_iff.mp h1).1
  have hset : ∀ {j : Nat} {e : Cell}, (ρ.set i (some (c.put d)))[j]? = some (some e) → (j = i ∧ e = c.put d) ∨ (j ≠ i ∧ ρ[j]? = some (some e)) := fun {j e} h => by
    by_cases hj : j = i
    · subst hj
      rw [List.getElem?_set_self hl] at h
      cases h
      exact .inl ⟨rfl, rfl⟩
    · rw [List.getElem?_set_ne (Ne.symm hj)] at h
      exact .inr ⟨hj, h⟩
  refine ⟨by rw [List.length_set]; exact R.len, fun b u e => ?_, fun b u e => ?_, fun j e g1 g2 => ?_, fun j e g1 => ?_, fun j k c1 c2 b g1 g2 g3 g4 g5 g6 => ?_, fun j b e g1 => ?_, R.tab⟩
  · rw [upd_ne (ne_of_none e fa)]
    exact R.fh b u e
  · obtain ⟨q1, q2⟩ := R.zh b u e
    rw [upd_ne (ne_of_none e za)]
    exact ⟨q1, q2⟩
  · rcases hset g1 with ⟨rfl, rfl⟩ | ⟨hj, g⟩
    · exact ⟨a, h3, fa, za, by rw [Cell.put_got]; exact ow⟩
    · obtain ⟨b, q1, q2, q3, q4⟩ := R.mine j e g g2
      have hne : b ≠ a := fun z => hj (R.inj j i e c a g g2 h1 h2 (by rw [← z]; exact q1) h3)
      exact ⟨b, q1, q2, q3, q4.ext (Ext.refl F) (upd_ne hne)⟩
  · rcases hset g1 with ⟨rfl, e2⟩ | ⟨hj, g⟩
    · cases c with
      | sh _ => cases h2
      | ow _ => cases e2
      | io _ _ => cases e2
    · exact R.sh j e g
  · have f1 : ∃ c1', ρ[j]? = some (some c1') ∧ c1'.mine = true := by
      rcases hset g1 with ⟨rfl, rfl⟩ | ⟨_, g⟩
      · exact ⟨c, h1, h2⟩
      · exact ⟨c1, g, g2⟩
    have f2 : ∃ c2', ρ[k]? = some (some c2') ∧ c2'.mine = true := by
      rcases hset g3 with ⟨rfl, rfl⟩ | ⟨_, g⟩
      · exact ⟨c, h1, h2⟩
      · exact ⟨c2, g, g4⟩
    obtain ⟨d1, x1, y1⟩ := f1
    obtain ⟨d2, x2, y2⟩ := f2
    exact R.inj j k d1 d2 b x1 y1 x2 y2 g5 g6
  · rcases hset g1 with ⟨rfl, e2⟩ | ⟨hj, g⟩
    · cases c with
      | sh _ => cases h2
      | ow _ => cases e2
      | io _ _ =>
        cases e2
        exact R.io j _ _ h1
    · exact R.io j b e g
end
/-- a change of what slot i names -/
def mutS (i : Nat) (op : D → Option D) : Nv → Option SR := fun ρ => match ρ[i]? with
  | some (some c) => if c.mine = true then (op c.got).map fun d => .nx (ρ.set i (some (c.put d))) else none
  | _ => none
def appD (x : D) : D → Option D
  | .list xs => if xs.length < 100000 then some (.list (xs ++ [x])) else none
  | _ => none
def revD : D → Option D
  | .list xs => some (.list xs.reverse)
  | _ => none
def appS (i : Nat) (fa : Nv → Option D) : Nv → Option SR := fun ρ => (fa ρ).bind fun x => mutS i (appD x) ρ
/-- d[k] = v on data -/
def putD (k v : D) : D → Option D
  | .dict es => (keyD k).bind fun k => (flatD v).bind fun v => (decK es).bind fun kvs => if kvs.length < 100000 then some (.dict ((putK kvs k v).map enK)) else none
  | _ => none
def putS (i : Nat) (fk fv : Nv → Option D) : Nv → Option SR := fun ρ => (fv ρ).bind fun v => (fk ρ).bind fun k => mutS i (putD k v) ρ
section
variable {cs : List Addr} {X : Cx} {E : XK} {e k : Expr} {x : Str} {p pos apos cpos : Pos} {i : Nat} {fa fk : Nv → Option D}
theorem mutS_some {op : D → Option D} {ρ : Nv} {r : SR} (h : mutS i op ρ = some r) : ∃ c d, ρ[i]? = some (some c) ∧ c.mine = true ∧ op c.got = some d ∧ r = .nx (ρ.set i (some (c.put d))) := by
  unfold mutS at h
  split at h
  · rename_i c hc
    split at h
    · rename_i hm
      obtain ⟨d, h1, rfl⟩ := Option.map_eq_some_iff.mp h
      exact ⟨c, d, hc, hm, h1, rfl⟩
    · cases h
  · cases h
/-- xs.append(e) -/
theorem sd_app (h : PE X (.Name x p) (tVar i)) (ha : EP' cs X e fa) (hbase : attributeBase (.Name x p) "append" X.env (eval (.Name x p) X.env) = eval (.Name x p) X.env := by rfl)
    (hfew : ((backTo cpos (starEach [e] X.env)).all (fun x => !x.1) && (backToKw cpos (keywordEach [] X.env)).all (fun x => x.1.isSome)
      && decide (([e] : List Expr).length + ([] : List Keyword).length + (if ([] : List Keyword).isEmpty then 0 else 1) < 30)) = true := by rfl)
    (hline : (apos.endLine == cpos.line) = true := by rfl) (hs : starEach [e] X.env = (false, eval e X.env) :: starEach [] X.env := by rfl) (hplain : (backTo cpos (starEach [] X.env)).any (·.1) = false := by rfl)
    (hsw : swapsWith (.Call (.Attribute (.Name x p) "append" apos) [e] [] cpos) none pos.line X.env = pure false := by rfl) :
    SD cs X E (.Expr (.Call (.Attribute (.Name x p) "append" apos) [e] [] cpos) pos) (appS i fa) :=
  ⟨ps_imp (ps_expr (pe_bm PySem.F.plainAttrs_list PySem.F.slot_list_append PySem.F.type_list_append mt_append h (pa_cons ha.h pa_nil hs) hbase hfew hline hs hplain) hsw) fun D σ H ⟨Z, F, ρ, r, R, ef, w⟩ => by
  obtain ⟨y, e1, e2⟩ := Option.bind_eq_some_iff.mp ef
  obtain ⟨c, d, hc, hm, e3, rfl⟩ := mutS_some e2
  obtain ⟨a, h1, fa0, za, ow⟩ := R.mine i c hc hm
  unfold appD at e3
  split at e3
  · rename_i xs hg
    split at e3
    · rename_i hlen
      cases e3
      rw [hg] at ow
      obtain ⟨vs, g1, g2⟩ := ow
      refine ⟨.ref a, h1, .inl ⟨rfl, vs, .inl (.inl g1)⟩, Z, F, ρ, y, R, e1, fun v F1 H1 x1 R1 r1 => ?_⟩
      obtain ⟨a', h1', _, _, ow'⟩ := R1.mine i c hc hm
      rw [h1] at h1'
      cases h1'
      rw [hg] at ow'
      obtain ⟨vs', g1', g2'⟩ := ow'
      have hz : vs'.length < sizeLine := by
        rw [g2'.len]
        have : (100000 : Nat) ≤ sizeLine := by decide
        omega
      exact ⟨a, vs', v, rfl, rfl, g1', hz, w σ F1 _ rfl x1 (R1.mut hc hm h1 ⟨_, upd_same, g2'.app (.cons r1 .nil)⟩)⟩
    · cases e3
  · cases e3⟩
/-- xs.reverse() -/
theorem sd_rev (h : PE X (.Name x p) (tVar i)) (hbase : attributeBase (.Name x p) "reverse" X.env (eval (.Name x p) X.env) = eval (.Name x p) X.env := by rfl) (hline : (apos.endLine == cpos.line) = true := by rfl)
    (hsw : swapsWith (.Call (.Attribute (.Name x p) "reverse" apos) [] [] cpos) none pos.line X.env = pure false := by rfl) :
    SD cs X E (.Expr (.Call (.Attribute (.Name x p) "reverse" apos) [] [] cpos) pos) (mutS i revD) :=
  ⟨ps_imp (ps_expr (pe_bm0 PySem.F.plainAttrs_list PySem.F.slot_list_reverse PySem.F.type_list_reverse mt_reverse h hbase hline) hsw) fun D σ H ⟨Z, F, ρ, r, R, ef, w⟩ => by
  obtain ⟨c, d, hc, hm, e3, rfl⟩ := mutS_some ef
  obtain ⟨a, h1, fa0, za, ow⟩ := R.mine i c hc hm
  unfold revD at e3
  split at e3
  · rename_i xs hg
    cases e3
    rw [hg] at ow
    obtain ⟨vs, g1, g2⟩ := ow
    exact ⟨.ref a, h1, .inl ⟨rfl, vs, .inl (.inl g1)⟩, a, vs, rfl, rfl, g1, w σ F _ rfl (Ext.refl F) (R.mut hc hm h1 ⟨_, upd_same, g2.rev⟩)⟩
  · cases e3⟩
/-- d[k] = v, d this frame's own or lent -/
theorem sd_put {spos : Pos} (hu : X.A.units + 65 < cLine) (h : PE X (.Name x p) (tVar i)) (hk : EW cs X k fk) (hv : EP' cs X e fa) (hs : swapsWith e (some (.Subscript (.Name x p) k spos)) pos.line X.env = pure false := by rfl) :
    SD cs X E (.Assign [.Subscript (.Name x p) k spos] e pos) (putS i fk fa) :=
  ⟨ps_imp (ps_dput (by omega) h hk.h hv.h hs) fun D σ H ⟨Z, F, ρ, r, R, ef, w⟩ => by
  obtain ⟨y, e1, e2⟩ := Option.bind_eq_some_iff.mp ef
  obtain ⟨z, e3, e4⟩ := Option.bind_eq_some_iff.mp e2
  obtain ⟨c, d, hc, hm, e5, rfl⟩ := mutS_some e4
  refine ⟨Z, F, ρ, y, R, e1, fun v F1 H1 x1 R1 r1 => ?_⟩
  obtain ⟨a, h1, fa0, za, _⟩ := R1.mine i c hc hm
  refine ⟨.ref a, h1, Z, F1, ρ, z, R1, e3, fun u F2 H2 x2 R2 w2 => ?_⟩
  obtain ⟨a', h1', _, _, ow⟩ := R2.mine i c hc hm
  rw [h1] at h1'
  cases h1'
  unfold putD at e5
  split at e5
  · rename_i es hg
    obtain ⟨k', q1, e5⟩ := Option.bind_eq_some_iff.mp e5
    obtain ⟨v', q2, e5⟩ := Option.bind_eq_some_iff.mp e5
    obtain ⟨kvs, q3, e5⟩ := Option.bind_eq_some_iff.mp e5
    split at e5
    · rename_i hlen
      cases e5
      have gk := vw_key R2 w2 q1
      subst gk
      have gv := vw_flat R1 (.inl r1) q2
      subst gv
      obtain ⟨_, fv⟩ := flatD_some q2
      rw [hg] at ow
      rcases ow with ⟨kvs', g1, g2, g3⟩ | ⟨kvs', g1, g2, g3, g4⟩
      · rw [g3, decK_en g2] at q3
        cases q3
        have hz : kvs.length < sizeLine := by
          have : (100000 : Nat) ≤ sizeLine := by decide
          omega
        refine ⟨a, _, rfl, .inl ⟨kvs, k', g1, rfl, hz, rfl⟩, w σ F2 _ rfl (x1.trans x2) (R2.mut hc hm h1 (.inl ⟨_, upd_same, ?_, rfl⟩))⟩
        rw [List.all_eq_true]
        intro q hq
        unfold putK at hq
        split at hq
        · obtain ⟨q0, hq0, rfl⟩ := List.mem_map.mp hq
          split
          · exact fv
          · exact List.all_eq_true.mp g2 _ hq0
        · rcases List.mem_append.mp hq with hq | hq
          · exact List.all_eq_true.mp g2 _ hq
          · rcases List.mem_cons.mp hq with rfl | hq
            · exact fv
            · cases hq
      · rw [g3] at q3
        exact (g4 (decK_enT q3)).elim
    · cases e5
  · cases e5⟩
/-- a name's own list or dict, shared from now on -/
def shrS (i : Nat) : Nv → Option Nv := fun ρ => match ρ[i]? with
  | some (some (.ow d)) => some (ρ.set i (some (.sh d)))
  | some (some (.sh _)) => some ρ
  | _ => none
theorem sd_share {st : Stmt} {g : Nv → Option SR} (i : Nat) (h : SD cs X E st g) : SD cs X E st (fun ρ => (shrS i ρ).bind g) := ⟨ps_imp h.h fun D σ H ⟨Z, F, ρ, r, R, ef, w⟩ => by
  obtain ⟨ρ', e1, e2⟩ := Option.bind_eq_some_iff.mp ef
  unfold shrS at e1
  split at e1
  · rename_i d hd
    cases e1
    obtain ⟨a, h1, fa0, za, ow⟩ := R.mine i _ hd rfl
    obtain ⟨o, g1, g2⟩ := ow.rp
    have RD : Rep X.K cs Z F H σ (ρ.set i none) := by
      have := R.drop i (some (.ref a))
      have es : σ.set i (some (.ref a)) = σ := by
        refine List.ext_getElem? fun j => ?_
        by_cases hj : j = i
        · subst hj
          rw [List.getElem?_set_self (by rw [List.getElem?_eq_some_iff] at h1; exact h1.1), h1]
        · rw [List.getElem?_set_ne (Ne.symm hj)]
      rw [es] at this
      exact this
    have nm : ¬ Mine σ (ρ.set i none) a := fun ⟨j, c, q1, q2, q3⟩ => by
      by_cases hj : j = i
      · subst hj
        by_cases hl : j < ρ.length
        · rw [List.getElem?_set_self hl] at q1
          cases q1
        · rw [List.getElem?_eq_none (by rw [List.length_set]; omega)] at q1
          cases q1
      · rw [List.getElem?_set_ne (Ne.symm hj)] at q1
        exact hj (R.inj j i c _ a q1 q2 hd rfl q3 h1)
    have RG := RD.give g1 fa0 za nm
    have RS := RG.setSh i (g2 _ (Ext.upd fa0) upd_same)
    rw [List.set_set] at RS
    have es : σ.set i (some (.ref a)) = σ := by
      refine List.ext_getElem? fun j => ?_
      by_cases hj : j = i
      · subst hj
        rw [List.getElem?_set_self (by rw [List.getElem?_eq_some_iff] at h1; exact h1.1), h1]
      · rw [List.getElem?_set_ne (Ne.symm hj)]
    rw [es] at RS
    exact ⟨Z, _, _, r, RS, e2, w.ext (Ext.upd fa0)⟩
  · cases e1
    exact ⟨Z, F, _, r, R, e2, w⟩
  · cases e1⟩
end
end DS

namespace DS
open PySem L2

/-! ## targets that are tuples -/
section
variable {cs : List Addr} {X : Cx} {E : XK} {e a b tg : Expr} {pos : Pos} {fa fb : Nv → Option D} {ga : D → Nv → Option Nv} {fr : Nv → Option (List D)}
theorem sd_asgT (he : EP' cs X e fa) (hg : GD cs X tg ga) (hs : swapsWithSole [tg] e pos.line X.env = pure false := by rfl) (hw : swappedStores [tg] e X.env = pure none := by rfl)
    (h1 : (assignEach [tg] X.env).map (·.2) = [assign tg X.env] := by rfl) : SD cs X E (.Assign [tg] e pos) (fun ρ => (fa ρ).bind fun d => (ga d ρ).map .nx) := ⟨ps_imp (ps_asg he.h hg.h hs hw h1) fun D σ H ⟨Z, F, ρ, r, R, ef, w⟩ => by
  obtain ⟨d, e1, e2⟩ := Option.bind_eq_some_iff.mp ef
  obtain ⟨ρ', e3, rfl⟩ := Option.map_eq_some_iff.mp e2
  exact ⟨Z, F, ρ, d, R, e1, fun v F1 H1 x1 R1 r1 => ⟨Z, F1, ρ, d, ρ', R1, r1, e3, fun σ' F2 H2 l2 x2 R2 => w σ' F2 H2 l2 (x1.trans x2) R2⟩⟩⟩
/-- a, b = x, y -/
def parS (i j : Nat) (fr : Nv → Option (List D)) : Nv → Option SR := fun ρ => (fr ρ).bind fun ds => match ds with
  | [x, y] => some (.nx ((ρ.set i (some (.sh x))).set j (some (.sh y))))
  | _ => none
theorem sd_par {i j : Nat} {x y : Str} {px py pt : Pos} {kt k2 : Nat} {pt2 : Pos} (hc : X.calm = true) (hN : X.N.Nodup) (hi : X.N[i]? = some x) (hj : X.N[j]? = some y) (hij : i ≠ j)
    (hx : X.env.scope.names.lookup x = some .local) (hy : X.env.scope.names.lookup y = some .local) (ha : EPs cs X [a, b] fr)
    (hw : swappedStores [.Tuple [.Name x px, .Name y py] kt pt] (.Tuple [a, b] k2 pt2) X.env = pure (some [x, y]) := by rfl)
    (hs : swapsWithSole [.Tuple [.Name x px, .Name y py] kt pt] (.Tuple [a, b] k2 pt2) pos.line X.env = pure false := by rfl) :
    SD cs X E (.Assign [.Tuple [.Name x px, .Name y py] kt pt] (.Tuple [a, b] k2 pt2) pos) (parS i j fr) := ⟨ps_imp (ps_par hc hN hi hj hij hx hy ha.h hw hs) fun D σ H ⟨Z, F, ρ, r, R, ef, w⟩ => by
  obtain ⟨ds, e1, e2⟩ := Option.bind_eq_some_iff.mp ef
  split at e2
  · rename_i d1 d2
    cases e2
    refine ⟨Z, F, ρ, _, R, e1, fun vs F1 H1 x1 R1 r1 => ?_⟩
    match vs, r1 with
    | [v, u], .cons r1 (.cons r2 .nil) => exact ⟨v, u, rfl, w _ F1 H1 (by rw [List.length_set, List.length_set]) x1 ((R1.setSh i r1).setSh j r2)⟩
  · cases e2⟩
end

/-! ## min of a list -/
def intsD : List D → Option (List Int)
  | [] => some []
  | .int i :: r => (intsD r).map (i :: ·)
  | _ => none
def leastD : List Int → Option Int
  | [] => none
  | i :: r => some (r.foldl (fun a b => if b < a then b else a) i)
def minD : List D → Option D
  | [.list xs] => (intsD xs).bind fun ns => (leastD ns).map .int
  | _ => none
theorem intsD_rps {K : PySem.W.Frag} {F : Hp} : ∀ {vs : List V} {ds : List D} {ns : List Int}, Rps K F vs ds → intsD ds = some ns → vs = ns.map V.int
  | [], [], ns, .nil, h => by cases h; rfl
  | v :: vs, d :: ds, ns, .cons a b, h => by
    cases d with
    | int i =>
      obtain ⟨r, h1, rfl⟩ := Option.map_eq_some_iff.mp h
      cases a
      rw [intsD_rps b h1]
      rfl
    | _ => cases h
theorem fold_least : ∀ (r : List Int) (i : Int), let m := r.foldl (fun a b => if b < a then b else a) i; (m = i ∨ m ∈ r) ∧ m ≤ i ∧ ∀ y ∈ r, m ≤ y
  | [], i => ⟨.inl rfl, Int.le_refl i, fun y h => by cases h⟩
  | b :: r, i => by
    have ih := fold_least r (if b < i then b else i)
    dsimp only at ih ⊢
    rw [List.foldl_cons]
    generalize hm : r.foldl (fun a b => if b < a then b else a) (if b < i then b else i) = m at ih
    obtain ⟨h1, h2, h3⟩ := ih
    have hb : (if b < i then b else i) ≤ b ∧ (if b < i then b else i) ≤ i := by split <;> omega
    refine ⟨?_, by omega, fun y hy => ?_⟩
    · rcases h1 with h1 | h1
      · by_cases hlt : b < i
        · rw [if_pos hlt] at h1
          exact .inr (by rw [h1]; exact List.mem_cons_self)
        · rw [if_neg hlt] at h1
          exact .inl h1
      · exact .inr (List.mem_cons_of_mem _ h1)
    · rcases List.mem_cons.mp hy with rfl | hy
      · omega
      · exact h3 y hy
theorem leastD_is {ns : List Int} {m : Int} (h : leastD ns = some m) : m ∈ ns ∧ ∀ y ∈ ns, m ≤ y := by
  cases ns with
  | nil => cases h
  | cons i r =>
    have q := fold_least r i
    cases h
    obtain ⟨h1, h2, h3⟩ := q
    refine ⟨?_, fun y hy => ?_⟩
    · rcases h1 with h1 | h1
      · rw [h1]
        exact List.mem_cons_self
      · exact List.mem_cons_of_mem _ h1
    · rcases List.mem_cons.mp hy with rfl | hy
      · exact h2
      · exact h3 y hy
theorem least_uniq {ns : List Int} {m m' : Int} (h1 : m ∈ ns) (h2 : ∀ y ∈ ns, m ≤ y) (h3 : m' ∈ ns) (h4 : ∀ y ∈ ns, m' ≤ y) : m = m' := by
  have := h2 m' h3
  have := h4 m h1
  omega
theorem cd_min {cs : List Addr} {X : Cx} (hc : X.calm = true) : CallR X (.builtin "min") (rDs X.K cs minD) := by
  rintro pins s σ H xs us Q I r ⟨Z, F, σ', ρ, ds, d, R, w, e, q⟩
  unfold minD at e
  split at e
  · obtain ⟨ns, e1, e2⟩ := Option.bind_eq_some_iff.mp e
    obtain ⟨m, e3, rfl⟩ := Option.map_eq_some_iff.mp e2
    obtain ⟨v, rfl, w1⟩ := vws1 w
    obtain ⟨a, vs, rfl, s1, r1⟩ := R.lst w1
    have hv := intsD_rps r1 e1
    subst hv
    obtain ⟨g1, g2⟩ := leastD_is e3
    refine cr_min hc pins s σ H _ us Q I r ⟨a, ns, rfl, s1, List.length_pos_of_mem g1, fun m' h1 h2 => ?_⟩
    have := least_uniq h1 h2 g1 g2
    subst this
    exact q _ F H (Ext.refl F) R (.int _)
  · cases e
def enumV (ds : List D) : Option (List D) := match ds with
  | [.list xs] => some (enumD xs)
  | _ => none

/-! ## while, as long as it lasts -/
theorem whileS_up {t : Nv → Option Bool} {g : Nv → Option SR} : ∀ {n : Nat} {ρ : Nv} {r : SR}, whileS t g n ρ = some r → ∀ m, n ≤ m → whileS t g m ρ = some r
  | 0, _, _, h, _, _ => by cases h
  | n + 1, ρ, r, h, 0, hm => by omega
  | n + 1, ρ, r, h, m + 1, hm => by
    rw [whileS] at h ⊢
    obtain ⟨k, e1, e2⟩ := Option.bind_eq_some_iff.mp h
    rw [e1]
    show (if k = true then _ else _) = _
    by_cases hk : k = true
    · rw [if_pos hk] at e2 ⊢
      obtain ⟨r1, e3, e4⟩ := Option.bind_eq_some_iff.mp e2
      rw [e3]
      cases r1 with
      | nx ρ' => exact whileS_up (n := n) e4 m (by omega)
      | ct ρ' => exact whileS_up (n := n) e4 m (by omega)
      | bk ρ' => exact e4
      | rt d o ρ' => exact e4
      | exc c => exact e4
    · rw [if_neg hk] at e2 ⊢
      exact e2
open Classical in
noncomputable def fuelC (t : Nv → Option Bool) (g : Nv → Option SR) (ρ : Nv) : Nat := if h : ∃ n r, whileS t g n ρ = some r then Classical.choose h else 0
noncomputable def whileC (t : Nv → Option Bool) (g : Nv → Option SR) : Nv → Option SR := fun ρ => whileS t g (fuelC t g ρ) ρ
theorem whileC_is {t : Nv → Option Bool} {g : Nv → Option SR} {n : Nat} {ρ : Nv} {r : SR} (h : whileS t g n ρ = some r) : whileC t g ρ = some r := by
  have hx : ∃ n r, whileS t g n ρ = some r := ⟨n, r, h⟩
  obtain ⟨r', h'⟩ := Classical.choose_spec hx
  unfold whileC fuelC
  rw [dif_pos hx]
  rw [h']
  have a1 := whileS_up h (max n (Classical.choose hx)) (Nat.le_max_left _ _)
  have a2 := whileS_up h' (max n (Classical.choose hx)) (Nat.le_max_right _ _)
  rw [a1] at a2
  exact a2.symm

/-! ## dict comprehensions with plain keys -/
def dcD (i : Nat) (t : Nv → Option Bool) (fk fv : Nv → Option D) (ρ : Nv) : List D → List (Key × V) → Option (List (Key × V))
  | [], acc => some acc
  | x :: xs, acc => (t (ρ.set i (some (.sh x)))).bind fun b => if b = true then (fk (ρ.set i (some (.sh x)))).bind fun y => (keyD y).bind fun k => (fv (ρ.set i (some (.sh x)))).bind fun z => (flatD z).bind fun v => dcD i t fk fv ρ xs (putK acc k v) else dcD i t fk fv ρ xs acc
def dcV (i : Nat) (f : Nv → Option (List D)) (t : Nv → Option Bool) (fk fv : Nv → Option D) : Nv → Option D := fun ρ => (f ρ).bind fun ds => if noMine ρ i = true ∧ ds.length ≤ 100000 then (dcD i t fk fv ρ ds []).map fun kvs => .dict (kvs.map enK) else none
theorem flat_put {kvs : List (Key × V)} {k : Key} {v : V} (h : (kvs.all fun p => flat p.2) = true) (hv : flat v = true) : ((putK kvs k v).all fun p => flat p.2) = true := by
  rw [List.all_eq_true] at h ⊢
  intro q hq
  unfold putK at hq
  split at hq
  · obtain ⟨q0, hq0, rfl⟩ := List.mem_map.mp hq
    split
    · exact hv
    · exact h _ hq0
  · rcases List.mem_append.mp hq with hq | hq
    · exact h _ hq
    · rcases List.mem_cons.mp hq with rfl | hq
      · exact hv
      · cases hq
section
variable {cs : List Addr} {X : Cx} {kx vx iter : Expr} {ifs : List Expr} {scope : Scope} {x : Str} {i : Nat} {px pos : Pos} {f : Nv → Option (List D)} {t : Nv → Option Bool} {fk fv : Nv → Option D}
theorem e_dc (hc : X.calm = true) (hN : X.N.Nodup) (hix : X.N[i]? = some x) (hi : EI cs X SetP (.Name x px) iter f) (ok : BlkOk X.N X.env.scope scope [(x, i)])
    (hl : ∀ (s : Shared) (H : Hp) (C : Addr) (cl : List (Str × Addr)) (fp : List Addr), (X.blk s H scope (compEnvC scope cl C X.env) fp).env.scope.names.lookup x = some .local)
    (ht : ∀ (s : Shared) (H : Hp) (C : Addr) (cl : List (Str × Addr)) (fp : List Addr), ETs cs (X.blk s H scope (compEnvC scope cl C X.env) fp) ifs t)
    (hk : ∀ (s : Shared) (H : Hp) (C : Addr) (cl : List (Str × Addr)) (fp : List Addr), EP' cs (X.blk s H scope (compEnvC scope cl C X.env) fp) kx fk)
    (he : ∀ (s : Shared) (H : Hp) (C : Addr) (cl : List (Str × Addr)) (fp : List Addr), EP' cs (X.blk s H scope (compEnvC scope cl C X.env) fp) vx fv) (hs : ∀ x, foldedSetIterable iter X.env x = pure x := by intro _; rfl) :
    EN cs X (.DictComp kx vx [⟨.Name x px, iter, ifs, 0⟩] scope pos) (dcV i f t fk fv) := by
  refine ⟨pe_imp (pe_dc (own := [(x, i)]) (g := gName i) (tt := tPT X.K cs t) (tk := tP X.K cs fk) (tv := tP X.K cs fv) hc hN hi.h ok (fun s H C cl fp => pg_name (X := X.blk s H scope (compEnvC scope cl C X.env) fp) (i := i) hN hix (.inl (hl s H C cl fp)) (.inr (hl s H C cl fp))) (fun s H C cl fp => (ht s H C cl fp).h) (fun s H C cl fp => (hk s H C cl fp).h) (fun s H C cl fp => (he s H C cl fp).h) hs) ?_⟩
  rintro σ H Q ⟨Z, F, ρ, d, R, ef, q⟩
  obtain ⟨ds, e1, e2⟩ := Option.bind_eq_some_iff.mp ef
  split at e2
  · rename_i hb
    obtain ⟨hn, hdl⟩ := hb
    obtain ⟨ys, e3, rfl⟩ := Option.map_eq_some_iff.mp e2
    refine ⟨Z, F, ρ, ds, R, e1, fun J P F1 H1 x1 R1 p1 hP S D hD => ?_⟩
    obtain ⟨R2, fD, zD, mD⟩ := R1.made (o := .dK []) hD
    have R3 := R2.aside upd_same fD mD
    have R4 : Rep X.K cs (upd Z D (.dK [])) F1 (upd H1 D (.dK [])) (σ.set i none) (ρ.set i none) := R3.drop i none
    have pS : P F1 (σ.set i none) (ρ.set i none) := hP _ _ _ _ _ _ hn p1
    refine ⟨fun k m H2 => k + m = ds.length ∧ ∃ F2 acc, Ext F1 F2 ∧ Rep X.K cs (upd Z D (.dK acc)) F2 H2 (σ.set i none) (ρ.set i none) ∧ P F2 (σ.set i none) (ρ.set i none) ∧ (acc.all fun p => flat p.2) = true ∧ acc.length ≤ k ∧ dcD i t fk fv ρ (ds.drop k) acc = some ys,
      ⟨ds.length, by omega, F1, [], Ext.refl F1, R4, pS, rfl, Nat.le_refl _, by rw [List.drop_zero]; exact e3⟩, ?_⟩
    rintro k m H2 ⟨hm, F2, acc, x2, R5, p5, r5, la, e5⟩
    by_cases hlt : k < ds.length
    · have hd : ds.drop k = ds[k] :: ds.drop (k + 1) := List.drop_eq_getElem_cons hlt
      rw [hd, dcD] at e5
      obtain ⟨b, e6, e7⟩ := Option.bind_eq_some_iff.mp e5
      obtain ⟨hgo, hyl⟩ := S.go _ F2 H2 _ _ k ds[k] R5 p5 (List.getElem?_eq_getElem hlt)
      refine .inr ⟨hgo, fun H3 => ∃ m', m' < m ∧ (k + 1) + m' = ds.length ∧ ∃ F3 acc, Ext F1 F3 ∧ Rep X.K cs (upd Z D (.dK acc)) F3 H3 (σ.set i none) (ρ.set i none) ∧ P F3 (σ.set i none) (ρ.set i none) ∧ (acc.all fun p => flat p.2) = true ∧ acc.length ≤ k + 1 ∧ dcD i t fk fv ρ (ds.drop (k + 1)) acc = some ys, fun H3 h => h, fun v H3 hyv => ?_⟩
      obtain ⟨F3, x3, R6, r6⟩ := hyl v H3 hyv
      have R7 := R6.setSh i r6
      have sset : ∀ w : Option V, (σ.set i none).set i w = σ.set i w := fun w => by rw [List.set_set]
      have rset : ∀ c : Option Cell, (ρ.set i none).set i c = ρ.set i c := fun c => by rw [List.set_set]
      rw [sset, rset] at R7
      refine ⟨?_, ?_⟩
      · show ((σ.set i none).set i (some v)).set i none = σ.set i none
        rw [List.set_set, List.set_set]
      · have hw : List.set (wipe σ (List.map (fun x => x.snd) [(x, i)])) i (some v) = σ.set i (some v) := sset (some v)
        rw [hw]
        refine ⟨_, F3, _, b, R7, e6, fun F4 H4 x4 R8 => ?_⟩
        have back : ∀ {F5 H5 : Hp} {acc' : List (Key × V)}, Rep X.K cs (upd Z D (.dK acc')) F5 H5 (σ.set i (some v)) (ρ.set i (some (.sh ds[k]))) → Rep X.K cs (upd Z D (.dK acc')) F5 H5 (σ.set i none) (ρ.set i none) := fun {F5 H5 acc'} r => by
          have := r.drop i none
          rw [List.set_set, List.set_set] at this
          exact this
        by_cases hb : b = true
        · rw [if_pos hb] at e7
          show if b = true then _ else _
          rw [if_pos hb]
          obtain ⟨y, e8, e9⟩ := Option.bind_eq_some_iff.mp e7
          obtain ⟨ky, e10, e11⟩ := Option.bind_eq_some_iff.mp e9
          obtain ⟨z, e12, e13⟩ := Option.bind_eq_some_iff.mp e11
          obtain ⟨vz, e14, e15⟩ := Option.bind_eq_some_iff.mp e13
          refine ⟨_, F4, _, y, R8, e8, fun u F5 H5 x5 R9 r9 => ⟨_, F5, _, z, R9, e12, fun u2 F6 H6 x6 R10 r10 => ?_⟩⟩
          have gk := vw_key R9 (.inl r9) e10
          subst gk
          have gv := vw_flat R10 (.inl r10) e14
          subst gv
          obtain ⟨_, fz⟩ := flatD_some e14
          refine ⟨acc, ky, rfl, (R10.zh D _ upd_same).1, ?_, ?_⟩
          · have : (100000 : Nat) ≤ sizeLine := by decide
            omega
          · have x26 : Ext F2 F6 := ((x3.trans x4).trans x5).trans x6
            have hl := length_putK acc ky u2
            exact ⟨m - 1, by omega, by omega, F6, putK acc ky u2, x2.trans x26, back R10.asideSet, S.mono _ _ _ _ x26 p5, flat_put r5 fz, by omega, e15⟩
        · rw [if_neg hb] at e7
          show if b = true then _ else _
          rw [if_neg hb]
          have x24 : Ext F2 F4 := x3.trans x4
          exact ⟨m - 1, by omega, by omega, F4, acc, x2.trans x24, back R8, S.mono _ _ _ _ x24 p5, r5, by omega, e7⟩
    · have hd : ds.drop k = [] := List.drop_of_length_le (by omega)
      rw [hd] at e5
      cases e5
      refine .inl ⟨S.stop _ F2 H2 _ _ k R5 p5 (by omega), ?_⟩
      obtain ⟨hDH, hDF⟩ := R5.zh D _ upd_same
      have RB : Rep X.K cs Z F2 H2 σ ρ := R1.restore hn (fun _ z => by cases z) x2 (fun a o h => by
        have ha : a ≠ D := ne_of_none h zD
        rw [upd_ne ha]
        exact h) R5
      exact q D F2 H2 (x1.trans x2) RB hDF zD mD (.inl ⟨_, hDH, r5, rfl⟩)
  · cases e2
end
end DS

namespace DS
open PySem L2
open Classical

/-! ## calls that change one argument -/
/-- the arguments: that at slot j is lent, the others are shared -/
inductive ArgX (K : PySem.W.Frag) (F : Hp) (σ : L2.St) (ρ : Nv) (j : Nat) : List Md → List V → List D → Prop
  | io {c : Cell} {a : Addr} {vs : List V} {ds : List D} {ms : List Md} : ρ[j]? = some (some c) → c.mine = true → σ[j]? = some (some (.ref a)) → (∀ m ∈ ms, m = .ro) → ms.length = ds.length → Rps K F vs ds → ArgX K F σ ρ j (.io :: ms) (.ref a :: vs) (c.got :: ds)
  | ro {v : V} {d : D} {ms : List Md} {vs : List V} {ds : List D} : Rp K F v d → ArgX K F σ ρ j ms vs ds → ArgX K F σ ρ j (.ro :: ms) (v :: vs) (d :: ds)
section
variable {K : PySem.W.Frag} {cs : List Addr} {Z F F' H H' : Hp} {σ σ' : L2.St} {ρ ρ' : Nv} {j : Nat} {ms : List Md} {vs : List V} {ds : List D}
/-- how the arguments lie -/
theorem ArgX.look (A : ArgX K F σ ρ j ms vs ds) : ∃ (pos : Nat) (c : Cell) (a : Addr), ρ[j]? = some (some c) ∧ c.mine = true ∧ σ[j]? = some (some (.ref a)) ∧ vs.length = ms.length ∧ ds.length = ms.length ∧ ioOk ms vs = true ∧ vs[pos]? = some (.ref a) ∧
    (∀ i c', (argNv ms vs ds)[i]? = some (some c') → (∃ d v, c' = .sh d ∧ vs[i]? = some v ∧ Rp K F v d) ∨ (i = pos ∧ c' = .io a c.got)) ∧ (argNv ms vs ds).length = vs.length ∧
    ∀ d', (outNv ms vs [d'])[pos]? = some (some (.io a d')) := by
  induction A with
  | @io c a vs ds ms h1 h2 h3 hro hl r =>
    have hv : vs.length = ms.length := by rw [r.len, hl]
    refine ⟨0, c, a, h1, h2, h3, by simp [hv], by simp [hl], show ioOk ms vs = true from ioOk_ro hro, rfl, fun i c' h => ?_, ?_, fun d' => rfl⟩
    · have e : argNv (.io :: ms) (.ref a :: vs) (c.got :: ds) = some (.io a c.got) :: argNv ms vs ds := rfl
      rw [e, argNv_ro hro hv hl.symm] at h
      cases i with
      | zero =>
        cases h
        exact .inr ⟨rfl, rfl⟩
      | succ i =>
        obtain ⟨d, g1, rfl⟩ := shs_get (i := i) (by simpa using h)
        obtain ⟨v, g2, g3⟩ := r.get g1
        exact .inl ⟨d, v, rfl, by simpa using g2, g3⟩
    · have e : argNv (.io :: ms) (.ref a :: vs) (c.got :: ds) = some (.io a c.got) :: argNv ms vs ds := rfl
      rw [e, argNv_ro hro hv hl.symm, List.length_cons, List.length_map, List.length_cons, r.len]
  | @ro v d ms vs ds r A ih =>
    obtain ⟨pos, c, a, h1, h2, h3, h4, h5, h6, h7, h8, h9, h10⟩ := ih
    have e : argNv (.ro :: ms) (v :: vs) (d :: ds) = some (.sh d) :: argNv ms vs ds := rfl
    refine ⟨pos + 1, c, a, h1, h2, h3, by simp [h4], by simp [h5], ?_, by simpa using h7, fun i c' h => ?_, by rw [e, List.length_cons, h9, List.length_cons], fun d' => ?_⟩
    · cases v <;> exact h6
    · rw [e] at h
      cases i with
      | zero =>
        cases h
        exact .inl ⟨d, v, rfl, rfl, r⟩
      | succ i =>
        rcases h8 i c' (by simpa using h) with ⟨d', v', g1, g2, g3⟩ | ⟨g1, g2⟩
        · exact .inl ⟨d', v', g1, by simpa using g2, g3⟩
        · exact .inr ⟨by omega, g2⟩
    · have e2 : outNv (.ro :: ms) (v :: vs) [d'] = none :: outNv ms vs [d'] := by cases v <;> rfl
      rw [e2]
      simpa using h10 d'
theorem ArgX.ext (e : Ext F F') (A : ArgX K F σ ρ j ms vs ds) : ArgX K F' σ ρ j ms vs ds := by
  induction A with
  | io h1 h2 h3 hro hl r => exact .io h1 h2 h3 hro hl (r.ext e)
  | ro r _ ih => exact .ro (r.ext e) ih
/-- what is others' for the callee: all but what is lent -/
noncomputable def othX (a : Addr) (F H : Hp) : Hp := fun b => if b = a then none else oth F H b
theorem othX_of {a b : Addr} {o : HO} (hb : b ≠ a) (h : F b = none) (e : H b = some o) : othX a F H b = some o := by
  unfold othX
  rw [if_neg hb]
  exact oth_of h e
theorem of_othX {a b : Addr} {o : HO} (h : othX a F H b = some o) : H b = some o ∧ F b = none ∧ b ≠ a := by
  unfold othX at h
  split at h
  · cases h
  · rename_i hb
    obtain ⟨h1, h2⟩ := of_oth h
    exact ⟨h1, h2, hb⟩
end
section
variable {K : PySem.W.Frag} {cs : List Addr} {Z F F' H H' : Hp} {σ : L2.St} {ρ : Nv} {j : Nat} {ms : List Md} {vs : List V} {ds : List D} {c : Cell} {a : Addr} {d' v : D}
theorem Rep.lendX (R : Rep K cs Z F H σ ρ) (A : ArgX K F σ ρ j ms vs ds) (h1 : ρ[j]? = some (some c)) (h2 : c.mine = true) (h3 : σ[j]? = some (some (.ref a))) :
    Rep K cs (othX a F H) F H (vs.map some) (argNv ms vs ds) := by
  obtain ⟨pos, c0, a0, g1, g2, g3, g4, g5, g6, g7, g8, g9, g10⟩ := A.look
  rw [h1] at g1
  cases g1
  rw [h3] at g3
  cases g3
  obtain ⟨a', q1, q2, q3, q4⟩ := R.mine j c h1 h2
  rw [h3] at q1
  cases q1
  refine ⟨by rw [List.length_map, g9], R.fh, fun b o h => ?_, fun i e k1 k2 => ?_, fun i d k1 => ?_, fun i k e1 e2 b k1 k2 k3 k4 _ _ => ?_, fun i b d k1 => ?_, R.tab⟩
  · obtain ⟨x1, x2, _⟩ := of_othX h
    exact ⟨x1, x2⟩
  · rcases g8 i e k1 with ⟨d, v, rfl, _, _⟩ | ⟨rfl, rfl⟩
    · cases k2
    · refine ⟨a, by rw [List.getElem?_map, g7]; rfl, q2, ?_, q4⟩
      unfold othX
      rw [if_pos rfl]
  · rcases g8 i _ k1 with ⟨d', v, e, x1, x2⟩ | ⟨_, e⟩
    · cases e
      exact ⟨v, by rw [List.getElem?_map, x1]; rfl, x2⟩
    · cases e
  · rcases g8 i e1 k1 with ⟨_, _, rfl, _, _⟩ | ⟨r1, _⟩
    · cases k2
    · rcases g8 k e2 k3 with ⟨_, _, rfl, _, _⟩ | ⟨r2, _⟩
      · cases k4
      · rw [r1, r2]
  · rcases g8 i _ k1 with ⟨_, _, e, _, _⟩ | ⟨r1, e⟩
    · cases e
    · cases e
      rw [r1, List.getElem?_map, g7]
      rfl
theorem Rep.backX (R : Rep K cs Z F H σ ρ) (A : ArgX K F σ ρ j ms vs ds) (h1 : ρ[j]? = some (some c)) (h2 : c.mine = true) (h3 : σ[j]? = some (some (.ref a))) (e : Ext F F') (R' : Rep K cs (othX a F H) F' H' (vs.map some) (outNv ms vs [d'])) :
    Rep K cs Z F' H' σ (ρ.set j (some (c.put d'))) := by
  obtain ⟨pos, c0, a0, g1, g2, g3, g4, g5, g6, g7, g8, g9, g10⟩ := A.look
  rw [h1] at g1
  cases g1
  rw [h3] at g3
  cases g3
  obtain ⟨a', q1, q2, q3, q4⟩ := R.mine j c h1 h2
  rw [h3] at q1
  cases q1
  obtain ⟨b', p1, p2, p3, p4⟩ := R'.mine pos _ (g10 d') rfl
  rw [List.getElem?_map, g7] at p1
  cases p1
  have hl : j < ρ.length := (List.getElem?_eq_some_iff.mp h1).1
  have hset : ∀ {i : Nat} {e : Cell}, (ρ.set j (some (c.put d')))[i]? = some (some e) → (i = j ∧ e = c.put d') ∨ (i ≠ j ∧ ρ[i]? = some (some e)) := fun {i e} h => by
    by_cases hj : i = j
    · subst hj
      rw [List.getElem?_set_self hl] at h
      cases h
      exact .inl ⟨rfl, rfl⟩
    · rw [List.getElem?_set_ne (Ne.symm hj)] at h
      exact .inr ⟨hj, h⟩
  refine ⟨by rw [List.length_set]; exact R.len, R'.fh, fun b o h => ?_, fun i e1 k1 k2 => ?_, fun i d k1 => ?_, fun i k c1 c2 b k1 k2 k3 k4 k5 k6 => ?_, fun i b e1 k1 => ?_, R'.tab⟩
  · obtain ⟨x1, x2⟩ := R.zh b o h
    exact R'.zh b o (othX_of (ne_of_none h q3) x2 x1)
  · rcases hset k1 with ⟨rfl, rfl⟩ | ⟨hj, k⟩
    · exact ⟨a, h3, p2, q3, by rw [Cell.put_got]; exact p4⟩
    · obtain ⟨b, x1, x2, x3, x4⟩ := R.mine i e1 k k2
      have hne : b ≠ a := fun z => hj (R.inj i j e1 c a k k2 h1 h2 (by rw [← z]; exact x1) h3)
      obtain ⟨ob, x5, _⟩ := x4.rp
      obtain ⟨x6, x7⟩ := R'.zh b ob (othX_of hne x2 x5)
      exact ⟨b, x1, x7, x3, x4.ext e (by rw [x6, x5])⟩
  · rcases hset k1 with ⟨rfl, e2⟩ | ⟨hj, k⟩
    · cases c with
      | sh _ => cases h2
      | ow _ => cases e2
      | io _ _ => cases e2
    · obtain ⟨v, x1, x2⟩ := R.sh i d k
      exact ⟨v, x1, x2.ext e⟩
  · have f1 : ∃ c1', ρ[i]? = some (some c1') ∧ c1'.mine = true := by
      rcases hset k1 with ⟨rfl, rfl⟩ | ⟨_, g⟩
      · exact ⟨c, h1, h2⟩
      · exact ⟨c1, g, k2⟩
    have f2 : ∃ c2', ρ[k]? = some (some c2') ∧ c2'.mine = true := by
      rcases hset k3 with ⟨rfl, rfl⟩ | ⟨_, g⟩
      · exact ⟨c, h1, h2⟩
      · exact ⟨c2, g, k4⟩
    obtain ⟨d1, x1, y1⟩ := f1
    obtain ⟨d2, x2, y2⟩ := f2
    exact R.inj i k d1 d2 b x1 y1 x2 y2 k5 k6
  · rcases hset k1 with ⟨rfl, e2⟩ | ⟨hj, k⟩
    · cases c with
      | sh _ => cases h2
      | ow _ => cases e2
      | io _ _ =>
        cases e2
        exact R.io i _ _ h1
    · exact R.io i b e1 k
end

/-! ### expressions that change what slot j names -/
def tX (K : PySem.W.Frag) (cs : List Addr) (f : Nv → Option (D × Nv)) : TE := fun σ H Q => ∃ Z F ρ d ρ', Rep K cs Z F H σ ρ ∧ f ρ = some (d, ρ') ∧ ∀ v F' H', Ext F F' → Rep K cs Z F' H' σ ρ' → Rp K F' v d → Q v H'
def tXT (K : PySem.W.Frag) (cs : List Addr) (f : Nv → Option (Bool × Nv)) : TT := fun σ H Q => ∃ Z F ρ b ρ', Rep K cs Z F H σ ρ ∧ f ρ = some (b, ρ') ∧ ∀ F' H', Ext F F' → Rep K cs Z F' H' σ ρ' → Q b H'
def tAX (K : PySem.W.Frag) (cs : List Addr) (ms : List Md) (j : Nat) (f : Nv → Option (List D)) : TA := fun σ H Q => ∃ Z F ρ ds, Rep K cs Z F H σ ρ ∧ f ρ = some ds ∧ ∀ vs F' H', Ext F F' → Rep K cs Z F' H' σ ρ → ArgX K F' σ ρ j ms vs ds → Q vs H'
section
variable (cs : List Addr) (X : Cx)
structure EX (e : Expr) (f : Nv → Option (D × Nv)) : Prop where
  h : PE X e (tX X.K cs f)
structure EXT (e : Expr) (f : Nv → Option (Bool × Nv)) : Prop where
  h : PT X e (tXT X.K cs f)
structure EXW (e : Expr) (f : Nv → Option (Bool × Nv)) : Prop where
  h : PW X e (tXT X.K cs f)
structure EXs (ms : List Md) (j : Nat) (es : List Expr) (f : Nv → Option (List D)) : Prop where
  h : PA X es (tAX X.K cs ms j f)
end
def nmM (j : Nat) : Nv → Option D := fun ρ => match ρ[j]? with
  | some (some c) => if c.mine = true then some c.got else none
  | _ => none
theorem nmM_some {j : Nat} {ρ : Nv} {d : D} (h : nmM j ρ = some d) : ∃ c, ρ[j]? = some (some c) ∧ c.mine = true ∧ c.got = d := by
  unfold nmM at h
  split at h
  · rename_i c hc
    split at h
    · rename_i hm
      cases h
      exact ⟨c, hc, hm, rfl⟩
    · cases h
  · cases h
section
variable {cs : List Addr} {X : Cx} {E : XK} {e a b : Expr} {es rest : List Expr} {x : Str} {p pos : Pos} {ms : List Md} {j : Nat} {fa : Nv → Option D} {fr : Nv → Option (List D)} {gx : Nv → Option (Bool × Nv)} {fx : Nv → Option (D × Nv)} {ga : Nv → Option Bool} {g g' : Nv → Option SR}
theorem eps_len {K : PySem.W.Frag} {F : Hp} {vs : List V} {ds : List D} (h : Rps K F vs ds) : vs.length = ds.length := h.len
theorem x_io (h : PE X (.Name x p) (tVar j)) (hr : EPs cs X es fr) (hro : ∀ m ∈ ms, m = .ro) (n : Nat) (hn : ms.length = n) (hs : starEach (.Name x p :: es) X.env = (false, eval (.Name x p) X.env) :: starEach es X.env := by rfl) :
    EXs cs X (.io :: ms) j (.Name x p :: es) (fun ρ => (nmM j ρ).bind fun d => (fr ρ).bind fun ds => if ds.length = n then some (d :: ds) else none) := ⟨pa_imp (pa_cons h hr.h hs) fun σ H Q ⟨Z, F, ρ, ds, R, ef, q⟩ => by
  obtain ⟨d, e1, e2⟩ := Option.bind_eq_some_iff.mp ef
  obtain ⟨ds', e3, e4⟩ := Option.bind_eq_some_iff.mp e2
  split at e4
  · rename_i hl
    cases e4
    obtain ⟨c, hc, hm, rfl⟩ := nmM_some e1
    obtain ⟨a, h1, _⟩ := R.mine j c hc hm
    exact ⟨.ref a, h1, Z, F, ρ, ds', R, e3, fun vs F1 H1 x1 R1 r1 => q _ F1 H1 x1 R1 (.io hc hm h1 hro (by rw [hn, hl]) r1)⟩
  · cases e4⟩
theorem x_ro (ha : EP' cs X e fa) (hr : EXs cs X ms j es fr) (hs : starEach (e :: es) X.env = (false, eval e X.env) :: starEach es X.env := by rfl) : EXs cs X (.ro :: ms) j (e :: es) (cons2 fa fr) := ⟨pa_imp (pa_cons ha.h hr.h hs) fun σ H Q ⟨Z, F, ρ, ds, R, ef, q⟩ => by
  obtain ⟨d, e1, e2⟩ := Option.bind_eq_some_iff.mp ef
  obtain ⟨ds', e3, rfl⟩ := Option.map_eq_some_iff.mp e2
  exact ⟨Z, F, ρ, d, R, e1, fun v F1 H1 x1 R1 r1 => ⟨Z, F1, ρ, ds', R1, e3, fun vs F2 H2 x2 R2 A => q _ F2 H2 (x1.trans x2) R2 (.ro (r1.ext x2) A)⟩⟩⟩
def callX (n j : Nat) (sem : List D → Option Ou) (fr : Nv → Option (List D)) : Nv → Option (D × Nv) := fun ρ => (fr ρ).bind fun ds => if ds.length = n then match sem ds, ρ[j]? with
  | some (.ret d false [d']), some (some c) => if c.mine = true then some (d, ρ.set j (some (c.put d'))) else none
  | _, _ => none
  else none
theorem x_call {P : Program} {w : World} {K : PySem.W.Frag} {mg : Str → Option Value} {base : Heap} {k l : Nat} {ps : List Str} {sem : List D → Option Ou} (C : Cal P w K mg base cs x k ps ms sem) (hX : AtX X P w K mg base) (hr : Room l X.A) (hj : k ≤ l) (hg : Gl X x) (ha : EXs cs X ms j (e :: es) fr)
    (hdb : (x == ("__debug__" : Str)) = false := by decide) (he : starEach (e :: es) X.env = (false, eval e X.env) :: starEach es X.env := by rfl) (hpl : (backTo pos (starEach es X.env)).any (·.1) = false := by rfl) :
    EX cs X (.Call (.Name x p) (e :: es) [] pos) (callX ms.length j sem fr) := by
  obtain ⟨rfl, rfl, rfl, rfl, rfl⟩ := hX
  obtain ⟨f, fd, h1, h2, h3, h4⟩ := C.ex
  refine ⟨pe_imp (pe_call h1 (hr.mono hj) hg h2 h3 h4 .nil (pass0 (X := X)) ha.h hdb he hpl) fun σ H Q ⟨Z, F0, ρ, d, ρ', R, ef, q⟩ => ?_⟩
  obtain ⟨ds, e1, e2⟩ := Option.bind_eq_some_iff.mp ef
  split at e2
  · rename_i hl
    refine ⟨Z, F0, ρ, ds, R, e1, fun vs F1 H1 x1 R1 A => ?_⟩
    split at e2
    · rename_i d0 d' c es hc
      split at e2
      · rename_i hm
        cases e2
        rw [List.append_nil]
        obtain ⟨pos, c0, a0, g1, g2, g3, g4, g5, g6, g7, g8, g9, g10⟩ := A.look
        rw [hc] at g1
        cases g1
        refine ⟨othX a0 F1 H1, F1, ds, _, g4, g5, g6, R1.lendX A hc hm g3, es, fun v F2 H2 x2 R2 res => ?_⟩
        unfold ResV at res
        rw [if_neg Bool.false_ne_true] at res
        exact q v F2 H2 (x1.trans x2) (R1.backX A hc hm g3 x2 R2) res
      · cases e2
    · cases e2
  · cases e2
theorem xt_val (h : EX cs X e fx) (he : ∀ whole, isTrue e X.env whole = (do let v ← whole; standAt e.pos; holding [v] (truthy v)) := by intro _; rfl) : EXT cs X e (fun ρ => (fx ρ).bind fun r => (truD r.1).map fun k => (k, r.2)) := ⟨pt_imp (pt_truth h.h he) fun σ H Q ⟨Z, F, ρ, k, ρ', R, ef, q⟩ => by
  obtain ⟨⟨d, ρ1⟩, e1, e2⟩ := Option.bind_eq_some_iff.mp ef
  obtain ⟨k', e3, e4⟩ := Option.map_eq_some_iff.mp e2
  cases e4
  exact ⟨Z, F, ρ, d, _, R, e1, fun v F' H' e' R' w => ⟨_, tru_of R' (.inl w) e3, q F' H' e' R'⟩⟩⟩
theorem xw_and1 (h : EXT cs X a gx) : EXW cs X (.BoolOp .And [a] pos) gx := ⟨pw_and1 h.h⟩
def andX (ga : Nv → Option Bool) (gx : Nv → Option (Bool × Nv)) : Nv → Option (Bool × Nv) := fun ρ => (ga ρ).bind fun k => if k = true then gx ρ else some (false, ρ)
theorem xw_and (ha : ET cs X a ga) (hb : EXW cs X (.BoolOp .And (b :: rest) pos) gx) : EXW cs X (.BoolOp .And (a :: b :: rest) pos) (andX ga gx) := ⟨pw_imp (pw_and ha.h hb.h) fun σ H Q ⟨Z, F, ρ, d, ρ', R, ef, q⟩ => by
  unfold andX at ef
  obtain ⟨k, ek, ef⟩ := Option.bind_eq_some_iff.mp ef
  refine ⟨Z, F, ρ, k, R, ek, fun F1 H1 e1 R1 => ?_⟩
  by_cases hk : k = true
  · rw [if_pos hk] at ef ⊢
    exact ⟨Z, F1, ρ, d, ρ', R1, ef, fun F2 H2 e2 R2 => q F2 H2 (e1.trans e2) R2⟩
  · rw [if_neg hk] at ef ⊢
    cases ef
    exact q F1 H1 e1 R1⟩
theorem xt_pw (h : EXW cs X a gx) : EXT cs X a gx := ⟨h.h.pt⟩
def ifX (gx : Nv → Option (Bool × Nv)) (g g' : Nv → Option SR) : Nv → Option SR := fun ρ => (gx ρ).bind fun r => if r.1 = true then g r.2 else g' r.2
theorem sd_ifX {sa sb : List Stmt} {c : Expr} (hc : EXT cs X c gx) (ha : SDs cs X E sa g) (hb : SDs cs X E sb g') : SD cs X E (.If c sa sb pos) (ifX gx g g') := ⟨ps_imp (ps_if hc.h ha.h hb.h) fun D σ H ⟨Z, F, ρ, r, R, ef, w⟩ => by
  obtain ⟨⟨k, ρ1⟩, e1, e2⟩ := Option.bind_eq_some_iff.mp ef
  refine ⟨Z, F, ρ, k, ρ1, R, e1, fun F1 H1 x1 R1 => ?_⟩
  by_cases hk : k = true
  · have e2' : g ρ1 = some r := by simpa [hk] using e2
    show if k = true then _ else _
    rw [if_pos hk]
    exact ⟨Z, F1, ρ1, r, R1, e2', w.ext x1⟩
  · have e2' : g' ρ1 = some r := by simpa [hk] using e2
    show if k = true then _ else _
    rw [if_neg hk]
    exact ⟨Z, F1, ρ1, r, R1, e2', w.ext x1⟩⟩
theorem sd_exprX (h : EX cs X e fx) (hs : swapsWith e none pos.line X.env = pure false := by rfl) : SD cs X E (.Expr e pos) (fun ρ => (fx ρ).map fun r => .nx r.2) := ⟨ps_imp (ps_expr h.h hs) fun D σ H ⟨Z, F, ρ, r, R, ef, w⟩ => by
  obtain ⟨⟨d, ρ1⟩, e1, rfl⟩ := Option.map_eq_some_iff.mp ef
  exact ⟨Z, F, ρ, d, ρ1, R, e1, fun v F1 H1 x1 R1 _ => w σ F1 H1 rfl x1 R1⟩⟩
def setX (i : Nat) (fx : Nv → Option (D × Nv)) : Nv → Option SR := fun ρ => (fx ρ).map fun r => .nx (r.2.set i (some (.sh r.1)))
theorem sd_setX {i : Nat} {y : Str} {pos' : Pos} (hN : X.N.Nodup) (hi : X.N[i]? = some y) (hx : Loc X.env.scope y) (h : EX cs X e fx) (hs : swapsWith e (some (.Name y pos')) pos.line X.env = pure false := by rfl) (hf : X.fn y = true ∨ X.env.scope.names.lookup y = some .local := by first | exact .inl rfl | exact .inr rfl | assumption) :
    SD cs X E (.Assign [.Name y pos'] e pos) (setX i fx) := ⟨ps_imp (ps_set hN hi hx h.h hs hf) fun D σ H ⟨Z, F, ρ, r, R, ef, w⟩ => by
  obtain ⟨⟨d, ρ1⟩, e1, rfl⟩ := Option.map_eq_some_iff.mp ef
  exact ⟨Z, F, ρ, d, ρ1, R, e1, fun v F1 H1 x1 R1 r1 => w _ F1 H1 (by rw [List.length_set]) x1 (R1.setSh i r1)⟩⟩
end

theorem callF_is {k : Nat} {sem : List D → Option Ou} {fr : Nv → Option (List D)} {ρ : Nv} {ds os : List D} {d : D} (h : fr ρ = some ds) (hk : ds.length = k) (e : sem ds = some (.ret d false os)) (hs : scal d = true) : callF k sem fr ρ = some d := by
  unfold callF
  rw [h]
  show (if _ then _ else _) = _
  rw [if_pos hk, e]
  show (if _ then _ else _) = _
  rw [if_pos hs]
theorem callX_is {k j : Nat} {sem : List D → Option Ou} {fr : Nv → Option (List D)} {ρ : Nv} {ds : List D} {d d' : D} {c : Cell} (h : fr ρ = some ds) (hk : ds.length = k) (e : sem ds = some (.ret d false [d'])) (hc : ρ[j]? = some (some c)) (hm : c.mine = true) : callX k j sem fr ρ = some (d, ρ.set j (some (c.put d'))) := by
  unfold callX
  rw [h]
  show (if _ then _ else _) = _
  rw [if_pos hk, e, hc]
  show (if _ then _ else _) = _
  rw [if_pos hm]

/-! ### what a def comes to, whatever its addresses -/
noncomputable def semM (ms : List Md) (n : Nat) (g : Nv → Option SR) : List D → Option Ou := fun ds => if h : ∃ o, ds.length = ms.length ∧ ∀ vs, vs.length = ms.length → ioOk ms vs = true → runD ms n g vs ds = some o then some (Classical.choose h) else none
theorem comes_m {ms : List Md} {n : Nat} {g : Nv → Option SR} : Comes ms n g (semM ms n g) := fun vs ds o hv hd hio hs => by
  unfold semM at hs
  split at hs
  · rename_i h
    cases hs
    exact (Classical.choose_spec h).2 vs hv hio
  · cases hs
def canon : List Md → List V
  | [] => []
  | .io :: ms => .ref 0 :: canon ms
  | .ro :: ms => .non :: canon ms
  | .mv :: ms => .non :: canon ms
theorem canon_ok : ∀ ms : List Md, (canon ms).length = ms.length ∧ ioOk ms (canon ms) = true
  | [] => ⟨rfl, rfl⟩
  | .io :: ms => ⟨by rw [canon, List.length_cons, (canon_ok ms).1, List.length_cons], (canon_ok ms).2⟩
  | .ro :: ms => ⟨by rw [canon, List.length_cons, (canon_ok ms).1, List.length_cons], (canon_ok ms).2⟩
  | .mv :: ms => ⟨by rw [canon, List.length_cons, (canon_ok ms).1, List.length_cons], (canon_ok ms).2⟩
theorem semM_is {ms : List Md} {n : Nat} {g : Nv → Option SR} {ds : List D} {o : Ou} (hd : ds.length = ms.length) (h : ∀ vs, vs.length = ms.length → ioOk ms vs = true → runD ms n g vs ds = some o) : semM ms n g ds = some o := by
  have hx : ∃ o, ds.length = ms.length ∧ ∀ vs, vs.length = ms.length → ioOk ms vs = true → runD ms n g vs ds = some o := ⟨o, hd, h⟩
  unfold semM
  rw [dif_pos hx]
  obtain ⟨c1, c2⟩ := canon_ok ms
  have a1 := (Classical.choose_spec hx).2 _ c1 c2
  rw [h _ c1 c2] at a1
  exact a1.symm
end DS

namespace DS
open PySem L2

/-! ## for k, v in d.items(): the dict is locked meanwhile -/
structure Sim (F G : Hp) : Prop where
  lst : ∀ b xs, Rd F b (.lst xs) → Rd G b (.lst xs)
  tup : ∀ b xs, Rd F b (.tup xs) → Rd G b (.tup xs)
  dK : ∀ b kvs, Rd F b (.dK kvs) → Rd G b (.dK kvs)
  dT : ∀ b kvs, F b = some (.dT kvs) → G b = some (.dT kvs)
section
variable {K : PySem.W.Frag} {cs : List Addr} {Z F G H H' : Hp} {σ : L2.St} {ρ : Nv} {a : Addr} {o : Obj} {kvs : List (Key × V)}
mutual
theorem Rp.sim (e : Sim F G) : ∀ {v : V} {d : D}, Rp K F v d → Rp K G v d
  | _, _, .non => .non
  | _, _, .bl b => .bl b
  | _, _, .int i => .int i
  | _, _, .str x => .str x
  | _, _, .lst s r => .lst (s.imp (e.lst _ _) id) (Rps.sim e r)
  | _, _, .tup s r => .tup (s.imp (e.tup _ _) id) (Rps.sim e r)
  | _, _, .dK r f => .dK (e.dK _ _ r) f
  | _, _, .dT r f n => .dT (e.dT _ _ r) f n
theorem Rps.sim (e : Sim F G) : ∀ {vs : List V} {ds : List D}, Rps K F vs ds → Rps K G vs ds
  | _, _, .nil => .nil
  | _, _, .cons a b => .cons (Rp.sim e a) (Rps.sim e b)
end
theorem rd_lock {u : HO} (hF : F a = some (.dK kvs)) {b : Addr} (h : Rd F b u) (hu : ∀ o' u', u ≠ .frz o' u') : Rd (upd F a (.frz o (.dK kvs))) b u := by
  by_cases hb : b = a
  · subst hb
    rcases h with h | ⟨o', h⟩
    · rw [hF] at h
      cases h
      exact .inr ⟨o, upd_same⟩
    · rw [hF] at h
      cases h
  · rcases h with h | ⟨o', h⟩
    · exact .inl (by rw [upd_ne hb]; exact h)
    · exact .inr ⟨o', by rw [upd_ne hb]; exact h⟩
theorem rd_free {u : HO} (hF : F a = some (.frz o (.dK kvs))) {b : Addr} (h : Rd F b u) (hu : ∀ o' u', u ≠ .frz o' u') : Rd (upd F a (.dK kvs)) b u := by
  by_cases hb : b = a
  · subst hb
    rcases h with h | ⟨o', h⟩
    · rw [hF] at h
      cases h
      exact (hu _ _ rfl).elim
    · rw [hF] at h
      cases h
      exact .inl upd_same
  · rcases h with h | ⟨o', h⟩
    · exact .inl (by rw [upd_ne hb]; exact h)
    · exact .inr ⟨o', by rw [upd_ne hb]; exact h⟩
theorem sim_lock (hF : F a = some (.dK kvs)) : Sim F (upd F a (.frz o (.dK kvs))) :=
  ⟨fun _ _ h => rd_lock hF h fun _ _ z => (by cases z), fun _ _ h => rd_lock hF h fun _ _ z => (by cases z), fun _ _ h => rd_lock hF h fun _ _ z => (by cases z), fun b ks h => by
    have hb : b ≠ a := fun z => by
      subst z
      rw [hF] at h
      cases h
    rw [upd_ne hb]
    exact h⟩
theorem sim_free (hF : F a = some (.frz o (.dK kvs))) : Sim F (upd F a (.dK kvs)) :=
  ⟨fun _ _ h => rd_free hF h fun _ _ z => (by cases z), fun _ _ h => rd_free hF h fun _ _ z => (by cases z), fun _ _ h => rd_free hF h fun _ _ z => (by cases z), fun b ks h => by
    have hb : b ≠ a := fun z => by
      subst z
      rw [hF] at h
      cases h
    rw [upd_ne hb]
    exact h⟩
theorem Own.sim {b : Addr} (e : Sim F G) (h : H' b = H b) : ∀ {d : D}, Own K F H b d → Own K G H' b d
  | .list ds, ⟨xs, h1, h2⟩ => ⟨xs, by rw [h]; exact h1, h2.sim e⟩
  | .dict es, .inl ⟨kvs, h1, h2⟩ => .inl ⟨kvs, by rw [h]; exact h1, h2⟩
  | .dict es, .inr ⟨kvs, h1, h2⟩ => .inr ⟨kvs, by rw [h]; exact h1, h2⟩
/-- a shared object told otherwise -/
theorem Rep.told {u w : HO} (R : Rep K cs Z F H σ ρ) (hF : F a = some u) (hx : ∀ φ, u ≠ .ext φ) (e : Sim F (upd F a w)) : Rep K cs Z (upd F a w) (upd H a w) σ ρ := by
  refine ⟨R.len, fun b x h => ?_, fun b x h => ?_, fun i c h1 h2 => ?_, fun i d h1 => ?_, R.inj, R.io, fun p hp => ?_⟩
  · by_cases hb : b = a
    · subst hb
      rw [upd_same] at h ⊢
      exact h
    · rw [upd_ne hb] at h ⊢
      exact R.fh b x h
  · obtain ⟨q1, q2⟩ := R.zh b x h
    have hb : b ≠ a := fun z => by
      subst z
      rw [hF] at q2
      cases q2
    rw [upd_ne hb, upd_ne hb]
    exact ⟨q1, q2⟩
  · obtain ⟨b, q1, q2, q3, q4⟩ := R.mine i c h1 h2
    have hb : b ≠ a := fun z => by
      subst z
      rw [hF] at q2
      cases q2
    exact ⟨b, q1, by rw [upd_ne hb]; exact q2, q3, q4.sim e (upd_ne hb)⟩
  · obtain ⟨v, q1, q2⟩ := R.sh i d h1
    exact ⟨v, q1, q2.sim e⟩
  · have q := R.tab p hp
    have hb : p ≠ a := fun z => by
      subst z
      rw [hF] at q
      cases q
      exact hx _ rfl
    rw [upd_ne hb]
    exact q
end
def itemsD (kvs : List (Key × V)) : List D := kvs.map fun p => .tuple [kD p.1, sD p.2]
theorem src_items {K : PySem.W.Frag} {cs : List Addr} {a : Addr} {o : Obj} {kvs : List (Key × V)} (hf : (kvs.all fun p => flat p.2) = true) : Src K cs (fun F _ _ => F a = some (.frz o (.dK kvs))) (Iti a o kvs) (itemsD kvs) := by
  refine ⟨fun F F' σ ρ x p => x _ _ p, fun Z F H σ ρ i x R p hi => ?_, fun Z F H σ ρ i R p hi => ?_⟩
  · unfold itemsD at hi
    rw [List.getElem?_map] at hi
    obtain ⟨q, h1, rfl⟩ := Option.map_eq_some_iff.mp hi
    obtain ⟨h2, _⟩ := List.getElem?_eq_some_iff.mp h1
    refine ⟨⟨R.fh _ _ p, h2⟩, fun y H' ⟨T, k, v, e1, e2, e3, e4⟩ => ?_⟩
    rw [h1] at e1
    cases e1
    subst e2 e4
    obtain ⟨R3, x3, _⟩ := R.new (o := .tup [kV k, v]) e3
    have fv : flat v = true := List.all_eq_true.mp hf (k, v) (List.mem_of_getElem? h1)
    exact ⟨_, x3, R3, .tup (.inl (.inl upd_same)) (.cons (rp_key k) (.cons (rp_flat fv) .nil))⟩
  · unfold itemsD at hi
    rw [List.length_map] at hi
    exact ⟨R.fh _ _ p, hi⟩
section
variable {cs : List Addr} {X : Cx} {E : XK} {tg e : Expr} {body : List Stmt} {pos : Pos} {a : D → Nv → Option Nv} {g : Nv → Option SR}
/-- the turns of a loop over what comes one by one -/
theorem for_core {K : PySem.W.Frag} {Z F H : Hp} {σ : L2.St} {ρ : Nv} {r : SR} {ds : List D} {J : It} {P : Hp → L2.St → Nv → Prop} {D : Ends} (R : Rep K cs Z F H σ ρ) (p1 : P F σ ρ) (hP : AnyP P) (S : Src K cs P J ds) (e2 : forS a g ds ρ = some r) (w : Wish K cs E Z F σ.length D r) :
    ∃ W : Nat → Nat → St → Hp → Prop, (∃ m, W 0 m σ H) ∧ ∀ i m σ H, W i m σ H →
      (J.stop i H ∧ D.nx σ H) ∨ (J.go i H ∧ ∃ N : St → Hp → Prop, (∀ σ' H', N σ' H' → ∃ m', m' < m ∧ W (i + 1) m' σ' H') ∧ ∀ x H', J.yld i H x H' → tG K cs a x σ H' fun σ2 H2 => tS K cs E g { D with nx := N, ct := N, bk := D.nx } σ2 H2) := by
  refine ⟨fun i m σ2 H2 => i + m = ds.length ∧ ∃ F2 ρ2, Ext F F2 ∧ σ2.length = σ.length ∧ Rep K cs Z F2 H2 σ2 ρ2 ∧ P F2 σ2 ρ2 ∧ forS a g (ds.drop i) ρ2 = some r, ⟨ds.length, by omega, F, ρ, Ext.refl F, rfl, R, p1, by rw [List.drop_zero]; exact e2⟩, ?_⟩
  rintro i m σ2 H2 ⟨hm, F2, ρ2, x2, l2, R2, p2, e3⟩
  by_cases hlt : i < ds.length
  · have hd : ds.drop i = ds[i] :: ds.drop (i + 1) := List.drop_eq_getElem_cons hlt
    rw [hd] at e3
    obtain ⟨ρ3, e4, e5⟩ := Option.bind_eq_some_iff.mp e3
    obtain ⟨r1, e6, e7⟩ := Option.bind_eq_some_iff.mp e5
    obtain ⟨hgo, hy⟩ := S.go Z F2 H2 σ2 ρ2 i ds[i] R2 p2 (List.getElem?_eq_getElem hlt)
    refine .inr ⟨hgo, fun σ3 H3 => ∃ m', m' < m ∧ (i + 1) + m' = ds.length ∧ ∃ F3 ρ3, Ext F F3 ∧ σ3.length = σ.length ∧ Rep K cs Z F3 H3 σ3 ρ3 ∧ P F3 σ3 ρ3 ∧ forS a g (ds.drop (i + 1)) ρ3 = some r, fun σ3 H3 h => h, fun y H3 hyl => ?_⟩
    obtain ⟨F3, x3, R3, r3⟩ := hy y H3 hyl
    refine ⟨Z, F3, ρ2, ds[i], ρ3, R3, r3, e4, fun σ4 F4 H4 l4 x4 R4 => ⟨Z, F4, ρ3, r1, R4, e6, ?_⟩⟩
    have x24 : Ext F F4 := (x2.trans x3).trans x4
    have l42 : σ4.length = σ.length := l4.trans l2
    have p4 : ∀ {F5 : Hp} {σ5 : L2.St} {ρ5 : Nv}, Ext F4 F5 → P F5 σ5 ρ5 := fun {F5 σ5 ρ5} x5 => hP _ _ _ _ _ (S.mono _ _ _ _ ((x3.trans x4).trans x5) p2)
    cases r1 with
    | nx ρ5 => exact fun σ5 F5 H5 l5 x5 R5 => ⟨m - 1, by omega, by omega, F5, ρ5, x24.trans x5, l5.trans l42, R5, p4 x5, e7⟩
    | ct ρ5 => exact fun σ5 F5 H5 l5 x5 R5 => ⟨m - 1, by omega, by omega, F5, ρ5, x24.trans x5, l5.trans l42, R5, p4 x5, e7⟩
    | bk ρ5 =>
      cases e7
      exact fun σ5 F5 H5 l5 x5 R5 => w σ5 F5 H5 (l5.trans l42) (x24.trans x5) R5
    | rt d o ρ5 =>
      cases e7
      exact fun v σ5 F5 H5 l5 x5 R5 => w v σ5 F5 H5 (l5.trans l42) (x24.trans x5) R5
    | exc c =>
      cases e7
      exact fun F5 H5 x5 R5 => w F5 H5 (x24.trans x5) R5
  · have hd : ds.drop i = [] := List.drop_of_length_le (by omega)
    rw [hd] at e3
    cases e3
    exact .inl ⟨S.stop Z F2 H2 σ2 ρ2 i R2 p2 (by omega), w σ2 F2 H2 l2 x2 R2⟩
theorem ps_or {st : Stmt} {t t' : TS} (h : PS X st t) (h' : PS X st t') : PS X st (fun D σ H => t D σ H ∨ t' D σ H) := ⟨fun pins s σ H D I q => q.elim (h.run pins s σ H D I) (h'.run pins s σ H D I)⟩
def noExc : SR → Option SR
  | .exc _ => none
  | r => some r
/-- for k, v in d.items(), d shared -/
def itemsS (j : Nat) (a : D → Nv → Option Nv) (g : Nv → Option SR) : Nv → Option SR := fun ρ => match ρ[j]? with
  | some (some (.sh (.dict es))) => (decK es).bind fun kvs => (forS a g (itemsD kvs) ρ).bind noExc
  | _ => none
theorem ResV.told {K : PySem.W.Frag} {Z F H : Hp} {σ : L2.St} {ρ : Nv} {v : V} {d : D} {own : Bool} {p : Addr} {u w : HO} (r : ResV K Z F H σ ρ v d own) (hF : F p = some u) (e : Sim F (upd F p w)) : ResV K Z (upd F p w) (upd H p w) σ ρ v d own := by
  unfold ResV at r ⊢
  split at r
  · rename_i ho
    rw [if_pos ho]
    obtain ⟨q, rfl, h1, h2, h3, h4⟩ := r
    have hb : q ≠ p := fun z => by
      subst z
      rw [hF] at h1
      cases h1
    exact ⟨q, rfl, by rw [upd_ne hb]; exact h1, h2, h3, h4.sim e (upd_ne hb)⟩
  · rename_i ho
    rw [if_neg ho]
    exact r.sim e
theorem sd_items {elts : List Expr} {kk j : Nat} {x : Str} {p tpos apos cpos : Pos} (hp : PassesOwn (model X.prog X.w) X.A X.env X.xe) (hc : X.calm = true) (he : PE X (.Name x p) (tVar j)) (hg : GD cs X (.Tuple elts kk tpos) a) (hb : SDs cs X E body g)
    (hbase : attributeBase (.Name x p) "items" X.env (eval (.Name x p) X.env) = eval (.Name x p) X.env := by rfl) (hline : (apos.endLine == cpos.line) = true := by rfl)
    (hs : ∀ y, foldedSetIterable (.Call (.Attribute (.Name x p) "items" apos) [] [] cpos) X.env y = pure y := by intro _; rfl) :
    SD cs X E (.For (.Tuple elts kk tpos) (.Call (.Attribute (.Name x p) "items" apos) [] [] cpos) body [] pos) (itemsS j a g) := by
  have base := ps_for (pos := pos) hp hc (pi_items (elts := elts) (kk := kk) (tpos := tpos) he hbase hline) hg.h hb.h hs
  refine ⟨ps_imp (ps_or (ps_lock base) base) fun D σ H ⟨Z, F, ρ, r, R, ef, w⟩ => ?_⟩
  unfold itemsS at ef
  split at ef
  · rename_i es hes
    obtain ⟨kvs, h1, h2⟩ := Option.bind_eq_some_iff.mp ef
    obtain ⟨r0, h3, h4⟩ := Option.bind_eq_some_iff.mp h2
    have hr : r0 = r ∧ ∀ c, r ≠ .exc c := by
      cases r0 <;> cases h4 <;> exact ⟨rfl, fun c z => by cases z⟩
    obtain ⟨rfl, hne⟩ := hr
    obtain ⟨v, s1, s2⟩ := R.sh j _ hes
    generalize hd : PyData.dict es = d0 at s2
    cases s2 with
    | @dK ad ks q f =>
      cases hd
      rw [decK_en f] at h1
      cases h1
      rcases q with q | ⟨o, q⟩
      · refine .inl ⟨ad, .dK kvs, R.fh _ _ q, trivial, fun od => ?_⟩
        have RL := R.told (w := .frz od (.dK kvs)) q (fun _ z => by cases z) (sim_lock q)
        refine ⟨.ref ad, s1, ad, od, kvs, rfl, upd_same, ?_⟩
        have fin : ∀ {σ' : L2.St} {F' H' : Hp} {ρ' : Nv}, Ext (upd F ad (.frz od (.dK kvs))) F' → Rep X.K cs Z F' H' σ' ρ' → F' ad = some (.frz od (.dK kvs)) ∧ H' ad = some (.frz od (.dK kvs)) ∧ Ext F (upd F' ad (.dK kvs)) ∧ Rep X.K cs Z (upd F' ad (.dK kvs)) (upd H' ad (.dK kvs)) σ' ρ' := fun {σ' F' H' ρ'} x' R' => by
          have g1 : F' ad = some (.frz od (.dK kvs)) := x' _ _ upd_same
          refine ⟨g1, R'.fh _ _ g1, fun b u hb => ?_, R'.told g1 (fun _ z => by cases z) (sim_free g1)⟩
          by_cases hba : b = ad
          · subst hba
            rw [q] at hb
            cases hb
            exact upd_same
          · rw [upd_ne hba]
            exact x' b u (by rw [upd_ne hba]; exact hb)
        refine for_core (P := fun F _ _ => F ad = some (.frz od (.dK kvs))) RL upd_same (fun _ _ _ _ _ h => h) (src_items f) h3 ?_
        cases r0 with
        | nx ρ' => exact fun σ' F' H' l' x' R' => let ⟨_, g2, g3, g4⟩ := fin x' R'; ⟨g2, w σ' _ _ l' g3 g4⟩
        | bk ρ' => exact fun σ' F' H' l' x' R' => let ⟨_, g2, g3, g4⟩ := fin x' R'; ⟨g2, w σ' _ _ l' g3 g4⟩
        | ct ρ' => exact fun σ' F' H' l' x' R' => let ⟨_, g2, g3, g4⟩ := fin x' R'; ⟨g2, w σ' _ _ l' g3 g4⟩
        | rt d o ρ' => exact fun v σ' F' H' l' x' R' res => let ⟨g1, g2, g3, g4⟩ := fin x' R'; ⟨g2, w v σ' _ _ l' g3 g4 (res.told g1 (sim_free g1))⟩
        | exc c => exact (hne c rfl).elim
      · refine .inr ⟨.ref ad, s1, ad, o, kvs, rfl, R.fh _ _ q, ?_⟩
        exact for_core (P := fun F _ _ => F ad = some (.frz o (.dK kvs))) R q (fun _ _ _ _ _ h => h) (src_items f) h3 w
    | dT q f n =>
      cases hd
      exact (n (decK_enT h1)).elim
    | _ => cases hd
  · cases ef
end
end DS

namespace DS
open PySem L2 PyProof.Rows

/-! ## min(xs, default=d) of a list of ints -/
def minDD (x d : D) : Option D := match x with
  | .list xs => (intsD xs).map fun ns => match leastD ns with
    | none => d
    | some m => .int m
  | _ => none
theorem fold_min : ∀ (r : List Int) (i : Int), r.foldl min i = r.foldl (fun a b => if b < a then b else a) i
  | [], i => rfl
  | b :: r, i => by
    rw [List.foldl_cons, List.foldl_cons, fold_min r]
    congr 1
    show min i b = _
    rw [Int.min_def]
    split <;> split <;> omega
theorem depth_ints : ∀ ns : List Int, PyData.depthAll (ns.map PyData.int) = 0
  | [] => by rw [List.map_nil, PyData.depthAll]
  | n :: r => by
    rw [List.map_cons, PyData.depthAll, depth_ints r, PyData.depth]
    rfl
theorem reads_of_ints (h : Heap) : ∀ {vs : List Value} {ns : List Int}, IntsAre vs ns → ReadsAll h vs (ns.map PyData.int) []
  | _, _, .nil => .nil
  | _, _, .cons n t r => .cons (.int n t) (reads_of_ints h r)
section
variable {cs : List Addr} {X : Cx} {a d : Expr} {x : Str} {p pos kpos : Pos} {fa fd : Nv → Option D}
def rMinD (K : PySem.W.Frag) (cs : List Addr) : List V → List V → Hp → VK → Prop := fun vs zs H Q => ∃ Z F σ ρ v z d0 d1 d, vs = [v] ∧ zs = [z] ∧ Rep K cs Z F H σ ρ ∧ Vw K F σ ρ v d0 ∧ Rp K F z d1 ∧ minDD d0 d1 = some d ∧ ∀ w, Rp K F w d → Q w H
theorem ck_min (hc : X.calm = true) (hu : X.A.units + 65 < cLine) : CallRK X (.builtin "min") ["default"] (rMinD X.K cs) := by
  rintro pins s σ H xs zs us ws Q I r rz ⟨Z, F, σ', ρ, v, z, d0, d1, d, rfl, rfl, R, w, rd, e, q⟩
  unfold minDD at e
  split at e
  · rename_i ds
    obtain ⟨ns, e1, rfl⟩ := Option.map_eq_some_iff.mp e
    obtain ⟨ad, vs, rfl, s1, r1⟩ := R.lst w
    have hv := intsD_rps r1 e1
    subst hv
    obtain ⟨its, rv, hl, _⟩ := I.list s1
    obtain ⟨u, rfl, ru⟩ := r.one
    cases ru
    obtain ⟨dv, rfl, rdv⟩ := rz.one
    refine PySem.W.min_list_default (vs := its.toArray) (xs := ns.map .int) (I.ok.hd hc) hl.isList (reads_of_ints _ rv.ints) ⟨fun a ha b hb => ?_, fun a ha => ?_⟩ ?_ (fun h0 h' tk keep => ?_) fun y ys i v' h' tk bs hcons hi hrd keep => ?_
    · obtain ⟨i, _, rfl⟩ := List.mem_map.mp ha
      obtain ⟨j, _, rfl⟩ := List.mem_map.mp hb
      rfl
    · obtain ⟨i, _, rfl⟩ := List.mem_map.mp ha
      intro z
      cases z
    · rw [depth_ints]
      omega
    · cases ns with
      | nil => exact ⟨z, H, I.kept keep, rdv, q z rd⟩
      | cons _ _ => cases h0
    · cases ns with
      | nil => cases hcons
      | cons n r2 =>
        cases hcons
        rw [PySem.W.minD_ints, fold_min] at hrd
        cases hrd
        exact ⟨.int _, H, I.kept keep, ⟨_, rfl⟩, q _ (.int _)⟩
  · cases e
theorem e_minD (hc : X.calm = true) (hu : X.A.units + 65 < cLine) (hg : Gl X "min") (hm : X.mg "min" = none) (ha : EW cs X a fa) (hd : EP' cs X d fd)
    (hs : starEach [a] X.env = (false, eval a X.env) :: starEach [] X.env := by rfl) (hv : bootBuiltins "min" = some (.builtin "min") := by decide +kernel)
    (he : backTo pos (starEach [a] X.env) = (false, eval a X.env) :: backTo pos (starEach [] X.env) := by rfl) (hpl : (backTo pos (starEach [a] X.env)).any (·.1) = false := by rfl)
    (hall : (backToKw pos (keywordEach [⟨some "default", d, kpos⟩] X.env)).all (·.1.isSome) = true := by rfl) (hnone : (backToKw pos (keywordEach [⟨some "default", d, kpos⟩] X.env)).any (·.1.isNone) = false := by rfl)
    (hks : (backToKw pos (keywordEach [⟨some "default", d, kpos⟩] X.env)).filterMap (·.1) = [("default" : Str)] := by rfl) :
    EP' cs X (.Call (.Name "min" p) [a] [⟨some "default", d, kpos⟩] pos) (op2 minDD fa fd) := by
  refine ⟨pe_imp (pe_callBK (ck_min (cs := cs) hc hu) hg hm hv (pa_cons ha.h pa_nil hs) (pk_cons hd.h pk_nil) (by decide) (by decide) he hpl hall hnone hks) ?_⟩
  rintro σ H Q ⟨Z, F, ρ, r, R, ef, q⟩
  obtain ⟨y, ea, ef⟩ := Option.bind_eq_some_iff.mp ef
  obtain ⟨z, ed, ef⟩ := Option.bind_eq_some_iff.mp ef
  exact ⟨Z, F, ρ, y, R, ea, fun v F1 H1 x1 R1 w1 => ⟨Z, F1, ρ, z, R1, ed, fun u F2 H2 x2 R2 r2 => ⟨Z, F2, σ, ρ, v, u, y, z, r, rfl, rfl, R2, w1.ext x2, r2, ef, fun w r3 => q w F2 H2 (x1.trans x2) R2 r3⟩⟩⟩
end
end DS

namespace DS
open PySem L2

/-! ## dicts whose keys are tuples -/
def keysD : List D → Option (List Key)
  | [] => some []
  | d :: r => (keyD d).bind fun k => (keysD r).map (k :: ·)
theorem keysD_map : ∀ ks : List Key, keysD (ks.map kD) = some ks
  | [] => rfl
  | k :: r => by
    show (keyD (kD k)).bind _ = _
    rw [keyD_k]
    show (keysD (r.map kD)).map _ = _
    rw [keysD_map r]
    rfl
theorem keysD_rps {K : PySem.W.Frag} {F : Hp} : ∀ {vs : List V} {ds : List D} {ks : List Key}, Rps K F vs ds → keysD ds = some ks → vs = ks.map kV
  | [], [], ks, .nil, h => by cases h; rfl
  | v :: vs, d :: ds, ks, .cons a b, h => by
    obtain ⟨k, h1, h2⟩ := Option.bind_eq_some_iff.mp h
    obtain ⟨r, h3, rfl⟩ := Option.map_eq_some_iff.mp h2
    rw [keysD_rps b h3]
    have hd := keyD_some h1
    subst hd
    cases k with
    | inl i => cases a; rfl
    | inr x => cases a; rfl
def decT : List (D × D) → Option (List (List Key × V))
  | [] => some []
  | (.tuple ds, b) :: r => (keysD ds).bind fun k => (flatD b).bind fun v => (decT r).map ((k, v) :: ·)
  | _ => none
theorem decT_en : ∀ {kvs : List (List Key × V)}, (kvs.all fun p => flat p.2) = true → decT (kvs.map enT) = some kvs
  | [], _ => rfl
  | (k, v) :: r, h => by
    rw [List.all_cons, Bool.and_eq_true] at h
    have ih := decT_en h.2
    show (keysD (k.map kD)).bind _ = _
    rw [keysD_map]
    show (flatD (sD v)).bind _ = _
    rw [flatD_s h.1]
    show (decT (r.map enT)).map _ = _
    rw [ih]
    rfl
theorem decT_enK {kvs : List (Key × V)} {r : List (List Key × V)} (h : decT (kvs.map enK) = some r) : kvs = [] := by
  cases kvs with
  | nil => rfl
  | cons p q =>
    obtain ⟨k, v⟩ := p
    cases k with
    | inl i => cases h
    | inr x => cases h
theorem flat_valT {kvs : List (List Key × V)} {k : List Key} {v : V} (h : (kvs.all fun p => flat p.2) = true) (e : valV kvs k = some v) : flat v = true := by
  unfold valV at e
  obtain ⟨p, h1, rfl⟩ := Option.map_eq_some_iff.mp e
  exact List.all_eq_true.mp h p (List.mem_of_find?_eq_some h1)
theorem flat_putT {kvs : List (List Key × V)} {k : List Key} {v : V} (h : (kvs.all fun p => flat p.2) = true) (hv : flat v = true) : ((putK kvs k v).all fun p => flat p.2) = true := by
  rw [List.all_eq_true] at h ⊢
  intro q hq
  unfold putK at hq
  split at hq
  · obtain ⟨q0, hq0, rfl⟩ := List.mem_map.mp hq
    split
    · exact hv
    · exact h _ hq0
  · rcases List.mem_append.mp hq with hq | hq
    · exact h _ hq
    · rcases List.mem_cons.mp hq with rfl | hq
      · exact hv
      · cases hq
theorem put_ne {κ : Type} [DecidableEq κ] (kvs : List (κ × V)) (k : κ) (v : V) : putK kvs k v ≠ [] := by
  unfold putK
  split
  · rename_i h
    intro z
    have := List.map_eq_nil_iff.mp z
    subst this
    cases h
  · simp
/-- a key tuple, written out: new, and known from now on -/
def tKT (K : PySem.W.Frag) (cs : List Addr) (f : Nv → Option (List Key)) : TE := fun σ H Q => ∃ Z F ρ ks, Rep K cs Z F H σ ρ ∧ f ρ = some ks ∧ ∀ p F' H', Ext F F' → Rep K cs Z F' H' σ ρ → F' p = some (.tup (ks.map kV)) → Q (.ref p) H'
section
variable (cs : List Addr) (X : Cx)
structure EKT (e : Expr) (f : Nv → Option (List Key)) : Prop where
  h : PE X e (tKT X.K cs f)
end
def keysV (fr : Nv → Option (List D)) : Nv → Option (List Key) := fun ρ => (fr ρ).bind fun ds => if ds.length ≤ 100000 then keysD ds else none
section
variable {cs : List Addr} {X : Cx} {E : XK} {a b e : Expr} {es : List Expr} {x : Str} {p pos pos' spos : Pos} {i : Nat} {fa fv : Nv → Option D} {fb : Nv → Option (List Key)} {fr : Nv → Option (List D)}
theorem e_keyT {k : Nat} (h : EPs cs X es fr) : EKT cs X (.Tuple es k pos) (keysV fr) := ⟨pe_imp (pe_tup h.h) fun σ H Q ⟨Z, F, ρ, ks, R, ef, q⟩ => by
  obtain ⟨ds, er, ef⟩ := Option.bind_eq_some_iff.mp ef
  split at ef
  · rename_i hl
    refine ⟨Z, F, ρ, ds, R, er, fun vs F1 H1 e1 R1 r1 => ⟨?_, fun p hp => ?_⟩⟩
    · rw [r1.len]
      exact Nat.le_trans hl (by decide)
    · have hv := keysD_rps r1 ef
      subst hv
      obtain ⟨R2, e2, _⟩ := R1.new (o := .tup (ks.map kV)) hp
      exact q p _ _ (e1.trans e2) R2 upd_same
  · cases ef⟩
theorem Rep.dt {K : PySem.W.Frag} {Z F H : Hp} {σ : L2.St} {ρ : Nv} {v : V} {es : List (D × D)} {kvs : List (List Key × V)} (R : Rep K cs Z F H σ ρ) (h : Vw K F σ ρ v (.dict es)) (e : decT es = some kvs) (hne : kvs ≠ []) :
    ∃ a, v = .ref a ∧ H a = some (.dT kvs) ∧ (kvs.all fun p => flat p.2) = true := by
  have h' := R.all h
  cases h' with
  | dK r f =>
    have := decT_enK e
    subst this
    cases e
    exact (hne rfl).elim
  | dT r f n =>
    rw [decT_en f] at e
    cases e
    exact ⟨_, rfl, r, f⟩
/-- d[k] with k a tuple written out -/
def getTD (d : D) (ks : List Key) : Option D := match d with
  | .dict es => (decT es).bind fun kvs => (valV kvs ks).map sD
  | _ => none
theorem e_getT (hu : X.A.units + 65 < cLine) (ha : EW cs X a fa) (hb : EKT cs X b fb) (hs : NoSl b) : EP' cs X (.Subscript a b pos) (fun ρ => (fa ρ).bind fun d => (fb ρ).bind fun ks => getTD d ks) := ⟨pe_imp (pe_dget (by omega) ha.h hb.h hs) fun σ H Q ⟨Z, F, ρ, d, R, ef, q⟩ => by
  obtain ⟨x, ea, ef⟩ := Option.bind_eq_some_iff.mp ef
  obtain ⟨ks, eb, ef⟩ := Option.bind_eq_some_iff.mp ef
  refine ⟨Z, F, ρ, x, R, ea, fun v F1 H1 e1 R1 w1 => ⟨Z, F1, ρ, ks, R1, eb, fun u F2 H2 e2 R2 k2 => ?_⟩⟩
  unfold getTD at ef
  split at ef
  · obtain ⟨kvs, h2, ef⟩ := Option.bind_eq_some_iff.mp ef
    obtain ⟨z, h3, rfl⟩ := Option.map_eq_some_iff.mp ef
    have hne : kvs ≠ [] := fun z => by
      subst z
      cases h3
    obtain ⟨q0, rfl, g1, g2⟩ := R2.dt (w1.ext e2) h2 hne
    exact ⟨q0, z, rfl, .inr ⟨kvs, ks, u, .inl g1, rfl, R2.fh _ _ k2, h3.symm⟩, q z F2 H2 (e1.trans e2) R2 (rp_flat (flat_valT g2 h3))⟩
  · cases ef⟩
/-- the empty dict may be taken for one with tuple keys -/
theorem kind_T {P : Program} {w : World} {H H' : Hp} {h : Heap} {ad : Addr} (o : ObjOk P w H h ad (.dK [])) : ObjOk P w H' h ad (.dT []) := by
  obtain ⟨z, hd, vs, kv, ob, es, ep, g1, g2, g3, g4, g5, g6⟩ := o
  cases kv
  refine ⟨z, hd, [], .nil, ob, es, ep, g1, g2, g3, ?_, List.nodup_nil⟩
  cases q : es.toList with
  | nil => rfl
  | cons e r =>
    rw [q] at g5
    cases g5
theorem pe_sw {t : TE} (h : PE X e t) : PE X e (fun σ H Q => t σ H fun v H1 => ∃ H2, (H2 = H1 ∨ ∃ ad, H1 ad = some (.dK []) ∧ H2 = upd H1 ad (.dT [])) ∧ Q v H2) := by
  refine ⟨fun pins s σ H Q I q => thn (h.run pins s σ H _ I q) fun u s1 ⟨v, H1, I1, rv, H2, sw, q2⟩ => ?_⟩
  rcases sw with rfl | ⟨ad, h1, rfl⟩
  · exact ⟨v, _, I1, rv, q2⟩
  · have o1 := I1.hok ad _ h1
    obtain ⟨ob, g1⟩ : ∃ ob, s1.heap.get? ad = some ob := by
      obtain ⟨_, _, _, _, ob, _, _, g, _⟩ := o1
      exact ⟨ob, g⟩
    exact ⟨v, _, I1.write (x := ad) (e := ad) (h' := s1.heap) (t' := s1.toks) (by rw [h1]; trivial) (.inl rfl) (fun b u _ hu => hu) ⟨ob, g1⟩ (kind_T o1), rv, q2⟩
/-- d[k] = v on data -/
def putTD (ks : List Key) (v : D) : D → Option D
  | .dict es => (flatD v).bind fun v => (decT es).bind fun kvs => if kvs.length < 100000 then some (.dict ((putK kvs ks v).map enT)) else none
  | _ => none
def putTS (i : Nat) (fk : Nv → Option (List Key)) (fv : Nv → Option D) : Nv → Option SR := fun ρ => (fv ρ).bind fun v => (fk ρ).bind fun k => mutS i (putTD k v) ρ
theorem sd_putT (hu : X.A.units + 65 < cLine) (h : PE X (.Name x p) (tVar i)) (hk : EKT cs X b fb) (hv : EP' cs X e fv) (hs : swapsWith e (some (.Subscript (.Name x p) b spos)) pos.line X.env = pure false := by rfl) :
    SD cs X E (.Assign [.Subscript (.Name x p) b spos] e pos) (putTS i fb fv) :=
  ⟨ps_imp (ps_dput (by omega) h (pe_sw hk.h) hv.h hs) fun D σ H ⟨Z, F, ρ, r, R, ef, w⟩ => by
  obtain ⟨y, e1, e2⟩ := Option.bind_eq_some_iff.mp ef
  obtain ⟨ks, e3, e4⟩ := Option.bind_eq_some_iff.mp e2
  obtain ⟨c, d, hc, hm, e5, rfl⟩ := mutS_some e4
  refine ⟨Z, F, ρ, y, R, e1, fun v F1 H1 x1 R1 r1 => ?_⟩
  obtain ⟨a, h1, fa0, za, _⟩ := R1.mine i c hc hm
  refine ⟨.ref a, h1, Z, F1, ρ, ks, R1, e3, fun u F2 H2 x2 R2 k2 => ?_⟩
  obtain ⟨a', h1', fa2, za2, ow⟩ := R2.mine i c hc hm
  rw [h1] at h1'
  cases h1'
  unfold putTD at e5
  split at e5
  · rename_i es hg
    obtain ⟨v', q2, e5⟩ := Option.bind_eq_some_iff.mp e5
    obtain ⟨kvs, q3, e5⟩ := Option.bind_eq_some_iff.mp e5
    split at e5
    · rename_i hlen
      cases e5
      have gv := vw_flat R1 (.inl r1) q2
      subst gv
      obtain ⟨_, fv⟩ := flatD_some q2
      rw [hg] at ow
      have hz : kvs.length < sizeLine := by
        have : (100000 : Nat) ≤ sizeLine := by decide
        omega
      have hb : u ≠ a := fun z => by
        rw [z, fa2] at k2
        cases k2
      have hk2 := R2.fh _ _ k2
      rcases ow with ⟨kvs', g1, g2, g3⟩ | ⟨kvs', g1, g2, g3, g4⟩
      · rw [g3] at q3
        have := decT_enK q3
        subst this
        cases q3
        refine ⟨upd H2 a (.dT []), .inr ⟨a, g1, rfl⟩, a, upd (upd H2 a (.dT [])) a (.dT (putK [] ks v)), rfl, .inr ⟨[], ks, u, upd_same, rfl, by rw [upd_ne hb]; exact hk2, hz, rfl⟩, ?_⟩
        rw [upd_upd]
        exact w σ F2 _ rfl (x1.trans x2) (R2.mut hc hm h1 (.inr ⟨_, upd_same, flat_putT rfl fv, rfl, put_ne _ _ _⟩))
      · rw [g3, decT_en g2] at q3
        cases q3
        exact ⟨H2, .inl rfl, a, _, rfl, .inr ⟨_, ks, u, g1, rfl, hk2, hz, rfl⟩, w σ F2 _ rfl (x1.trans x2) (R2.mut hc hm h1 (.inr ⟨_, upd_same, flat_putT g2 fv, rfl, put_ne _ _ _⟩))⟩
    · cases e5
  · cases e5⟩
end
end DS

namespace DS
open PySem L2
open Classical
/-! ## a call that reads a frame's own things and tells a new dict -/
def callG (n : Nat) (sem : List D → Option Ou) (fr : Nv → Option (List D)) : Nv → Option D := fun ρ => (fr ρ).bind fun ds => if ds.length = n then match sem ds with
  | some (.ret (.dict es) true _) => some (.dict es)
  | _ => none
  else none
theorem callG_is {k : Nat} {sem : List D → Option Ou} {fr : Nv → Option (List D)} {ρ : Nv} {ds os : List D} {es : List (D × D)} (h : fr ρ = some ds) (hk : ds.length = k) (e : sem ds = some (.ret (.dict es) true os)) : callG k sem fr ρ = some (.dict es) := by
  unfold callG
  rw [h]
  show (if _ then _ else _) = _
  rw [if_pos hk, e]
section
variable {cs : List Addr} {X : Cx} {e : Expr} {es : List Expr} {pos p : Pos} {fr : Nv → Option (List D)} {x : Str} {k j : Nat} {ps : List Str} {ms : List Md} {sem : List D → Option Ou}
theorem c_callG {P : Program} {w : World} {K : PySem.W.Frag} {mg : Str → Option Value} {base : Heap} (C : Cal P w K mg base cs x k ps ms sem) (hX : AtX X P w K mg base) (hro : ∀ m ∈ ms, m = .ro) (hr : Room j X.A) (hj : k ≤ j) (hg : Gl X x) (ha : EWs cs X (e :: es) fr) (hdb : (x == ("__debug__" : Str)) = false := by decide)
    (he : starEach (e :: es) X.env = (false, eval e X.env) :: starEach es X.env := by rfl) (hpl : (backTo pos (starEach es X.env)).any (·.1) = false := by rfl) : EN cs X (.Call (.Name x p) (e :: es) [] pos) (callG ms.length sem fr) := by
  obtain ⟨rfl, rfl, rfl, rfl, rfl⟩ := hX
  obtain ⟨f, fd, h1, h2, h3, h4⟩ := C.ex
  refine ⟨pe_imp (pe_call h1 (hr.mono hj) hg h2 h3 h4 .nil (pass0 (X := X)) ha.h hdb he hpl) fun σ H Q ⟨Z, F0, ρ, d, R, ef, q⟩ => ?_⟩
  obtain ⟨ds, e1, e2⟩ := Option.bind_eq_some_iff.mp ef
  split at e2
  · rename_i hl
    refine ⟨Z, F0, ρ, ds, R, e1, fun vs F1 H1 x1 R1 w1 => ?_⟩
    split at e2
    · rename_i ds' outs es'
      cases e2
      rw [List.append_nil]
      have hv : vs.length = ms.length := by rw [vws_len w1]; exact hl
      refine ⟨oth (plusM σ ρ F1 H1) H1, plusM σ ρ F1 H1, ds, _, hv, hl, ioOk_ro hro, ?_, es', fun v F2 H2 x2 R2 res => ?_⟩
      · rw [argNv_ro hro hv hl]
        exact R1.lendW w1
      · obtain ⟨RB, xb⟩ := R1.backW x2 R2
        unfold ResV at res
        rw [if_pos rfl] at res
        obtain ⟨ad, rfl, g1, g2, g3, g4⟩ := res
        have hm : ¬ Mine σ ρ ad := fun z => by
          obtain ⟨f1, _, o, f2⟩ := R1.mineF z
          have := x2 ad o (plus_mine f1 z f2)
          rw [g1] at this
          cases this
        have hz : Z ad = none := by
          cases q0 : Z ad with
          | none => rfl
          | some o =>
            obtain ⟨f1, f2⟩ := R1.zh ad o q0
            have hp : plusM σ ρ F1 H1 ad = none := by
              unfold plusM
              rw [f2]
              show (if _ then _ else _) = _
              rw [if_neg hm]
            rw [oth_of hp f1] at g2
            cases g2
        have hF : lessM σ ρ F2 ad = none := by
          unfold lessM
          rw [if_neg hm]
          exact g1
        refine q ad _ H2 (x1.trans xb) RB hF hz hm ?_
        rcases g4 with g4 | g4
        · exact .inl g4
        · exact .inr g4
    · cases e2
  · cases e2
end
end DS

namespace DS
open PySem L2 PyProof.Rows

/-! ## for i, c in enumerate(text) -/
def ItS (z : Str) : It :=
  ⟨fun i _ => i < z.cps.size, fun i H v H' => ∃ T c, v = .ref T ∧ H T = none ∧ H' = upd H T (.tup [.int (i : Nat), .str ⟨#[c]⟩]) ∧ z.cps[i]? = some c, fun i _ => z.cps.size ≤ i⟩
theorem draws_signs {prog : Program} {w : World} {A : Around} (hh : A.handled = none) (it : Addr) (z : Str) (t : Tok) {ty : String} (hty : ty = "str_ascii_iterator" ∨ ty = "str_iterator") :
    Draws prog w A it [it] z.cps.size (fun i v => ∃ c u, z.cps[i]? = some c ∧ v = .str ⟨#[c]⟩ u) (fun i h => h.IsStrIter it ty z t i) := by
  rcases hty with rfl | rfl
  · exact Draws.strAscii hh it z t
  · exact Draws.strWide hh it z t
theorem turn_signs {P : Program} {w : World} {K : PySem.W.Frag} {elts : List Expr} {kk : Nat} {tpos : Pos} (en it : Addr) (z : Str) (t : Tok) {ty : String} (hty : ty = "str_ascii_iterator" ∨ ty = "str_iterator") :
    Turn P w K (.Tuple elts kk tpos) (ItS z) [en, it] en (fun i h => i ≤ z.cps.size ∧ (∃ was, IsEnum h en it ((i : Nat) : Int) was) ∧ h.IsStrIter it ty z t i ∧ en ≠ it) where
  mem := List.mem_cons_self
  obj := fun i h st b hb => by
    obtain ⟨_, ⟨was, g1⟩, ⟨ob, g2, _, g4⟩, _⟩ := st
    rcases List.mem_cons.mp hb with rfl | hb
    · exact ⟨_, g1, fun v q => nomatch q⟩
    · rw [List.mem_singleton] at hb
      subst hb
      exact ⟨ob, g2, fun v q => by rw [g4] at q; cases q⟩
  keep := fun i h h' st k => by
    obtain ⟨g0, ⟨was, g1⟩, ⟨ob, g2, g3⟩, g4⟩ := st
    exact ⟨g0, ⟨was, k en List.mem_cons_self _ g1⟩, ⟨ob, k it (List.mem_cons_of_mem _ List.mem_cons_self) _ g2, g3⟩, g4⟩
  item := by
    intro X eP eW eK calm i pins s σ H E I frees st go
    subst eP eW eK
    obtain ⟨g0, ⟨was, g1⟩, g2, g4⟩ := st
    have e1 : en < s.heap.objs.size := Heap.lt_size g1
    have e2 : it < s.heap.objs.size := by
      obtain ⟨_, q, _⟩ := g2
      exact Heap.lt_size q
    have DR := draws_signs (prog := X.prog) (w := X.w) (A := X.A.in1) (by exact I.ok.hd calm) it z t hty
    refine wpAny_pyNext_enum_itemD (E := E) DR g1 g2 go g4 (by simpa using g4) fun u h1 tk sign out more tup size rest => ?_
    obtain ⟨c, tu, hc, rfl⟩ := sign
    refine ⟨_, rfl, wpAny_letOwnedTupleGo_enum (s := { s with heap := h1, toks := tk + 1 }) out fun h2 again same => ?_⟩
    have tup2 : h2.get? s.heap.objs.size = some { cls := .type "tuple", data := .seq #[.int i tk, .str ⟨#[c]⟩ tu] } := (same.2 _ (Nat.ne_of_gt e1)).trans tup
    have made : ObjOk X.prog X.w (upd H s.heap.objs.size (.tup [.int (i : Nat), .str ⟨#[c]⟩])) h2 s.heap.objs.size (.tup [.int (i : Nat), .str ⟨#[c]⟩]) :=
      ⟨Nat.le_trans (show 2 ≤ 3 by decide) (by decide), [.int i tk, .str ⟨#[c]⟩ tu], .cons ⟨_, rfl⟩ (.cons ⟨_, rfl⟩ .nil), ⟨_, tup2, rfl, _, rfl⟩⟩
    have I1 : L2.Inv X pins σ (upd H s.heap.objs.size (.tup [.int (i : Nat), .str ⟨#[c]⟩])) { s with heap := h2, toks := tk + 1 } :=
      I.turnedNew (ch := [en, it]) (fun b ob nb q => (same.2 b (fun y => nb (by rw [y]; exact List.mem_cons_self))).trans (rest b ob (fun y => nb (by rw [y]; exact List.mem_cons_self)) (fun y => nb (by rw [y]; exact List.mem_cons_of_mem _ List.mem_cons_self)) q)) frees (Nat.le_refl _) made
    refine ⟨.ref s.heap.objs.size, _, I1, rfl, ⟨_, c, rfl, I.hok.fresh (Nat.le_refl _), rfl, hc⟩, ⟨go, ⟨.str ⟨#[c]⟩ tu, ?_⟩, ?_, g4⟩, fun b hb => ?_⟩
    · have : ((i + 1 : Nat) : Int) = (i : Int) + 1 := by omega
      rw [this]
      exact again
    · obtain ⟨ob, q1, q2⟩ := more
      exact ⟨ob, (same.2 it (Ne.symm g4)).trans q1, q2⟩
    · have hlt : b < s.heap.objs.size := by
        rcases List.mem_cons.mp hb with rfl | hb
        · exact e1
        · rw [List.mem_singleton] at hb
          rw [hb]
          exact e2
      rw [upd_ne (Nat.ne_of_lt hlt)]
      exact (frees b hb).1
  done := by
    intro X eP eW eK calm i pins s σ H E I frees st stop
    subst eP eW eK
    obtain ⟨g0, ⟨was, g1⟩, g2, g4⟩ := st
    have hi : i = z.cps.size := Nat.le_antisymm g0 stop
    subst hi
    obtain ⟨f0, f1, f2, f3, f4, f5⟩ := frees it (List.mem_cons_of_mem _ List.mem_cons_self)
    have DR := draws_signs (prog := X.prog) (w := X.w) (A := X.A.in1) (by exact I.ok.hd calm) it z t hty
    exact wpAny_pyNext_enum_endD (E := E) DR g1 g2 fun h1 rest => ⟨rfl, I.turned (t' := s.toks) (fun b ob nb q => rest b ob nb q) f0 f1 f3 f4 f5⟩
  self := fun A i s Q E st q => by
    obtain ⟨_, ⟨was, g1⟩, _⟩ := st
    exact wpAny_pyIter_enum g1 q
def iSigns (ta : TA) : TI := fun σ H R => ta σ H fun vs H1 => ∃ z, vs = [V.str z] ∧ R (ItS z) H1
theorem strIter_ty (z : Str) : strIterType z = "str_ascii_iterator" ∨ strIterType z = "str_iterator" := by
  unfold strIterType
  split
  · exact .inl rfl
  · exact .inr rfl
theorem pi_signs {X : Cx} {e : Expr} {ta : TA} {p pos tpos : Pos} {elts : List Expr} {kk : Nat} (hg : Gl X "enumerate") (hm : X.mg "enumerate" = none) (ha : PA X [e] ta) (one : starEach [e] X.env = [(false, eval e X.env)] := by rfl) :
    PI X (.Tuple elts kk tpos) (.Call (.Name "enumerate" p) [e] [] pos) (iSigns ta) := by
  refine ⟨fun pins s σ H R I q => Call_ (ld_blt I hg hm boot_enumerate (PyProof.Rows.callWith_type1 (thn (ha.run pos pins s σ H _ I q) fun us s1 ⟨vs, H1, I1, r1, z, ez, q1⟩ => ?_) one rfl))⟩
  subst ez
  obtain ⟨u, rfl, ru⟩ := r1.one
  obtain ⟨t, rfl⟩ := ru
  refine call_enumerate_str fun h1 g1 g2 _ keep => wpAny_pyIter_enum g1 ?_
  have I2 : L2.Inv X pins σ H1 { s1 with heap := h1 } := I1.kept (t' := s1.toks) keep
  refine ⟨s1.heap.objs.size + 1, [s1.heap.objs.size + 1, s1.heap.objs.size], _, _, H1, rfl, I2, turn_signs (s1.heap.objs.size + 1) s1.heap.objs.size z t (strIter_ty z), ⟨Nat.zero_le _, ⟨.none, g1⟩, g2, Nat.succ_ne_self _⟩, fun b hb => ?_, q1⟩
  have above : s1.heap.objs.size ≤ b := by
    rcases List.mem_cons.mp hb with rfl | hb
    · exact Nat.le_add_right _ _
    · rw [List.mem_singleton] at hb
      rw [hb]
      exact Nat.le_refl _
  exact I1.fpOk above (I1.hok.fresh above)
def enumS (ds : List D) : Option (List D) := match ds with
  | [.str z] => some (enumD (signsD z))
  | _ => none
theorem i_enumS {cs : List Addr} {X : Cx} {a : Expr} {p pos : Pos} {fr : Nv → Option (List D)} {elts : List Expr} {kk : Nat} {tpos : Pos} (hg : Gl X "enumerate") (hm : X.mg "enumerate" = none) (ha : EPs cs X [a] fr) (hs : starEach [a] X.env = [(false, eval a X.env)] := by rfl) :
    EI cs X AnyP (.Tuple elts kk tpos) (.Call (.Name "enumerate" p) [a] [] pos) (fun ρ => (fr ρ).bind enumS) :=
  ⟨pi_imp (pi_signs hg hm ha.h hs) fun σ H R ⟨Z, F, ρ, ds, r, ef, q⟩ => by
    obtain ⟨d, e1, e2⟩ := Option.bind_eq_some_iff.mp ef
    refine ⟨Z, F, ρ, d, r, e1, fun vs F1 H1 x1 R1 r1 => ?_⟩
    unfold enumS at e2
    split at e2
    · rename_i z
      cases e2
      match vs, r1 with
      | [_], .cons (.str _) .nil =>
        refine ⟨z, rfl, q _ (fun _ _ _ => True) F1 H1 x1 R1 trivial (fun _ _ _ _ _ p => p) ⟨fun _ _ _ _ _ p => p, fun Z F H σ ρ i x R2 _ hi => ?_, fun Z F H σ ρ i R2 _ hi => ?_⟩⟩
        · unfold enumD at hi
          rw [List.getElem?_map] at hi
          obtain ⟨j, h1, rfl⟩ := Option.map_eq_some_iff.mp hi
          obtain ⟨h2, h3⟩ := List.getElem?_eq_some_iff.mp h1
          rw [List.getElem_range] at h3
          subst h3
          rw [List.length_range] at h2
          have hl : (signsD z).length = z.cps.size := by
            unfold signsD
            rw [List.length_map, Array.length_toList]
          refine ⟨by show i < z.cps.size; omega, fun y H' ⟨T, c, e1, e2, e3, e4⟩ => ?_⟩
          subst e1 e3
          obtain ⟨R3, x3, _⟩ := R2.new (o := .tup [.int (i : Nat), .str ⟨#[c]⟩]) e2
          have hx : (signsD z).getD i .none = .str ⟨#[c]⟩ := by
            unfold signsD
            rw [List.getD_eq_getElem?_getD, List.getElem?_map, Array.getElem?_toList, e4]
            rfl
          rw [hx]
          exact ⟨_, x3, R3, .tup (.inl (.inl upd_same)) (.cons (.int _) (.cons (.str _) .nil))⟩
        · unfold enumD at hi
          rw [List.length_map, List.length_range] at hi
          unfold signsD at hi
          rw [List.length_map, Array.length_toList] at hi
          exact hi
    · cases e2⟩
end DS

namespace DS
open PySem L2

/-! ## more changes of a frame's own or lent list -/
def clearD : D → Option D
  | .list _ => some (.list [])
  | _ => none
def insD (k x : D) : D → Option D
  | .list xs => match k with
    | .int i => if 0 ≤ i ∧ i ≤ 1000000 ∧ xs.length < 100000 then some (.list (xs.take i.toNat ++ x :: xs.drop i.toNat)) else none
    | _ => none
  | _ => none
def insS (i : Nat) (fk fx : Nv → Option D) : Nv → Option SR := fun ρ => (fk ρ).bind fun k => (fx ρ).bind fun x => mutS i (insD k x) ρ
/-- xs[k] = x -/
def putLD (k x : D) : D → Option D
  | .list xs => match k with
    | .int i => (ixN xs.length i).map fun j => .list (xs.set j x)
    | _ => none
  | _ => none
def putLS (i : Nat) (fk fx : Nv → Option D) : Nv → Option SR := fun ρ => (fx ρ).bind fun x => (fk ρ).bind fun k => mutS i (putLD k x) ρ
/-- xs.pop() -/
def popX (i : Nat) : Nv → Option (D × Nv) := fun ρ => match ρ[i]? with
  | some (some c) => if c.mine = true then match c.got with
    | .list xs => (xs[xs.length - 1]?).map fun d => (d, ρ.set i (some (c.put (.list xs.dropLast))))
    | _ => none
    else none
  | _ => none
section
variable {cs : List Addr} {X : Cx} {E : XK} {e k : Expr} {x : Str} {p pos apos cpos : Pos} {i : Nat} {fa fk : Nv → Option D} {fx : Nv → Option (D × Nv)} {tg : Expr} {ga : D → Nv → Option Nv}
theorem sd_clear (h : PE X (.Name x p) (tVar i)) (hbase : attributeBase (.Name x p) "clear" X.env (eval (.Name x p) X.env) = eval (.Name x p) X.env := by rfl) (hline : (apos.endLine == cpos.line) = true := by rfl)
    (hsw : swapsWith (.Call (.Attribute (.Name x p) "clear" apos) [] [] cpos) none pos.line X.env = pure false := by rfl) :
    SD cs X E (.Expr (.Call (.Attribute (.Name x p) "clear" apos) [] [] cpos) pos) (mutS i clearD) :=
  ⟨ps_imp (ps_expr (pe_bm0 PySem.F.plainAttrs_list PySem.F.slot_list_clear PySem.F.type_list_clear mt_clear h hbase hline) hsw) fun D σ H ⟨Z, F, ρ, r, R, ef, w⟩ => by
  obtain ⟨c, d, hc, hm, e3, rfl⟩ := mutS_some ef
  obtain ⟨a, h1, fa0, za, ow⟩ := R.mine i c hc hm
  unfold clearD at e3
  split at e3
  · rename_i xs hg
    cases e3
    rw [hg] at ow
    obtain ⟨vs, g1, g2⟩ := ow
    exact ⟨.ref a, h1, .inl ⟨rfl, vs, .inl (.inl g1)⟩, a, vs, rfl, rfl, g1, w σ F _ rfl (Ext.refl F) (R.mut hc hm h1 ⟨_, upd_same, .nil⟩)⟩
  · cases e3⟩
theorem sd_ins (h : PE X (.Name x p) (tVar i)) (hk : EP' cs X k fk) (ha : EP' cs X e fa) (hbase : attributeBase (.Name x p) "insert" X.env (eval (.Name x p) X.env) = eval (.Name x p) X.env := by rfl)
    (hfew : ((backTo cpos (starEach [k, e] X.env)).all (fun x => !x.1) && (backToKw cpos (keywordEach [] X.env)).all (fun x => x.1.isSome)
      && decide (([k, e] : List Expr).length + ([] : List Keyword).length + (if ([] : List Keyword).isEmpty then 0 else 1) < 30)) = true := by rfl)
    (hline : (apos.endLine == cpos.line) = true := by rfl) (hs : starEach [k, e] X.env = (false, eval k X.env) :: starEach [e] X.env := by rfl) (hs2 : starEach [e] X.env = (false, eval e X.env) :: starEach [] X.env := by rfl) (hplain : (backTo cpos (starEach [e] X.env)).any (·.1) = false := by rfl)
    (hsw : swapsWith (.Call (.Attribute (.Name x p) "insert" apos) [k, e] [] cpos) none pos.line X.env = pure false := by rfl) :
    SD cs X E (.Expr (.Call (.Attribute (.Name x p) "insert" apos) [k, e] [] cpos) pos) (insS i fk fa) :=
  ⟨ps_imp (ps_expr (pe_bm PySem.F.plainAttrs_list PySem.F.slot_list_insert PySem.F.type_list_insert mt_insert h (pa_cons hk.h (pa_cons ha.h pa_nil hs2) hs) hbase hfew hline hs hplain) hsw) fun D σ H ⟨Z, F, ρ, r, R, ef, w⟩ => by
  obtain ⟨kd, e0, ef⟩ := Option.bind_eq_some_iff.mp ef
  obtain ⟨y, e1, e2⟩ := Option.bind_eq_some_iff.mp ef
  obtain ⟨c, d, hc, hm, e3, rfl⟩ := mutS_some e2
  obtain ⟨a, h1, fa0, za, ow⟩ := R.mine i c hc hm
  unfold insD at e3
  split at e3
  · rename_i xs hg
    split at e3
    · rename_i n
      split at e3
      · rename_i hb
        cases e3
        rw [hg] at ow
        obtain ⟨vs, g1, g2⟩ := ow
        refine ⟨.ref a, h1, .inl ⟨rfl, vs, .inl (.inl g1)⟩, Z, F, ρ, _, R, e0, fun u F0 H0 x0 R0 r0 => ⟨Z, F0, ρ, y, R0, e1, fun v F1 H1 x1 R1 r1 => ?_⟩⟩
        obtain ⟨a', h1', _, _, ow'⟩ := R1.mine i c hc hm
        rw [h1] at h1'
        cases h1'
        rw [hg] at ow'
        obtain ⟨vs', g1', g2'⟩ := ow'
        cases r0
        have hz : vs'.length < sizeLine := by
          rw [g2'.len]
          have : (100000 : Nat) ≤ sizeLine := by decide
          omega
        refine ⟨a, vs', n, v, rfl, rfl, g1', hz, hb.1, by omega, w σ F1 _ rfl (x0.trans x1) (R1.mut hc hm h1 ⟨_, upd_same, ?_⟩)⟩
        rw [List.append_assoc]
        exact (g2'.take _).app (.cons r1 (g2'.drop _))
      · cases e3
    · cases e3
  · cases e3⟩
theorem sd_putL {spos : Pos} (h : PE X (.Name x p) (tVar i)) (hk : EW cs X k fk) (hv : EP' cs X e fa)
    (hsub : ∀ v, assign (.Subscript (.Name x p) k spos) X.env v = (do
      let ov ← holding [v] (eval (.Name x p) X.env)
      let iv ← holding [v, ov] (eval k X.env)
      standAt spos
      holding [v, ov, iv] (setItem ov iv v)
      release [v, ov, iv] []) := by intro _; rfl)
    (hs : swapsWithSole [.Subscript (.Name x p) k spos] e pos.line X.env = pure false := by rfl) (hw : swappedStores [.Subscript (.Name x p) k spos] e X.env = pure none := by rfl)
    (h1 : (assignEach [.Subscript (.Name x p) k spos] X.env).map (·.2) = [assign (.Subscript (.Name x p) k spos) X.env] := by rfl) :
    SD cs X E (.Assign [.Subscript (.Name x p) k spos] e pos) (putLS i fk fa) :=
  ⟨ps_imp (ps_asg hv.h (pg_sub h hk.h set_list hsub) hs hw h1) fun D σ H ⟨Z, F, ρ, r, R, ef, w⟩ => by
  obtain ⟨y, e1, e2⟩ := Option.bind_eq_some_iff.mp ef
  obtain ⟨z, e3, e4⟩ := Option.bind_eq_some_iff.mp e2
  obtain ⟨c, d, hc, hm, e5, rfl⟩ := mutS_some e4
  refine ⟨Z, F, ρ, y, R, e1, fun v F1 H1 x1 R1 r1 => ?_⟩
  obtain ⟨a, h1, fa0, za, _⟩ := R1.mine i c hc hm
  refine ⟨.ref a, h1, Z, F1, ρ, z, R1, e3, fun u F2 H2 x2 R2 w2 => ?_⟩
  obtain ⟨a', h1', _, _, ow⟩ := R2.mine i c hc hm
  rw [h1] at h1'
  cases h1'
  unfold putLD at e5
  split at e5
  · rename_i xs hg
    split at e5
    · rename_i n
      obtain ⟨j, hj, rfl⟩ := Option.map_eq_some_iff.mp e5
      have hu := vw_flat (w := .int n) R2 w2 rfl
      subst hu
      rw [hg] at ow
      obtain ⟨vs, g1, g2⟩ := ow
      exact ⟨a, vs, n, j, rfl, rfl, g1, by rw [g2.len]; exact hj, w σ F2 _ rfl (x1.trans x2) (R2.mut hc hm h1 ⟨_, upd_same, Rps.set (r1.ext x2) j g2⟩)⟩
    · cases e5
  · cases e5⟩
theorem x_pop (h : PE X (.Name x p) (tVar i)) (hbase : attributeBase (.Name x p) "pop" X.env (eval (.Name x p) X.env) = eval (.Name x p) X.env := by rfl) (hline : (apos.endLine == cpos.line) = true := by rfl) :
    EX cs X (.Call (.Attribute (.Name x p) "pop" apos) [] [] cpos) (popX i) :=
  ⟨pe_imp (pe_bm0 PySem.F.plainAttrs_list PySem.F.slot_list_pop PySem.F.type_list_pop mt_pop h hbase hline) fun σ H Q ⟨Z, F, ρ, d, ρ', R, ef, q⟩ => by
  unfold popX at ef
  split at ef
  · rename_i c hc
    split at ef
    · rename_i hm
      split at ef
      · rename_i xs hg
        obtain ⟨y, hy, e2⟩ := Option.map_eq_some_iff.mp ef
        cases e2
        obtain ⟨a, h1, fa0, za, ow⟩ := R.mine i c hc hm
        rw [hg] at ow
        obtain ⟨vs, g1, g2⟩ := ow
        obtain ⟨v, k1, k2⟩ := g2.get hy
        exact ⟨.ref a, h1, .inl ⟨rfl, vs, .inl (.inl g1)⟩, a, vs, v, rfl, rfl, g1, by rw [g2.len]; exact k1, q v F _ (Ext.refl F) (R.mut hc hm h1 ⟨_, upd_same, g2.dropLast⟩) k2⟩
      · cases ef
    · cases ef
  · cases ef⟩
theorem sd_asgX (he : EX cs X e fx) (hg : GD cs X tg ga) (hs : swapsWithSole [tg] e pos.line X.env = pure false := by rfl) (hw : swappedStores [tg] e X.env = pure none := by rfl)
    (h1 : (assignEach [tg] X.env).map (·.2) = [assign tg X.env] := by rfl) : SD cs X E (.Assign [tg] e pos) (fun ρ => (fx ρ).bind fun r => (ga r.1 r.2).map .nx) := ⟨ps_imp (ps_asg he.h hg.h hs hw h1) fun D σ H ⟨Z, F, ρ, r, R, ef, w⟩ => by
  obtain ⟨⟨d, ρ1⟩, e1, e2⟩ := Option.bind_eq_some_iff.mp ef
  obtain ⟨ρ', e3, rfl⟩ := Option.map_eq_some_iff.mp e2
  exact ⟨Z, F, ρ, d, ρ1, R, e1, fun v F1 H1 x1 R1 r1 => ⟨Z, F1, ρ1, d, ρ', R1, r1, e3, fun σ' F2 H2 l2 x2 R2 => w σ' F2 H2 l2 (x1.trans x2) R2⟩⟩⟩
end
end DS

namespace DS
open PySem L2

/-! ## -x, sum, min of two, .. among written things -/
def negD : D → Option D
  | .int i => some (.int (-i))
  | _ => none
def negV (fa : Nv → Option D) : Nv → Option D := fun ρ => (fa ρ).bind negD
def sumD : List D → Option D
  | [.list xs] => (intsD xs).map fun ns => .int ns.sum
  | _ => none
def min2D : List D → Option D
  | [.int i, .int j] => some (.int (if j < i then j else i))
  | _ => none
def max2D : List D → Option D
  | [.int i, .int j] => some (.int (if j > i then j else i))
  | _ => none
def intD : List D → Option D
  | [.int i] => some (.int i)
  | [.bool b] => some (.int (if b = true then 1 else 0))
  | _ => none
/-- x in (a, b, ..) -/
def inTD (x y : D) : Option Bool := match y with
  | .tuple ds => if SeqAt.shaped x = true ∧ SeqAt.shaped (.tuple ds) = true then some (ds.any fun z => PyData.eqv z x) else none
  | _ => none
def inTD' (x y : D) : Option D := (inTD x y).map .bool
def ninTD' (x y : D) : Option D := (inTD x y).map fun b => .bool (!b)
section
variable {cs : List Addr} {X : Cx} {E : XK} {a e : Expr} {pos : Pos} {fa : Nv → Option D}
theorem e_neg (h : EP' cs X a fa) : EP' cs X (.UnaryOp .USub a pos) (negV fa) := ⟨pe_imp (pe_un un_neg h.h) fun σ H Q ⟨Z, F, ρ, d, R, ef, q⟩ => by
  obtain ⟨x, e1, e2⟩ := Option.bind_eq_some_iff.mp ef
  refine ⟨Z, F, ρ, x, R, e1, fun v F1 H1 x1 R1 r1 => ?_⟩
  unfold negD at e2
  split at e2
  · cases e2
    cases r1
    exact ⟨_, rfl, q _ F1 H1 x1 R1 (.int _)⟩
  · cases e2⟩
theorem cd_sum (hc : X.calm = true) : CallR X (.builtin "sum") (rDs X.K cs sumD) := by
  rintro pins s σ H xs us Q I r ⟨Z, F, σ', ρ, ds, d, R, w, e, q⟩
  unfold sumD at e
  split at e
  · obtain ⟨ns, e1, rfl⟩ := Option.map_eq_some_iff.mp e
    obtain ⟨v, rfl, w1⟩ := vws1 w
    obtain ⟨a, vs, rfl, s1, r1⟩ := R.lst w1
    have hv := intsD_rps r1 e1
    subst hv
    exact cr_sum hc pins s σ H _ us Q I r ⟨a, ns, rfl, s1, q _ F H (Ext.refl F) R (.int _)⟩
  · cases e
theorem cd_min2 (hc : X.calm = true) : CallR X (.builtin "min") (rDs X.K cs min2D) := by
  rintro pins s σ H xs us Q I r ⟨Z, F, σ', ρ, ds, d, R, w, e, q⟩
  unfold min2D at e
  split at e
  · cases e
    obtain ⟨v, u, rfl, w1, w2⟩ := vws2 w
    cases R.vint w1
    cases R.vint w2
    exact call_min2 hc pins s σ H _ us Q I r ⟨_, _, rfl, q _ F H (Ext.refl F) R (.int _)⟩
  · cases e
theorem cd_max2 (hc : X.calm = true) : CallR X (.builtin "max") (rDs X.K cs max2D) := by
  rintro pins s σ H xs us Q I r ⟨Z, F, σ', ρ, ds, d, R, w, e, q⟩
  unfold max2D at e
  split at e
  · cases e
    obtain ⟨v, u, rfl, w1, w2⟩ := vws2 w
    cases R.vint w1
    cases R.vint w2
    exact call_max2 hc pins s σ H _ us Q I r ⟨_, _, rfl, q _ F H (Ext.refl F) R (.int _)⟩
  · cases e
theorem cd_int : CallR X (.type "int") (rDs X.K cs intD) := by
  rintro pins s σ H xs us Q I r ⟨Z, F, σ', ρ, ds, d, R, w, e, q⟩
  unfold intD at e
  split at e
  · cases e
    obtain ⟨v, rfl, w1⟩ := vws1 w
    cases R.vint w1
    exact call_int1 pins s σ H _ us Q I r (.inl ⟨_, rfl, q _ F H (Ext.refl F) R (.int _)⟩)
  · cases e
    obtain ⟨v, rfl, w1⟩ := vws1 w
    cases R.vbool w1
    refine call_int1 pins s σ H _ us Q I r (.inr ⟨_, rfl, ?_⟩)
    exact q _ F H (Ext.refl F) R (.int _)
  · cases e
theorem od_inT (hu : X.A.units + 65 < cLine) : OpR X (compareOp .In) (rD X.K cs inTD') := by
  rintro pins s σ H v u a b Q I rx ry ⟨Z, F, σ', ρ, x, y, d, R, w1, w2, e, q⟩
  obtain ⟨bb, e2, rfl⟩ := Option.map_eq_some_iff.mp e
  clear e
  unfold inTD at e2
  split at e2
  · split at e2
    · rename_i hc
      cases e2
      obtain ⟨as, r1⟩ := Dp.reads I _ v a ((R.all w1).dp (shp hc.1)) rx
      obtain ⟨bs, r2⟩ := Dp.reads I _ u b ((R.all w2).dp (shp hc.2)) ry
      refine SeqAt.in_tuple_reads r2 r1 (SeqAt.canLay_of_shaped hc.2) (SeqAt.canLay_of_shaped hc.1) (PyProof.Rows.room_in_shaped hc.1 hu) ⟨.bl _, H, I, rfl, q _ F H (Ext.refl F) R (.bl _)⟩
    · cases e2
  · cases e2
theorem od_ninT (hu : X.A.units + 65 < cLine) : OpR X (compareOp .NotIn) (rD X.K cs ninTD') := by
  rintro pins s σ H v u a b Q I rx ry ⟨Z, F, σ', ρ, x, y, d, R, w1, w2, e, q⟩
  obtain ⟨bb, e2, rfl⟩ := Option.map_eq_some_iff.mp e
  clear e
  unfold inTD at e2
  split at e2
  · split at e2
    · rename_i hc
      obtain rfl := Option.some.inj e2
      obtain ⟨as, r1⟩ := Dp.reads I _ v a ((R.all w1).dp (shp hc.1)) rx
      obtain ⟨bs, r2⟩ := Dp.reads I _ u b ((R.all w2).dp (shp hc.2)) ry
      refine SeqAt.notIn_tuple_reads r2 r1 (SeqAt.canLay_of_shaped hc.2) (SeqAt.canLay_of_shaped hc.1) (PyProof.Rows.room_in_shaped hc.1 hu) ⟨.bl _, H, I, rfl, q _ F H (Ext.refl F) R (.bl _)⟩
    · cases e2
  · cases e2
/-- a text of the module -/
theorem e_gstr {x : Str} {i : Str} (hg : Gl X x) (h : ∃ t, X.mg x = some (.str i t)) (hd : (x == ("__debug__" : Str)) = false := by decide) : EP' cs X (.Name x pos) (fun _ => some (.str i)) := by
  obtain ⟨t, h⟩ := h
  exact e_glob (pe_glob (v := .str i) hg h ⟨t, rfl⟩ hd) fun F => .str i
end

/-! ## extend, x += i, xs[a:b] = [..] -/
def extD (x : D) : D → Option D
  | .list xs => match x with
    | .list ys => if xs.length + ys.length ≤ 100000 then some (.list (xs ++ ys)) else none
    | _ => none
  | _ => none
def extS (i : Nat) (fa : Nv → Option D) : Nv → Option SR := fun ρ => (fa ρ).bind fun x => mutS i (extD x) ρ
def addI : D → D → Option D
  | .int i, .int j => some (.int (i + j))
  | _, _ => none
/-- xs[a:c] = ys -/
def slcD (a c y : D) : D → Option D
  | .list xs => match a, c, y with
    | .int i, .int j, .list ys => if 0 ≤ i ∧ i ≤ j ∧ j ≤ xs.length ∧ xs.length + ys.length ≤ 100000 then some (.list (xs.take i.toNat ++ ys ++ xs.drop j.toNat)) else none
    | _, _, _ => none
  | _ => none
def slcS (i : Nat) (fl fh fx : Nv → Option D) : Nv → Option SR := fun ρ => (fx ρ).bind fun x => (fl ρ).bind fun a => (fh ρ).bind fun c => mutS i (slcD a c x) ρ
def gSlc (to tl th : TE) : TG := fun v σ H Q => to σ H fun o H1 => tl σ H1 fun a H2 => th σ H2 fun c H3 => ∃ (l b : Addr) (xs ys : List V) (i j : Int), o = .ref l ∧ v = .ref b ∧ a = .int i ∧ c = .int j ∧ H3 l = some (.lst xs) ∧ H3 b = some (.lst ys) ∧ l ≠ b ∧
  0 ≤ i ∧ i ≤ j ∧ j ≤ xs.length ∧ xs.length + ys.length ≤ sizeLine ∧ Q σ (upd H3 l (.lst (xs.take i.toNat ++ ys ++ xs.drop j.toNat)))
section
variable {cs : List Addr} {X : Cx} {E : XK} {e k o lo hi : Expr} {x : Str} {p p2 pos apos cpos : Pos} {i : Nat} {fa fl fh : Nv → Option D} {to tl th : TE}
theorem sd_ext (h : PE X (.Name x p) (tVar i)) (ha : EN cs X e fa) (hbase : attributeBase (.Name x p) "extend" X.env (eval (.Name x p) X.env) = eval (.Name x p) X.env := by rfl)
    (hfew : ((backTo cpos (starEach [e] X.env)).all (fun x => !x.1) && (backToKw cpos (keywordEach [] X.env)).all (fun x => x.1.isSome)
      && decide (([e] : List Expr).length + ([] : List Keyword).length + (if ([] : List Keyword).isEmpty then 0 else 1) < 30)) = true := by rfl)
    (hline : (apos.endLine == cpos.line) = true := by rfl) (hs : starEach [e] X.env = (false, eval e X.env) :: starEach [] X.env := by rfl) (hplain : (backTo cpos (starEach [] X.env)).any (·.1) = false := by rfl)
    (hsw : swapsWith (.Call (.Attribute (.Name x p) "extend" apos) [e] [] cpos) none pos.line X.env = pure false := by rfl) :
    SD cs X E (.Expr (.Call (.Attribute (.Name x p) "extend" apos) [e] [] cpos) pos) (extS i fa) :=
  ⟨ps_imp (ps_expr (pe_bm PySem.F.plainAttrs_list PySem.F.slot_list_extend PySem.F.type_list_extend mt_extend h (pa_cons ha.h pa_nil hs) hbase hfew hline hs hplain) hsw) fun D σ H ⟨Z, F, ρ, r, R, ef, w⟩ => by
  obtain ⟨y, e1, e2⟩ := Option.bind_eq_some_iff.mp ef
  obtain ⟨c, d, hc, hm, e3, rfl⟩ := mutS_some e2
  obtain ⟨a, h1, fa0, za, ow⟩ := R.mine i c hc hm
  unfold extD at e3
  split at e3
  · rename_i xs hg
    split at e3
    · rename_i ys
      split at e3
      · rename_i hb
        cases e3
        rw [hg] at ow
        obtain ⟨vs, g1, g2⟩ := ow
        refine ⟨.ref a, h1, .inl ⟨rfl, vs, .inl (.inl g1)⟩, Z, F, ρ, _, R, e1, fun q F1 H1 x1 R1 fq zq mq ow1 => ?_⟩
        obtain ⟨a', h1', _, _, ow'⟩ := R1.mine i c hc hm
        rw [h1] at h1'
        cases h1'
        rw [hg] at ow'
        obtain ⟨vs', g1', g2'⟩ := ow'
        obtain ⟨ws, k1, k2⟩ := ow1
        have hz : vs'.length + ws.length ≤ sizeLine := by
          rw [g2'.len, k2.len]
          have : (100000 : Nat) ≤ sizeLine := by decide
          omega
        exact ⟨a, q, vs', ws, rfl, rfl, g1', k1, hz, w σ F1 _ rfl x1 (R1.mut hc hm h1 ⟨_, upd_same, g2'.app k2⟩)⟩
      · cases e3
    · cases e3
  · cases e3⟩
theorem sd_aug (hN : X.N.Nodup) (hi : X.N[i]? = some x) (hx : Loc X.env.scope x) (ha : EP' cs X e fa) (hf : X.fn x = true ∨ X.env.scope.names.lookup x = some .local := by first | exact .inl rfl | exact .inr rfl | assumption) :
    SD cs X E (.AugAssign (.Name x p) .Add e pos) (setS i (op2 addI (nmP i) fa)) :=
  ⟨ps_imp (ps_aug hN hi hx ha.h ip_add hf) fun D σ H ⟨Z, F, ρ, r, R, ef, w⟩ => by
  obtain ⟨d, e1, rfl⟩ := Option.map_eq_some_iff.mp ef
  obtain ⟨u, e2, e3⟩ := Option.bind_eq_some_iff.mp e1
  obtain ⟨y, e4, e5⟩ := Option.bind_eq_some_iff.mp e3
  unfold nmP at e2
  split at e2
  · rename_i d' e6
    cases e2
    obtain ⟨v, h1, h2⟩ := R.sh i _ e6
    refine ⟨v, h1, Z, F, ρ, y, R, e4, fun z F1 H1 x1 R1 r1 => ?_⟩
    unfold addI at e5
    split at e5
    · cases e5
      cases h2
      cases r1
      exact ⟨_, _, rfl, rfl, w _ F1 H1 (by rw [List.length_set]) x1 (R1.setSh i (.int _))⟩
    · cases e5
  · cases e2⟩
theorem pg_slc (ho : PE X o to) (hl : PE X lo tl) (hh : PE X hi th)
    (ha : ∀ v, assign (.Subscript o (.Slice (some lo) (some hi) none p2) pos) X.env v = (do
      let ov ← holding [v] (eval o X.env)
      let iv ← holding [v, ov] (eval (.Slice (some lo) (some hi) none p2) X.env)
      standAt pos
      holding [v, ov, iv] (setItem ov iv v)
      release [iv, v, ov] []) := by intro _; rfl) : PG X (.Subscript o (.Slice (some lo) (some hi) none p2) pos) (gSlc to tl th) := by
  refine ⟨fun pins s σ H v u Q I r h => ?_⟩
  rw [ha]
  refine wpAny_bind (wpAny_holding (thn (ho.run pins s σ H _ I h) fun ov s1 ⟨x, H1, I1, r1, q1⟩ => ?_))
  refine wpAny_bind (wpAny_holding (wpAny_Slice ?_))
  rw [evalPart_some, evalPart_some]
  refine thn (hl.run pins s1 σ H1 _ I1 q1) fun vl s2 ⟨yl, H2, I2, r2, q2⟩ => thn (hh.run pins s2 σ H2 _ I2 q2) fun vu s3 ⟨yu, H3, I3, r3, q3⟩ => ?_
  rw [evalPart_none]
  refine wpAny_pure ?_
  obtain ⟨l, b, xs, ys, i, j, rfl, rfl, rfl, rfl, g1, g2, hne, h0, hij, hjl, hz, q⟩ := q3
  have I4 : Inv X pins σ H3 { s3 with heap := s3.heap.push { cls := .type "slice", data := .fields #[vl, vu, .none] } } := I3.kept (t' := s3.toks) fun b ob q => Heap.get?_push_of_some _ q
  cases r1
  cases r
  refine wpAny_bind (wpAny_standAt (wpAny_bind (wpAny_holding (set_slice I4 g1 g2 hne (Heap.IsSliceOf.new ..) r2 r3 h0 hij hjl hz fun s5 I5 => ?_))))
  exact wpAny_release ⟨σ, _, I5, q⟩
theorem sd_slc {spos : Pos} (h : PE X (.Name x p) (tVar i)) (hl : EP' cs X lo fl) (hh : EP' cs X hi fh) (hv : EN cs X e fa)
    (hsub : ∀ v, assign (.Subscript (.Name x p) (.Slice (some lo) (some hi) none p2) spos) X.env v = (do
      let ov ← holding [v] (eval (.Name x p) X.env)
      let iv ← holding [v, ov] (eval (.Slice (some lo) (some hi) none p2) X.env)
      standAt spos
      holding [v, ov, iv] (setItem ov iv v)
      release [iv, v, ov] []) := by intro _; rfl)
    (hs : swapsWithSole [.Subscript (.Name x p) (.Slice (some lo) (some hi) none p2) spos] e pos.line X.env = pure false := by rfl) (hw : swappedStores [.Subscript (.Name x p) (.Slice (some lo) (some hi) none p2) spos] e X.env = pure none := by rfl)
    (h1 : (assignEach [.Subscript (.Name x p) (.Slice (some lo) (some hi) none p2) spos] X.env).map (·.2) = [assign (.Subscript (.Name x p) (.Slice (some lo) (some hi) none p2) spos) X.env] := by rfl) :
    SD cs X E (.Assign [.Subscript (.Name x p) (.Slice (some lo) (some hi) none p2) spos] e pos) (slcS i fl fh fa) :=
  ⟨ps_imp (ps_asg hv.h (pg_slc h hl.h hh.h hsub) hs hw h1) fun D σ H ⟨Z, F, ρ, r, R, ef, w⟩ => by
  obtain ⟨y, e1, e2⟩ := Option.bind_eq_some_iff.mp ef
  obtain ⟨dl, e3, e4⟩ := Option.bind_eq_some_iff.mp e2
  obtain ⟨dh, e5, e6⟩ := Option.bind_eq_some_iff.mp e4
  obtain ⟨c, d, hc, hm, e7, rfl⟩ := mutS_some e6
  unfold slcD at e7
  split at e7
  · rename_i xs hg
    split at e7
    · rename_i a1 a2 ys
      split at e7
      · rename_i hb
        cases e7
        refine ⟨Z, F, ρ, _, R, e1, fun q F1 H1 x1 R1 fq zq mq ow1 => ?_⟩
        obtain ⟨ws, k1, k2⟩ := ow1
        obtain ⟨a, h1, fa0, za, _⟩ := R1.mine i c hc hm
        have hne : a ≠ q := fun z => mq ⟨i, c, hc, hm, by rw [← z]; exact h1⟩
        have R2 := R1.give k1 fq zq mq
        refine ⟨.ref a, h1, Z, _, ρ, _, R2, e3, fun u F3 H3 x3 R3 r3 => ⟨Z, F3, ρ, _, R3, e5, fun u2 F4 H4 x4 R4 r4 => ?_⟩⟩
        cases r3
        cases r4
        obtain ⟨a', h1', _, _, ow⟩ := R4.mine i c hc hm
        rw [h1] at h1'
        cases h1'
        rw [hg] at ow
        obtain ⟨vs, g1, g2⟩ := ow
        have x14 := x3.trans x4
        have kq : H4 q = some (.lst ws) := R4.fh q _ (x14 q _ upd_same)
        have k4 : Rps X.K F4 ws ys := k2.ext ((Ext.upd fq).trans x14)
        have hz : vs.length + ws.length ≤ sizeLine := by
          rw [g2.len, k4.len]
          have : (100000 : Nat) ≤ sizeLine := by decide
          omega
        refine ⟨a, q, vs, ws, _, _, rfl, rfl, rfl, rfl, g1, kq, hne, hb.1, hb.2.1, by rw [g2.len]; exact hb.2.2.1, hz, w σ F4 _ rfl ((x1.trans (Ext.upd fq)).trans x14) (R4.mut hc hm h1 ⟨_, upd_same, ?_⟩)⟩
        exact ((g2.take _).app k4).app (g2.drop _)
      · cases e7
    · cases e7
  · cases e7⟩
end

/-! ## reversed(xs) -/
def revV (ds : List D) : Option (List D) := match ds with
  | [.list xs] => some xs.reverse
  | _ => none
theorem i_rev {cs : List Addr} {X : Cx} {tg a : Expr} {p pos : Pos} {fr : Nv → Option (List D)} (hg : Gl X "reversed") (hm : X.mg "reversed" = none) (ha : EPs cs X [a] fr) (hs : starEach [a] X.env = [(false, eval a X.env)] := by rfl) :
    EI cs X AnyP tg (.Call (.Name "reversed" p) [a] [] pos) (fun ρ => (fr ρ).bind revV) :=
  ⟨pi_imp (pi_reversed hg hm ha.h hs) fun σ H R ⟨Z, F, ρ, ds, r, ef, q⟩ => by
    obtain ⟨d, e1, e2⟩ := Option.bind_eq_some_iff.mp ef
    refine ⟨Z, F, ρ, d, r, e1, fun vs F1 H1 x1 R1 r1 => ?_⟩
    unfold revV at e2
    split at e2
    · rename_i xs
      cases e2
      cases r1 with
      | cons t u =>
        cases u
        cases t with
        | lst s t =>
          rename_i a0 vs0
          refine ⟨_, _, rfl, R1.ex.sqL s, ?_⟩
          have hlen := t.len
          refine q _ (fun F _ _ => Ext F1 F) F1 H1 x1 R1 (Ext.refl F1) (fun _ _ _ _ _ p => p) ⟨fun _ _ _ _ x p => p.trans x, fun Z F H σ ρ i x R2 p hi => ?_, fun Z F H σ ρ i R2 p hi => ?_⟩
          · have s2 := R2.ex.sqL (Ext.sqL p s)
            obtain ⟨h2, h3⟩ := List.getElem?_eq_some_iff.mp hi
            rw [List.length_reverse] at h2
            have hx : xs[vs0.length - 1 - i]? = some x := by
              rw [hlen, ← hi, List.getElem?_reverse h2]
            obtain ⟨v, g1, g2⟩ := (t.ext p).get hx
            refine ⟨⟨by omega, _, v, s2, g1⟩, fun y H' ⟨e3, e4⟩ => ?_⟩
            subst e3
            have e5 := e4 _ s2
            rw [g1] at e5
            cases e5
            exact ⟨F, Ext.refl F, R2, g2⟩
          · show vs0.length ≤ i
            rw [List.length_reverse] at hi
            omega
    · cases e2⟩
end DS

namespace DS
open PySem L2

/-! ## runs: what a body comes to -/
def Run (x : Option SR) (φ : SR → Prop) : Prop := ∃ r, x = some r ∧ φ r
/-- behind one turn of a loop -/
def Turn (J : Nv → Prop) (φ : SR → Prop) : SR → Prop
  | .nx ρ => J ρ
  | .ct ρ => J ρ
  | .bk ρ => φ (.nx ρ)
  | .rt d o ρ => φ (.rt d o ρ)
  | .exc c => φ (.exc c)
/-- behind the first of two -/
def Thn (g : Nv → Option SR) (φ : SR → Prop) : SR → Prop
  | .nx ρ => Run (g ρ) φ
  | .ct ρ => φ (.ct ρ)
  | .bk ρ => φ (.bk ρ)
  | .rt d o ρ => φ (.rt d o ρ)
  | .exc c => φ (.exc c)
def Ret (k : Nat) (o : Bool) (ψ : D → Prop) : SR → Prop
  | .rt d o' ρ => o' = o ∧ k ≤ ρ.length ∧ ψ d
  | _ => False
section
variable {φ φ' : SR → Prop} {g g' : Nv → Option SR} {ρ ρ' : Nv} {t : Nv → Option Bool} {f : Nv → Option D} {d : D} {b o : Bool} {ψ : D → Prop} {i k m : Nat} {ds : List D}
theorem Run.imp {x : Option SR} (h : Run x φ) (hi : ∀ r, φ r → φ' r) : Run x φ' := by
  obtain ⟨r, e, q⟩ := h
  exact ⟨r, e, hi r q⟩
theorem run_seq (h : Run (g ρ) (Thn g' φ)) : Run (seqS g g' ρ) φ := by
  obtain ⟨r, e, q⟩ := h
  unfold seqS
  rw [e]
  cases r with
  | nx ρ' => exact q
  | bk ρ' => exact ⟨_, rfl, q⟩
  | ct ρ' => exact ⟨_, rfl, q⟩
  | rt d o ρ' => exact ⟨_, rfl, q⟩
  | exc c => exact ⟨_, rfl, q⟩
theorem run_nx (h : φ (.nx ρ)) : Run ((fun ρ => some (.nx ρ)) ρ) φ := ⟨_, rfl, h⟩
theorem run_set (h : f ρ = some d) (q : φ (.nx (ρ.set i (some (.sh d))))) : Run (setS i f ρ) φ := by
  refine ⟨_, ?_, q⟩
  unfold setS
  rw [h]
  rfl
theorem run_setN (h : f ρ = some d) (q : φ (.nx (ρ.set i (some (.ow d))))) : Run (setN i f ρ) φ := by
  refine ⟨_, ?_, q⟩
  unfold setN
  rw [h]
  rfl
theorem run_if (h : t ρ = some b) (h1 : b = true → Run (g ρ) φ) (h2 : b = false → Run (g' ρ) φ) : Run (ifS t g g' ρ) φ := by
  unfold ifS
  rw [h]
  cases b with
  | true => exact h1 rfl
  | false => exact h2 rfl
theorem run_ret {x : Option D} (h : x = some d) (q : φ (.rt d o ρ)) : Run (x.map fun d => SR.rt d o ρ) φ := ⟨_, by rw [h]; rfl, q⟩
theorem run_putL {fk : Nv → Option D} {c : Cell} {x y : D} (h1 : f ρ = some x) (h2 : fk ρ = some y) (hc : ρ[i]? = some (some c)) (hm : c.mine = true) (h : putLD y x c.got = some d) (q : φ (.nx (ρ.set i (some (c.put d))))) : Run (putLS i fk f ρ) φ := by
  unfold putLS
  rw [h1, Option.bind_some, h2, Option.bind_some]
  unfold mutS
  rw [hc]
  refine ⟨_, ?_, q⟩
  show (if _ then _ else _) = _
  rw [if_pos hm, h]
  rfl
theorem run_slc {fl fh : Nv → Option D} {c : Cell} {x y z : D} (h1 : f ρ = some x) (h2 : fl ρ = some y) (h3 : fh ρ = some z) (hc : ρ[i]? = some (some c)) (hm : c.mine = true) (h : slcD y z x c.got = some d) (q : φ (.nx (ρ.set i (some (c.put d))))) : Run (slcS i fl fh f ρ) φ := by
  unfold slcS
  rw [h1, Option.bind_some, h2, Option.bind_some, h3, Option.bind_some]
  unfold mutS
  rw [hc]
  refine ⟨_, ?_, q⟩
  show (if _ then _ else _) = _
  rw [if_pos hm, h]
  rfl
theorem run_retNm (h : retNm i ρ = some (.rt d o ρ')) (q : φ (.rt d o ρ')) : Run (retNm i ρ) φ := ⟨_, h, q⟩
theorem run_mut {op : D → Option D} {c : Cell} (hc : ρ[i]? = some (some c)) (hm : c.mine = true) (h : op c.got = some d) (q : φ (.nx (ρ.set i (some (c.put d))))) : Run (mutS i op ρ) φ := by
  refine ⟨_, ?_, q⟩
  unfold mutS
  rw [hc]
  show (if _ then _ else _) = _
  rw [if_pos hm, h]
  rfl
theorem run_app {xs : List D} {c : Cell} (h : f ρ = some d) (hc : ρ[i]? = some (some c)) (hm : c.mine = true) (hg : c.got = .list xs) (hl : xs.length < 100000) (q : φ (.nx (ρ.set i (some (c.put (.list (xs ++ [d]))))))) : Run (appS i f ρ) φ := by
  unfold appS
  rw [h]
  refine run_mut hc hm ?_ q
  rw [hg]
  show (if _ then _ else _) = _
  rw [if_pos hl]
theorem run_ext {xs ys : List D} {c : Cell} (h : f ρ = some (.list ys)) (hc : ρ[i]? = some (some c)) (hm : c.mine = true) (hg : c.got = .list xs) (hl : xs.length + ys.length ≤ 100000) (q : φ (.nx (ρ.set i (some (c.put (.list (xs ++ ys))))))) : Run (extS i f ρ) φ := by
  unfold extS
  rw [h]
  refine run_mut hc hm ?_ q
  rw [hg]
  show (if _ then _ else _) = _
  rw [if_pos hl]
theorem run_pop {j : Nat} {xs : List D} {x : D} {c : Cell} (hc : ρ[j]? = some (some c)) (hm : c.mine = true) (hg : c.got = .list (xs ++ [x])) (q : φ (.nx ((ρ.set j (some (c.put (.list xs)))).set i (some (.sh x))))) : Run (setX i (popX j) ρ) φ := by
  refine ⟨_, ?_, q⟩
  unfold setX popX
  rw [hc]
  simp [hm, hg]
theorem run_asg {a : D → Nv → Option Nv} {x : Option D} (h : x = some d) (ha : a d ρ = some ρ') (q : φ (.nx ρ')) : Run (x.bind fun d => (a d ρ).map .nx) φ := ⟨_, by rw [h]; show (a d ρ).map _ = _; rw [ha]; rfl, q⟩
theorem run_asgX {x : Option (D × Nv)} {a : D → Nv → Option Nv} {ρ1 : Nv} (h : x = some (d, ρ1)) (ha : a d ρ1 = some ρ') (q : φ (.nx ρ')) : Run (x.bind fun r => (a r.1 r.2).map .nx) φ := ⟨_, by rw [h]; show (a d ρ1).map _ = _; rw [ha]; rfl, q⟩
theorem run_share (hc : shrS i ρ = some ρ') (q : Run (g ρ') φ) : Run ((fun ρ => (shrS i ρ).bind g) ρ) φ := by
  show Run ((shrS i ρ).bind g) φ
  rw [hc]
  exact q
theorem run_for {a : D → Nv → Option Nv} {x : Option (List D)} (I : Nat → Nv → Prop) (hi : x = some ds) (h0 : I 0 ρ)
    (hs : ∀ j d ρ, ds[j]? = some d → I j ρ → ∃ ρ1, a d ρ = some ρ1 ∧ Run (g ρ1) (Turn (I (j + 1)) φ)) (hd : ∀ ρ', I ds.length ρ' → φ (.nx ρ')) : Run (x.bind fun ds => forS a g ds ρ) φ := by
  rw [hi]
  show Run (forS a g ds ρ) φ
  have key : ∀ (r : List D) (j : Nat) (ρ : Nv), ds.drop j = r → j ≤ ds.length → I j ρ → Run (forS a g r ρ) φ := by
    intro r
    induction r with
    | nil =>
      intro j ρ h1 h2 h3
      have hz := congrArg List.length h1
      rw [List.length_drop, List.length_nil] at hz
      have e : j = ds.length := by omega
      subst e
      exact ⟨_, rfl, hd ρ h3⟩
    | cons d r ih =>
      intro j ρ h1 h2 h3
      have hlt : j < ds.length := by
        have := congrArg List.length h1
        simp at this
        omega
      have e : ds[j]? = some d := by
        rw [List.drop_eq_getElem_cons hlt] at h1
        cases h1
        exact List.getElem?_eq_getElem hlt
      have e2 : ds.drop (j + 1) = r := by
        rw [List.drop_eq_getElem_cons hlt] at h1
        cases h1
        rfl
      obtain ⟨ρ1, q1, r1, q2, q3⟩ := hs j d ρ e h3
      rw [forS, q1]
      show Run ((g ρ1).bind _) φ
      rw [q2]
      cases r1 with
      | nx ρ2 => exact ih (j + 1) ρ2 e2 (by omega) q3
      | ct ρ2 => exact ih (j + 1) ρ2 e2 (by omega) q3
      | bk ρ2 => exact ⟨_, rfl, q3⟩
      | rt d o ρ2 => exact ⟨_, rfl, q3⟩
      | exc c => exact ⟨_, rfl, q3⟩
  exact key ds 0 ρ rfl (Nat.zero_le _) h0
theorem run_while {n : Nat} (I : Nat → Nv → Prop) (h0 : I n ρ) (hs : ∀ n ρ, I n ρ → ∃ b, t ρ = some b ∧ (b = false → φ (.nx ρ)) ∧ (b = true → Run (g ρ) (Turn (fun ρ' => ∃ m, m < n ∧ I m ρ') φ))) : Run (whileC t g ρ) φ := by
  have key : ∀ n ρ, I n ρ → ∃ r, whileS t g (n + 1) ρ = some r ∧ φ r := by
    intro n
    induction n using Nat.strongRecOn with
    | _ n ih =>
      intro ρ h
      obtain ⟨b, e, h1, h2⟩ := hs n ρ h
      rw [whileS, e]
      cases b with
      | false => exact ⟨_, rfl, h1 rfl⟩
      | true =>
        obtain ⟨r, e2, q⟩ := h2 rfl
        show ∃ r, (g ρ).bind _ = some r ∧ φ r
        rw [e2]
        have more : ∀ ρ', (∃ m, m < n ∧ I m ρ') → ∃ r, whileS t g n ρ' = some r ∧ φ r := fun ρ' ⟨m, hm, hI⟩ => by
          obtain ⟨r, q1, q2⟩ := ih m hm ρ' hI
          exact ⟨r, whileS_up q1 n (by omega), q2⟩
        cases r with
        | nx ρ' => exact more ρ' q
        | ct ρ' => exact more ρ' q
        | bk ρ' => exact ⟨_, rfl, q⟩
        | rt d o ρ' => exact ⟨_, rfl, q⟩
        | exc c => exact ⟨_, rfl, q⟩
  obtain ⟨r, e, q⟩ := key n ρ h0
  exact ⟨r, whileC_is e, q⟩
theorem sem_of (hk : ds.length = k) (h : Run (g (shs ds m)) (Ret k o ψ)) : ∃ d, semR k m g ds = some (.ret d o []) ∧ ψ d := by
  obtain ⟨r, e, q⟩ := h
  cases r with
  | rt d o' ρ =>
    obtain ⟨rfl, h1, h2⟩ := q
    refine ⟨d, ?_, h2⟩
    unfold semR
    rw [if_pos hk, e]
    show (if _ then _ else _) = _
    rw [if_pos h1]
  | nx ρ => exact q.elim
  | bk ρ => exact q.elim
  | ct ρ => exact q.elim
  | exc c => exact q.elim
theorem sem_eq (hk : ds.length = k) (h : Run (g (shs ds m)) (Ret k o (· = d))) : semR k m g ds = some (.ret d o []) := by
  obtain ⟨d', e, rfl⟩ := sem_of hk h
  exact e
theorem ret_ok {ρ : Nv} (hk : k ≤ ρ.length) (h : ψ d) : Ret k o ψ (.rt d o ρ) := ⟨rfl, hk, h⟩
theorem thn_rt (h : φ (.rt d o ρ)) : Thn g φ (.rt d o ρ) := h
theorem turn_rt {J : Nv → Prop} (h : φ (.rt d o ρ)) : Turn J φ (.rt d o ρ) := h
/-! ### the same, with what follows -/
theorem rs_set (h : f ρ = some d) (q : Run (g' (ρ.set i (some (.sh d)))) φ) : Run (seqS (setS i f) g' ρ) φ := run_seq (run_set h q)
theorem rs_setN (h : f ρ = some d) (q : Run (g' (ρ.set i (some (.ow d)))) φ) : Run (seqS (setN i f) g' ρ) φ := run_seq (run_setN h q)
/-- if t: leaves; the rest -/
theorem rs_if (h : t ρ = some b) (h1 : b = true → Run (g ρ) (Thn g' φ)) (h2 : b = false → Run (g' ρ) φ) : Run (seqS (ifS t g (fun ρ => some (.nx ρ))) g' ρ) φ :=
  run_seq (run_if h h1 fun z => run_nx (h2 z))
theorem rs_ifs {g1 g2 : Nv → Option SR} (h : t ρ = some b) (h1 : b = true → Run (g1 ρ) (Thn g' φ)) (h2 : b = false → Run (g2 ρ) (Thn g' φ)) : Run (seqS (ifS t g1 g2) g' ρ) φ :=
  run_seq (run_if h h1 h2)
theorem rs_while {n : Nat} (I : Nat → Nv → Prop) (h0 : I n ρ) (hs : ∀ n ρ, I n ρ → ∃ b, t ρ = some b ∧ (b = false → Run (g' ρ) φ) ∧ (b = true → Run (g ρ) (Turn (fun ρ' => ∃ m, m < n ∧ I m ρ') (Thn g' φ)))) : Run (seqS (whileC t g) g' ρ) φ :=
  run_seq (run_while I h0 hs)
theorem rs_for {a : D → Nv → Option Nv} {it : Nv → Option (List D)} (I : Nat → Nv → Prop) (hi : it ρ = some ds) (h0 : I 0 ρ)
    (hs : ∀ j d ρ, ds[j]? = some d → I j ρ → ∃ ρ1, a d ρ = some ρ1 ∧ Run (g ρ1) (Turn (I (j + 1)) (Thn g' φ))) (hd : ∀ ρ', I ds.length ρ' → Run (g' ρ') φ) : Run (seqS (fun ρ => (it ρ).bind fun ds => forS a g ds ρ) g' ρ) φ :=
  run_seq (run_for I hi h0 hs hd)
theorem rs_app {xs : List D} {c : Cell} (h : f ρ = some d) (hc : ρ[i]? = some (some c)) (hm : c.mine = true) (hg : c.got = .list xs) (hl : xs.length < 100000) (q : Run (g' (ρ.set i (some (c.put (.list (xs ++ [d])))))) φ) : Run (seqS (appS i f) g' ρ) φ := run_seq (run_app h hc hm hg hl q)
theorem rs_pop {j : Nat} {xs : List D} {x : D} {c : Cell} (hc : ρ[j]? = some (some c)) (hm : c.mine = true) (hg : c.got = .list (xs ++ [x])) (q : Run (g' ((ρ.set j (some (c.put (.list xs)))).set i (some (.sh x)))) φ) : Run (seqS (setX i (popX j)) g' ρ) φ := run_seq (run_pop hc hm hg q)
theorem rs_asg {a : D → Nv → Option Nv} (h : f ρ = some d) (ha : a d ρ = some ρ') (q : Run (g' ρ') φ) : Run (seqS (fun ρ => (f ρ).bind fun d => (a d ρ).map .nx) g' ρ) φ := run_seq (run_asg h ha q)
theorem rs_asgX {fx : Nv → Option (D × Nv)} {a : D → Nv → Option Nv} {ρ1 : Nv} (h : fx ρ = some (d, ρ1)) (ha : a d ρ1 = some ρ') (q : Run (g' ρ') φ) : Run (seqS (fun ρ => (fx ρ).bind fun r => (a r.1 r.2).map .nx) g' ρ) φ := run_seq (run_asgX h ha q)
end

/-! ## comprehensions -/
section
variable {ρ : Nv} {t : Nv → Option Bool} {f : Nv → Option D} {fi : Nv → Option (List D)} {i : Nat} {ds : List D} {p : D → Bool} {F : D → D}
theorem lcD_fm : ∀ ds : List D, (∀ x ∈ ds, t (ρ.set i (some (.sh x))) = some (p x)) → (∀ x ∈ ds, p x = true → f (ρ.set i (some (.sh x))) = some (F x)) → lcD i t f ρ ds = some ((ds.filter p).map F)
  | [], _, _ => rfl
  | x :: r, h1, h2 => by
    have ih := lcD_fm r (fun z hz => h1 z (List.mem_cons_of_mem _ hz)) fun z hz => h2 z (List.mem_cons_of_mem _ hz)
    rw [lcD]
    show (t (ρ.set i (some (.sh x)))).bind _ = _
    rw [h1 x List.mem_cons_self]
    show (if p x = true then _ else _) = _
    by_cases hp : p x = true
    · rw [if_pos hp, h2 x List.mem_cons_self hp]
      show (lcD i t f ρ r).map _ = _
      rw [ih, List.filter_cons_of_pos hp]
      rfl
    · rw [if_neg hp, ih, List.filter_cons_of_neg hp]
theorem lcV_fm (p : D → Bool) (F : D → D) (hi : fi ρ = some ds) (hn : noMine ρ i = true) (hl : ds.length ≤ 100000) (h1 : ∀ x ∈ ds, t (ρ.set i (some (.sh x))) = some (p x)) (h2 : ∀ x ∈ ds, p x = true → f (ρ.set i (some (.sh x))) = some (F x)) : lcV i fi t f ρ = some (.list ((ds.filter p).map F)) := by
  unfold lcV
  rw [hi]
  show (if _ then _ else _) = _
  rw [if_pos ⟨hn, hl⟩, lcD_fm ds h1 h2]
  rfl
theorem lcV_map (F : D → D) (hi : fi ρ = some ds) (hn : noMine ρ i = true) (hl : ds.length ≤ 100000) (h : ∀ x ∈ ds, f (ρ.set i (some (.sh x))) = some (F x)) : lcV i fi (fun _ => some true) f ρ = some (.list (ds.map F)) := by
  rw [lcV_fm (fun _ => true) F hi hn hl (fun _ _ => rfl) fun x hx _ => h x hx, List.filter_eq_self.mpr fun _ _ => rfl]
end

/-! ## small evaluations -/
theorem eqv_int (i j : Int) : PyData.eqv (.int i) (.int j) = decide (i = j) := by
  rw [PyData.eqv]
  rfl
theorem eqv_str (x y : Str) : PyData.eqv (.str x) (.str y) = decide (x = y) := by
  rw [PyData.eqv]
  rfl
theorem eqD_int (i j : Int) : eqD (.int i) (.int j) = some (.bool (decide (i = j))) := by
  unfold eqD
  rw [if_pos ⟨shaped_int, shaped_int⟩, eqv_int]
theorem neD_int (i j : Int) : neD (.int i) (.int j) = some (.bool (!decide (i = j))) := by
  unfold neD
  rw [if_pos ⟨shaped_int, shaped_int⟩, eqv_int]
/-- a text that is fit to be compared -/
def TxOk (x : Str) : Prop := x.length ≤ 100000 ∧ PyData.strOk x = true
theorem TxOk.shaped {x : Str} (h : TxOk x) : SeqAt.shaped (.str x) = true := shaped_str h.1 h.2
theorem TxOk.fine {x : Str} (h : TxOk x) (n : Nat) : fine n (.str x) = true := fine_str h.1 (strOk_all.mp h.2)
theorem eqD_str {x y : Str} (h1 : TxOk x) (h2 : TxOk y) : eqD (.str x) (.str y) = some (.bool (decide (x = y))) := by
  unfold eqD
  rw [if_pos ⟨h1.shaped, h2.shaped⟩, eqv_str]
theorem neD_str {x y : Str} (h1 : TxOk x) (h2 : TxOk y) : neD (.str x) (.str y) = some (.bool (!decide (x = y))) := by
  unfold neD
  rw [if_pos ⟨h1.shaped, h2.shaped⟩, eqv_str]
theorem callS_of {ρ : Nv} {k : Nat} {sem : List D → Option Ou} {fr : Nv → Option (List D)} {ds os : List D} {d : D} {o : Bool} (h : fr ρ = some ds) (e : sem ds = some (.ret d o os)) (hk : ds.length = k := by rfl) : callS k sem fr ρ = some d := by
  unfold callS
  rw [h]
  show (if _ then _ else _) = _
  rw [if_pos hk, e]
theorem callO_of {ρ : Nv} {k : Nat} {sem : List D → Option Ou} {fr : Nv → Option (List D)} {ds os : List D} {d : D} (h : fr ρ = some ds) (e : sem ds = some (.ret d true os)) (hk : ds.length = k := by rfl) : callO k sem fr ρ = some d := by
  unfold callO
  rw [h]
  show (if _ then _ else _) = _
  rw [if_pos hk, e]
theorem orT_of {ga gb : Nv → Option Bool} {ρ : Nv} {a b : Bool} (h1 : ga ρ = some a) (h2 : a = false → gb ρ = some b) : orT ga gb ρ = some (a || b) := by
  unfold orT
  rw [h1]
  cases a with
  | true => rfl
  | false => exact h2 rfl
theorem andT_of {ga gb : Nv → Option Bool} {ρ : Nv} {a b : Bool} (h1 : ga ρ = some a) (h2 : a = true → gb ρ = some b) : andT ga gb ρ = some (a && b) := by
  unfold andT
  rw [h1]
  cases a with
  | false => rfl
  | true => exact h2 rfl
theorem andV_of {fa fb : Nv → Option D} {ρ : Nv} {a b : Bool} (h1 : fa ρ = some (.bool a)) (h2 : a = true → fb ρ = some (.bool b)) : andV fa fb ρ = some (.bool (a && b)) := by
  unfold andV
  rw [h1]
  cases a with
  | false => rfl
  | true => exact h2 rfl
theorem orV_of {fa fb : Nv → Option D} {ρ : Nv} {a b : Bool} (h1 : fa ρ = some (.bool a)) (h2 : a = false → fb ρ = some (.bool b)) : orV fa fb ρ = some (.bool (a || b)) := by
  unfold orV
  rw [h1]
  cases a with
  | true => rfl
  | false => exact h2 rfl
theorem notT_of {ga : Nv → Option Bool} {ρ : Nv} {a : Bool} (h : ga ρ = some a) : notT ga ρ = some (!a) := by
  unfold notT
  rw [h]
  rfl
theorem mkT_of {fr : Nv → Option (List D)} {ρ : Nv} {xs : List D} (h : fr ρ = some xs) (hl : xs.length ≤ 100000 := by exact Nat.le_of_ble_eq_true rfl) : mkT fr ρ = some (.tuple xs) := by
  unfold mkT
  rw [h, Option.bind_some, if_pos hl]
theorem mkL_of {fr : Nv → Option (List D)} {ρ : Nv} {xs : List D} (h : fr ρ = some xs) (hl : xs.length ≤ 100000 := by exact Nat.le_of_ble_eq_true rfl) : mkL fr ρ = some (.list xs) := by
  unfold mkL
  rw [h, Option.bind_some, if_pos hl]
theorem trT_of {x : Option D} {d : D} {b : Bool} (h : x = some d) (e : truD d = some b) : x.bind truD = some b := by
  rw [h]
  exact e
theorem ch3_of {g g' : D → D → Option D} {fa fb fc : Nv → Option D} {ρ : Nv} {x y z : D} {a b : Bool} (h1 : fa ρ = some x) (h2 : fb ρ = some y) (h3 : fc ρ = some z) (e1 : g x y = some (.bool a)) (e2 : g' y z = some (.bool b)) : ch3 g g' fa fb fc ρ = some (.bool (a && b)) := by
  unfold ch3
  rw [h1, Option.bind_some, h2, Option.bind_some, e1, Option.bind_some]
  cases a with
  | false => rfl
  | true =>
    show (fc ρ).bind _ = _
    rw [h3]
    exact e2
/-! ### over lists of things -/
section
variable {α : Type} {ρ : Nv} {t : Nv → Option Bool} {f : Nv → Option D} {fi : Nv → Option (List D)} {i : Nat}
theorem lcD_of (q : α → D) (p : α → Bool) (F : α → D) : ∀ xs : List α, (∀ x ∈ xs, t (ρ.set i (some (.sh (q x)))) = some (p x)) → (∀ x ∈ xs, p x = true → f (ρ.set i (some (.sh (q x)))) = some (F x)) → lcD i t f ρ (xs.map q) = some ((xs.filter p).map F)
  | [], _, _ => rfl
  | x :: r, h1, h2 => by
    have ih := lcD_of q p F r (fun z hz => h1 z (List.mem_cons_of_mem _ hz)) fun z hz => h2 z (List.mem_cons_of_mem _ hz)
    rw [List.map_cons, lcD]
    show (t (ρ.set i (some (.sh (q x))))).bind _ = _
    rw [h1 x List.mem_cons_self]
    show (if p x = true then _ else _) = _
    by_cases hp : p x = true
    · rw [if_pos hp, h2 x List.mem_cons_self hp]
      show (lcD i t f ρ (r.map q)).map _ = _
      rw [ih, List.filter_cons_of_pos hp]
      rfl
    · rw [if_neg hp, ih, List.filter_cons_of_neg hp]
theorem lcV_of (xs : List α) (q : α → D) (p : α → Bool) (F : α → D) (hi : fi ρ = some (xs.map q)) (hn : noMine ρ i = true) (hl : xs.length ≤ 100000) (h1 : ∀ x ∈ xs, t (ρ.set i (some (.sh (q x)))) = some (p x)) (h2 : ∀ x ∈ xs, p x = true → f (ρ.set i (some (.sh (q x)))) = some (F x)) : lcV i fi t f ρ = some (.list ((xs.filter p).map F)) := by
  unfold lcV
  rw [hi]
  show (if _ then _ else _) = _
  rw [if_pos ⟨hn, by rw [List.length_map]; exact hl⟩, lcD_of q p F xs h1 h2]
  rfl
theorem lcV_to (xs : List α) (q : α → D) (F : α → D) (hi : fi ρ = some (xs.map q)) (hn : noMine ρ i = true) (hl : xs.length ≤ 100000) (h : ∀ x ∈ xs, f (ρ.set i (some (.sh (q x)))) = some (F x)) : lcV i fi (fun _ => some true) f ρ = some (.list (xs.map F)) := by
  rw [lcV_of xs q (fun _ => true) F hi hn hl (fun _ _ => rfl) fun x hx _ => h x hx, List.filter_eq_self.mpr fun _ _ => rfl]
theorem rs_forOf {φ : SR → Prop} {g g' : Nv → Option SR} {a : D → Nv → Option Nv} (xs : List α) (q : α → D) (I : List α → Nv → Prop) (hi : fi ρ = some (xs.map q)) (h0 : I [] ρ)
    (hs : ∀ ys x r ρ, xs = ys ++ x :: r → I ys ρ → ∃ ρ1, a (q x) ρ = some ρ1 ∧ Run (g ρ1) (Turn (I (ys ++ [x])) (Thn g' φ))) (hd : ∀ ρ', I xs ρ' → Run (g' ρ') φ) : Run (seqS (fun ρ => (fi ρ).bind fun ds => forS a g ds ρ) g' ρ) φ := by
  refine rs_for (fun j ρ => I (xs.take j) ρ) hi h0 (fun j d ρ hd hI => ?_) (fun ρ' h => hd ρ' ?_)
  · rw [List.getElem?_map] at hd
    obtain ⟨x, hx, rfl⟩ := Option.map_eq_some_iff.mp hd
    obtain ⟨hj, hx'⟩ := List.getElem?_eq_some_iff.mp hx
    subst hx'
    have e : xs = xs.take j ++ xs[j] :: xs.drop (j + 1) := by rw [← List.drop_eq_getElem_cons hj, List.take_append_drop]
    obtain ⟨ρ1, h1, h2⟩ := hs _ _ _ ρ e hI
    refine ⟨ρ1, h1, ?_⟩
    rw [List.take_add_one, List.getElem?_eq_getElem hj]
    exact h2
  · rw [List.length_map, List.take_length] at h
    exact h
theorem run_forOf {φ : SR → Prop} {g : Nv → Option SR} {a : D → Nv → Option Nv} {x : Option (List D)} (xs : List α) (q : α → D) (I : List α → Nv → Prop) (hi : x = some (xs.map q)) (h0 : I [] ρ)
    (hs : ∀ ys x r ρ, xs = ys ++ x :: r → I ys ρ → ∃ ρ1, a (q x) ρ = some ρ1 ∧ Run (g ρ1) (Turn (I (ys ++ [x])) φ)) (hd : ∀ ρ', I xs ρ' → φ (.nx ρ')) : Run (x.bind fun ds => forS a g ds ρ) φ := by
  refine run_for (fun j ρ => I (xs.take j) ρ) hi h0 (fun j d ρ hd hI => ?_) (fun ρ' h => hd ρ' ?_)
  · rw [List.getElem?_map] at hd
    obtain ⟨x, hx, rfl⟩ := Option.map_eq_some_iff.mp hd
    obtain ⟨hj, hx'⟩ := List.getElem?_eq_some_iff.mp hx
    subst hx'
    have e : xs = xs.take j ++ xs[j] :: xs.drop (j + 1) := by rw [← List.drop_eq_getElem_cons hj, List.take_append_drop]
    obtain ⟨ρ1, h1, h2⟩ := hs _ _ _ ρ e hI
    refine ⟨ρ1, h1, ?_⟩
    rw [List.take_add_one, List.getElem?_eq_getElem hj]
    exact h2
  · rw [List.length_map, List.take_length] at h
    exact h
end
/-! ### texts put together -/
theorem join_strs (ss : List Str) : (Txt.join (⟨#[]⟩ : Str) ss).cps.toList = ss.flatMap (·.cps.toList) := by
  show (Builtin.Str.glued _ _).cps.toList = _
  rw [StrLaws.glued_eq_join]
  induction ss with
  | nil => rfl
  | cons c r ih =>
    match r, ih with
    | [], _ => simp [Str.join]
    | d :: r, ih =>
      show ((Str.append (Str.append c (⟨#[]⟩ : Str)) (Str.join ⟨#[]⟩ (d :: r))).cps).toList = _
      simp only [Str.append, Array.toList_append, ih]
      simp
theorem strs_of : ∀ ss : List Str, strsD (ss.map .str) = some ss
  | [] => rfl
  | c :: r => by
    show (strsD (r.map PyData.str)).map _ = _
    rw [strs_of r]
    rfl
theorem joinD_of (ss : List Str) (h : (ss.map (·.length)).sum ≤ 100000) : ∃ t : Str, joinD (.str ⟨#[]⟩) (.list (ss.map .str)) = some (.str t) ∧ t.cps.toList = ss.flatMap (·.cps.toList) := by
  refine ⟨_, ?_, join_strs ss⟩
  show (strsD (ss.map PyData.str)).bind _ = _
  rw [strs_of]
  show (if _ then _ else _) = _
  rw [if_pos]
  show _ + _ * 0 ≤ 100000
  omega
theorem str_ext {x y : Str} (h : x.cps.toList = y.cps.toList) : x = y := by
  obtain ⟨⟨a⟩⟩ := x
  obtain ⟨⟨b⟩⟩ := y
  have : a = b := h
  rw [this]
end DS

namespace PySem.SeqAt
open AutoSeq1 (wpAny_loadPart')
open MeetsSeq MeetsSeq2 MeetsSeq3 SeqRoads2
/-! ## a dict and a text -/
section
variable (a : Addr) (b : Str) (u : Tok) (dd : Option Addr) (es : Array DictEntry) (ep : Nat) (sl : Array (Option Value))
theorem ds_dict_eq_str : Meets (Builtin.«dict.__eq__» ⟨[.ref a, .str b u], []⟩) (fun _ R s => s.heap.get? a = some { cls := .type "dict", dict := dd, data := .dict es ep, slots := sl } ∧ R (.ok (.ret .notImplemented)) s) :=
  .of_wp fun prog w A R s h => by obtain ⟨hp, g, d, tk, os⟩ := s; obtain ⟨hl, h⟩ := h; have f1 := F.sub_str_dict; wp_walk using wpAny_loadPart' hl, wpAny_load hl; exact ⟨_, rfl, h⟩
theorem ds_dict_ne_str : Meets (Builtin.«dict.__ne__» ⟨[.ref a, .str b u], []⟩) (fun _ R s => s.heap.get? a = some { cls := .type "dict", dict := dd, data := .dict es ep, slots := sl } ∧ R (.ok (.ret .notImplemented)) s) :=
  .of_wp fun prog w A R s h => by obtain ⟨hp, g, d, tk, os⟩ := s; obtain ⟨hl, h⟩ := h; have f1 := F.sub_str_dict; wp_walk using wpAny_loadPart' hl, wpAny_load hl; exact ⟨_, rfl, h⟩
theorem ds_str_eq_dict : Meets (Builtin.«str.__eq__» ⟨[.str b u, .ref a], []⟩) (fun _ R s => s.heap.get? a = some { cls := .type "dict", dict := dd, data := .dict es ep, slots := sl } ∧ R (.ok (.ret .notImplemented)) s) :=
  .of_wp fun prog w A R s h => by obtain ⟨hp, g, d, tk, os⟩ := s; obtain ⟨hl, h⟩ := h; wp_walk using wpAny_loadPart' hl, wpAny_load hl; exact ⟨_, rfl, h⟩
theorem ds_str_ne_dict : Meets (Builtin.«str.__ne__» ⟨[.str b u, .ref a], []⟩) (fun _ R s => s.heap.get? a = some { cls := .type "dict", dict := dd, data := .dict es ep, slots := sl } ∧ R (.ok (.ret .notImplemented)) s) :=
  .of_wp fun prog w A R s h => by obtain ⟨hp, g, d, tk, os⟩ := s; obtain ⟨hl, h⟩ := h; wp_walk using wpAny_loadPart' hl, wpAny_load hl; exact ⟨_, rfl, h⟩
end
def DsDict (s : Shared) (a : Addr) : Prop := ∃ o es ep, s.heap.get? a = some o ∧ o.cls = .type "dict" ∧ o.data = .dict es ep
section
variable {A : Around} {s : Shared} {a : Addr}
theorem ds_rc_dict_str (hd : DsDict s a) (b : Str) (u : Tok) (hu : A.units < cLine) : RcAt A s (.ref a) (.str b u) false := fun prog w E Q h => by
  obtain ⟨⟨cls, dd, data, sl⟩, es, ep, ho, hc, hd⟩ := hd
  simp only at hc hd
  subst hc hd
  exact rc_eq_decline_or (k := false) ⟨_, ho, rfl⟩ (typeIs_str s b u) (by decide) F.sub_str_dict F.slot_dict_eq F.slot_str_eq_refl
    (fun _ hq => call_meets F.slot_dict_eq ⟨_, ho, rfl⟩ F.entry_dict_eq (F.args_dict_eq_2 _ _) (ds_dict_eq_str a b u dd es ep sl) ⟨ho, hq⟩)
    (fun _ hq => call_meets F.slot_str_eq_refl (typeIs_str s b u) F.entry_str_eq (F.args_str_eq_2 _ _) (ds_str_eq_dict a b u dd es ep sl) ⟨ho, hq⟩)
    (fun _ hq => wpAny_of_eq (rfl : isSame (.ref a) (.str b u) = pure false) hq) (.inr hu) h
theorem ds_rc_str_dict (hd : DsDict s a) (b : Str) (u : Tok) (hu : A.units < cLine) : RcAt A s (.str b u) (.ref a) false := fun prog w E Q h => by
  obtain ⟨⟨cls, dd, data, sl⟩, es, ep, ho, hc, hd⟩ := hd
  simp only at hc hd
  subst hc hd
  exact rc_eq_decline_or (k := false) (typeIs_str s b u) ⟨_, ho, rfl⟩ (by decide) F.sub_dict_str F.slot_str_eq F.slot_dict_eq_refl
    (fun _ hq => call_meets F.slot_str_eq (typeIs_str s b u) F.entry_str_eq (F.args_str_eq_2 _ _) (ds_str_eq_dict a b u dd es ep sl) ⟨ho, hq⟩)
    (fun _ hq => call_meets F.slot_dict_eq_refl ⟨_, ho, rfl⟩ F.entry_dict_eq (F.args_dict_eq_2 _ _) (ds_dict_eq_str a b u dd es ep sl) ⟨ho, hq⟩)
    (fun _ hq => wpAny_of_eq (rfl : isSame (.str b u) (.ref a) = pure false) hq) (.inr hu) h
theorem ds_ne_dict_str (hd : DsDict s a) (b : Str) (u : Tok) (hu : A.units < cLine) : RcNeAt A s (.ref a) (.str b u) true := fun prog w E Q h => by
  obtain ⟨⟨cls, dd, data, sl⟩, es, ep, ho, hc, hd⟩ := hd
  simp only at hc hd
  subst hc hd
  exact rc_ne_decline_or (k := false) ⟨_, ho, rfl⟩ (typeIs_str s b u) (by decide) F.sub_str_dict F.slot_dict_ne F.slot_str_ne_refl
    (fun _ hq => call_meets F.slot_dict_ne ⟨_, ho, rfl⟩ F.entry_dict_ne (F.args_dict_ne_2 _ _) (ds_dict_ne_str a b u dd es ep sl) ⟨ho, hq⟩)
    (fun _ hq => call_meets F.slot_str_ne_refl (typeIs_str s b u) F.entry_str_ne (F.args_str_ne_2 _ _) (ds_str_ne_dict a b u dd es ep sl) ⟨ho, hq⟩)
    (fun _ hq => wpAny_of_eq (rfl : isSame (.ref a) (.str b u) = pure false) hq) (.inr hu) h
theorem ds_eq_str_dict (hd : DsDict s a) (b : Str) (u : Tok) (hu : A.units < cLine) : EqAt A s (.str b u) (.ref a) false := fun prog w E Q h => by
  unfold eqBool
  refine wpAny_holding ?_
  refine wpAny_ite_split (fun hab => absurd (eq_of_beq hab) nofun) (fun _ => ?_)
  exact wpAny_bind (ds_rc_str_dict hd b u hu prog w E _ (wpAny_truthy_bool h))
end
end PySem.SeqAt
namespace DS
open PySem L2

/-! ## == where dicts lie within: an empty one and a text, or the same data -/
def eqQ (x y : D) : Option Bool := if SeqAt.shaped x = true ∧ SeqAt.shaped y = true then some (PyData.eqv x y) else match x, y with
  | .str _, .dict [] => some false
  | _, _ => none
def eqQs : List D → List D → Option Bool
  | [], [] => some true
  | x :: xs, y :: ys => (eqQ x y).bind fun b => (eqQs xs ys).map fun c => b && c
  | _, _ => some false
def eqR (x y : D) : Option Bool := if SeqAt.shaped x = true ∧ SeqAt.shaped y = true then some (PyData.eqv x y) else match x, y with
  | .str _, .dict [] => some false
  | .tuple xs, .tuple ys => eqQs xs ys
  | _, _ => none
def anyR (d : D) : List D → Option Bool
  | [] => some false
  | z :: r => (eqR z d).bind fun b => (anyR d r).map fun c => b || c
def inR (x y : D) : Option Bool := match y with
  | .list ds => if SeqAt.shaped (.list ds) = true then anyR x ds else none
  | .tuple ds => if SeqAt.shaped (.tuple ds) = true then anyR x ds else none
  | _ => none
def inRD (x y : D) : Option D := (inR x y).map .bool
def ninRD (x y : D) : Option D := (inR x y).map fun b => .bool (!b)
def neRD (x y : D) : Option D := if SeqAt.shaped x = true ∧ SeqAt.shaped y = true then some (.bool (!PyData.eqv x y)) else match x, y with
  | .dict [], .str _ => some (.bool true)
  | _, _ => none
/-- data that is itself at any place -/
def selfOk : Nat → D → Bool
  | _, .none => true
  | _, .bool _ => true
  | _, .int _ => true
  | _, .str x => PyData.strOk x
  | _, .dict es => es.isEmpty
  | n + 1, .list ds => ds.all (selfOk n)
  | n + 1, .tuple ds => ds.all (selfOk n)
  | 0, .list _ => false
  | 0, .tuple _ => false
open Classical in
noncomputable def eqXD (x y : D) : Option D := if SeqAt.shaped x = true ∧ SeqAt.shaped y = true then some (.bool (PyData.eqv x y)) else match x, y with
  | .dict [], .str _ => some (.bool false)
  | .list xs, y => if y = .list xs ∧ xs.all (selfOk 20) = true then some (.bool true) else none
  | _, _ => none
section
variable {X : Cx} {pins : List (Addr × Obj)} {σ : L2.St} {F H : Hp} {s : Shared}
theorem rd_dict (I : Inv X pins σ H s) {v : V} {u : Value} {es : List (D × D)} (r : Rp X.K H v (.dict es)) (he : es = []) (ru : RelV v u) : ∃ a, u = .ref a ∧ (a == sysModules) = false ∧ s.heap.DictOf (mixKind X.prog X.w) a [] := by
  generalize hd : PyData.dict es = d at r
  cases r with
  | dK rd _ =>
    rename_i kvs _
    rw [he] at hd
    have hk : kvs = [] := by
      injection hd with hd
      simpa using hd.symm
    subst hk
    cases ru
    obtain ⟨_, h2, vs, h3, h4⟩ := dk_rd I.hok rd
    cases h3
    exact ⟨_, rfl, h2, h4⟩
  | dT _ _ hn =>
    rw [he] at hd
    injection hd with hd
    exact absurd (by simpa using hd.symm) hn
  | _ => cases hd
theorem ds_dict (I : Inv X pins σ H s) {v : V} {u : Value} (r : Rp X.K H v (.dict [])) (ru : RelV v u) : ∃ a, u = .ref a ∧ SeqAt.DsDict s a := by
  obtain ⟨a, rfl, _, o, es, ep, h1, h2, h3, _⟩ := rd_dict I r rfl ru
  exact ⟨a, rfl, o, es, ep, h1, h2.1, h3⟩
theorem rd_str {v : V} {u : Value} {x : Str} (r : Rp X.K H v (.str x)) (ru : RelV v u) : ∃ t, u = .str x t := by
  cases r
  exact ru
theorem rd_shaped (I : Inv X pins σ H s) {v : V} {u : Value} {d : D} (r : Rp X.K H v d) (hs : SeqAt.shaped d = true) (ru : RelV v u) : ∃ as, Reads s.heap u d as := Dp.reads I d v u (r.dp (shp hs)) ru
theorem eqQ_at (I : Inv X pins σ H s) {v w : V} {a b : Value} {x y : D} {k : Bool} {A : Around} (hu : A.units + 64 < cLine) (r1 : Rp X.K H v x) (r2 : Rp X.K H w y) (ra : RelV v a) (rb : RelV w b) (h : eqQ x y = some k) : SeqAt.EqAt A s a b k := by
  unfold eqQ at h
  split at h
  · rename_i hc
    cases h
    obtain ⟨as, q1⟩ := rd_shaped I r1 hc.1 ra
    obtain ⟨bs, q2⟩ := rd_shaped I r2 hc.2 rb
    exact SeqAt.eqAt_reads x y A s a b as bs q1 q2 (shp hc.1) (shp hc.2) (SeqAt.room_of_shaped hc.1 hu)
  · split at h
    · cases h
      obtain ⟨t, rfl⟩ := rd_str r1 ra
      obtain ⟨c, rfl, hd⟩ := ds_dict I r2 rb
      exact SeqAt.ds_eq_str_dict hd _ t (by omega)
    · cases h
theorem eqQs_at : ∀ {xs ys : List D} {k : Bool}, eqQs xs ys = some k → ∃ e : Nat → Bool, (∀ j x y, xs[j]? = some x → ys[j]? = some y → eqQ x y = some (e j)) ∧ ((List.range (min xs.length ys.length)).all e && xs.length == ys.length) = k
  | [], [], k, h => by
    cases h
    exact ⟨fun _ => true, fun j x y h => by simp at h, rfl⟩
  | [], y :: ys, k, h => by
    cases h
    exact ⟨fun _ => true, fun j x y h => by simp at h, rfl⟩
  | x :: xs, [], k, h => by
    cases h
    exact ⟨fun _ => true, fun j x y _ h => by simp at h, rfl⟩
  | x :: xs, y :: ys, k, h => by
    obtain ⟨b, h1, h2⟩ := Option.bind_eq_some_iff.mp h
    obtain ⟨c, h3, rfl⟩ := Option.map_eq_some_iff.mp h2
    obtain ⟨e, q1, q2⟩ := eqQs_at h3
    refine ⟨fun j => match j with | 0 => b | j + 1 => e j, fun j x' y' g1 g2 => ?_, ?_⟩
    · cases j with
      | zero =>
        cases g1
        cases g2
        exact h1
      | succ j => exact q1 j x' y' (by simpa using g1) (by simpa using g2)
    · rw [← q2]
      have hm : min (x :: xs).length (y :: ys).length = min xs.length ys.length + 1 := by simp only [List.length_cons]; omega
      rw [hm, List.range_succ_eq_map, List.all_cons, List.all_map]
      simp only [List.length_cons, Bool.and_assoc]
      congr 1
      congr 1
      · simp
theorem eqQ_same (I : Inv X pins σ H s) {v w : V} {u : Value} {x y : D} {k : Bool} (r1 : Rp X.K H v x) (r2 : Rp X.K H w y) (ra : RelV v u) (rb : RelV w u) (h : eqQ x y = some k) : k = true := by
  unfold eqQ at h
  split at h
  · rename_i hc
    cases h
    obtain ⟨as, q1⟩ := rd_shaped I r1 hc.1 ra
    obtain ⟨bs, q2⟩ := rd_shaped I r2 hc.2 rb
    have e := SeqAt.Reads.unique x y u as bs (shp hc.1) q1 q2
    rw [← e]
    exact SeqAt.eqv_refl x (shp hc.1)
  · split at h
    · obtain ⟨t, e1⟩ := rd_str r1 ra
      obtain ⟨c, e2, _⟩ := ds_dict I r2 rb
      rw [e1] at e2
      cases e2
    · cases h
theorem eqR_at (I : Inv X pins σ H s) {v w : V} {a b : Value} {x y : D} {k : Bool} {A : Around} (hu : A.units + 65 < cLine) (r1 : Rp X.K H v x) (r2 : Rp X.K H w y) (ra : RelV v a) (rb : RelV w b) (h : eqR x y = some k) : SeqAt.EqAt A s a b k := by
  unfold eqR at h
  split at h
  · rename_i hc
    cases h
    obtain ⟨as, q1⟩ := rd_shaped I r1 hc.1 ra
    obtain ⟨bs, q2⟩ := rd_shaped I r2 hc.2 rb
    exact SeqAt.eqAt_reads x y A s a b as bs q1 q2 (shp hc.1) (shp hc.2) (SeqAt.room_of_shaped hc.1 (by omega))
  · split at h
    · cases h
      obtain ⟨t, rfl⟩ := rd_str r1 ra
      obtain ⟨c, rfl, hd⟩ := ds_dict I r2 rb
      exact SeqAt.ds_eq_str_dict hd _ t (by omega)
    · rename_i xs ys hns
      generalize hx : PyData.tuple xs = dx at r1
      generalize hy : PyData.tuple ys = dy at r2
      cases r1 with
      | @tup a1 vs1 ds1 s1 t1 =>
        cases hx
        cases r2 with
        | @tup a2 vs2 ds2 s2 t2 =>
          cases hy
          cases ra
          cases rb
          obtain ⟨it1, v1, ⟨o1, ho1, hc1, n1, hd1⟩, _⟩ := I.tuple s1
          obtain ⟨it2, v2, ⟨o2, ho2, hc2, n2, hd2⟩, _⟩ := I.tuple s2
          obtain ⟨e, q1, q2⟩ := eqQs_at h
          have l1 : xs.length = it1.toArray.size := by rw [List.size_toArray, ← v1.length, t1.len]
          have l2 : ys.length = it2.toArray.size := by rw [List.size_toArray, ← v2.length, t2.len]
          have get : ∀ j, j < xs.length → j < ys.length → ∃ z1 z2 u1 u2 x y, it1[j]? = some u1 ∧ it2[j]? = some u2 ∧ Rp X.K H z1 x ∧ Rp X.K H z2 y ∧ RelV z1 u1 ∧ RelV z2 u2 ∧ eqQ x y = some (e j) := fun j j1 j2 => by
            obtain ⟨z1, g1, g2⟩ := t1.get (List.getElem?_eq_getElem j1)
            obtain ⟨z2, g3, g4⟩ := t2.get (List.getElem?_eq_getElem j2)
            obtain ⟨u1, g5, g6⟩ := v1.get g1
            obtain ⟨u2, g7, g8⟩ := v2.get g3
            exact ⟨z1, z2, u1, u2, _, _, g5, g7, g2, g4, g6, g8, q1 j _ _ (List.getElem?_eq_getElem j1) (List.getElem?_eq_getElem j2)⟩
          by_cases hab : a1 = a2
          · subst hab
            have ho : o1 = o2 := Option.some.inj (ho1.symm.trans ho2)
            subst ho
            rw [hd1] at hd2
            have hi : it1 = it2 := by
              injection hd2 with h1 h2
              simpa using h1
            subst hi
            have hl : xs.length = ys.length := by omega
            have hk : k = true := by
              rw [← q2, hl]
              simp only [beq_self_eq_true, Bool.and_true, Nat.min_self]
              rw [List.all_eq_true]
              intro j hj
              rw [List.mem_range] at hj
              obtain ⟨z1, z2, u1, u2, x, y, g1, g2, g3, g4, g5, g6, g7⟩ := get j (by omega) hj
              rw [g1] at g2
              cases g2
              exact eqQ_same I g3 g4 g5 g6 g7
            rw [hk]
            exact SeqAt.EqAt.same _
          · rw [← q2, l1, l2]
            refine SeqAt.EqAt.of_refs hab (SeqAt.RcAt.tuples (items := it1.toArray) (items2 := it2.toArray) ⟨_, ho1, hc1, _, hd1⟩ ⟨_, ho2, hc2, _, hd2⟩ (by omega) fun j h1 h2 => ?_)
            obtain ⟨z1, z2, u1, u2, x, y, g1, g2, g3, g4, g5, g6, g7⟩ := get j (by omega) (by omega)
            have k1 : it1.toArray[j] = u1 := by
              obtain ⟨_, e⟩ := List.getElem?_eq_some_iff.mp g1
              simpa using e
            have k2 : it2.toArray[j] = u2 := by
              obtain ⟨_, e⟩ := List.getElem?_eq_some_iff.mp g2
              simpa using e
            rw [k1, k2]
            exact eqQ_at (A := A.in1) I (by show A.units + 1 + 64 < cLine; omega) g3 g4 g5 g6 g7
        | _ => cases hy
      | _ => cases hx
    · cases h
theorem anyR_at {d : D} : ∀ {zs : List D} {k : Bool}, anyR d zs = some k → ∃ e : D → Bool, (∀ z ∈ zs, eqR z d = some (e z)) ∧ zs.any e = k := by
  intro zs k h
  have h1 : ∀ zs k, anyR d zs = some k → (∀ z ∈ zs, ∃ b, eqR z d = some b) ∧ zs.any (fun z => (eqR z d).getD false) = k := by
    intro zs
    induction zs with
    | nil =>
      intro k h
      cases h
      exact ⟨fun z hz => (by cases hz), rfl⟩
    | cons z r ih =>
      intro k h
      obtain ⟨b, g1, g2⟩ := Option.bind_eq_some_iff.mp h
      obtain ⟨c, g3, rfl⟩ := Option.map_eq_some_iff.mp g2
      obtain ⟨q1, q2⟩ := ih c g3
      refine ⟨fun y hy => ?_, ?_⟩
      · rcases List.mem_cons.mp hy with rfl | hy
        · exact ⟨b, g1⟩
        · exact q1 y hy
      · rw [List.any_cons, g1, q2]
        rfl
  obtain ⟨q1, q2⟩ := h1 zs k h
  refine ⟨_, fun z hz => ?_, q2⟩
  obtain ⟨b, hb⟩ := q1 z hz
  rw [hb]
  rfl
end
theorem vals_get' : ∀ {xs : List V} {us : List Value} {i : Nat} {u : Value}, Vals xs us → us[i]? = some u → ∃ x, xs[i]? = some x ∧ RelV x u
  | [], _, _, _, .nil, h => by simp at h
  | x :: xs, u :: us, 0, _, .cons r t, h => by
    simp at h
    subst h
    exact ⟨x, rfl, r⟩
  | x :: xs, u :: us, i + 1, w, .cons r t, h => by
    obtain ⟨y, h1, h2⟩ := vals_get' (i := i) t (by simpa using h)
    exact ⟨y, by simpa using h1, h2⟩
section
variable {X : Cx} {cs : List Addr}
theorem inR_core {hu : X.A.units + 70 < cLine} {pins : List (Addr × Obj)} {s : Shared} {σ : L2.St} {H : Hp} {its : List Value} {vs : List V} {ds : List D} {v : V} {a : Value} {x : D} {k : Bool} (I : Inv X pins σ H s) (rv : Vals vs its) (rp : Rps X.K H vs ds) (hl : PyData.canLayAll0 ds = true) (as : List Addr) (rd : ReadsAll s.heap its ds as) (r : Rp X.K H v x) (rx : RelV v a) (h : anyR x ds = some k) :
    ∃ e : Value → Bool, (∀ y ∈ its.toArray, SeqAt.EqAt X.A.in1 s y a (e y)) ∧ its.toArray.any e = k := by
  obtain ⟨e, q1, q2⟩ := anyR_at h
  have hm := SeqAt.readsAll_map ds its as hl rd
  refine ⟨fun u => e (SeqAt.readOf s.heap u), fun y hy => ?_, ?_⟩
  · have hy : y ∈ its := by simpa using hy
    obtain ⟨j, hj⟩ := List.getElem?_of_mem hy
    obtain ⟨w, g1, g2⟩ := vals_get' rv hj
    obtain ⟨z, g3, g4⟩ := rp.get' g1
    have hz : SeqAt.readOf s.heap y = z := by
      have : (its.map (SeqAt.readOf s.heap))[j]? = some z := by rw [hm]; exact g3
      rw [List.getElem?_map, hj] at this
      exact Option.some.inj this
    show SeqAt.EqAt X.A.in1 s y a (e (SeqAt.readOf s.heap y))
    rw [hz]
    exact eqR_at (A := X.A.in1) I (by show X.A.units + 1 + 65 < cLine; omega) g4 r g2 rx (q1 z (List.mem_of_getElem? g3))
  · rw [← q2, ← hm]
    simp [List.any_map, Function.comp_def]
theorem od_inR (hu : X.A.units + 70 < cLine) : OpR X (compareOp .In) (rD X.K cs inRD) := by
  rintro pins s σ H v u a b Q I rx ry ⟨Z, F, σ', ρ, x, y, d, R, w1, w2, e, q⟩
  obtain ⟨bb, e2, rfl⟩ := Option.map_eq_some_iff.mp e
  clear e
  unfold inR at e2
  have rx' := R.all w1
  split at e2
  · split at e2
    · rename_i ds hs
      obtain ⟨l, vs, rfl, s1, r1⟩ := R.lst w2
      cases ry
      obtain ⟨its, rv, ⟨o, n, ho, hc, hn, hd⟩, _⟩ := I.list s1
      obtain ⟨as, g1⟩ := rd_shaped I (R.all w2) hs rfl
      cases g1 with
      | list k1 k2 k3 k4 =>
        rw [ho] at k1
        cases k1
        rw [hd] at k3
        injection k3 with k3 k5
        subst k3
        obtain ⟨ee, p1, p2⟩ := inR_core (hu := hu) I rv (r1.ext R.ex) (SeqAt.canLay_of_shaped hs) _ k4 rx' rx e2
        refine SeqAt.in_listAt ee ⟨_, ho, hc, _, hd⟩ p1 ?_
        rw [p2]
        exact ⟨.bl _, H, I, rfl, q _ F H (Ext.refl F) R (.bl _)⟩
    · cases e2
  · split at e2
    · rename_i ds hs
      obtain ⟨l, vs, rfl, s0, s1, r1⟩ := R.tup w2
      cases ry
      obtain ⟨its, rv, ⟨o, ho, hc, n, hd⟩, _⟩ := I.tuple s1
      obtain ⟨as, g1⟩ := rd_shaped I (R.all w2) hs rfl
      cases g1 with
      | tuple k1 k2 k3 k4 =>
        rw [ho] at k1
        cases k1
        rw [hd] at k3
        injection k3 with k3 k5
        subst k3
        obtain ⟨ee, p1, p2⟩ := inR_core (hu := hu) I rv (r1.ext R.ex) (SeqAt.canLay_of_shaped hs) _ k4 rx' rx e2
        refine SeqAt.in_tupleAt ee ⟨_, ho, hc, _, hd⟩ p1 ?_
        rw [p2]
        exact ⟨.bl _, H, I, rfl, q _ F H (Ext.refl F) R (.bl _)⟩
    · cases e2
  · cases e2
theorem od_ninR (hu : X.A.units + 70 < cLine) : OpR X (compareOp .NotIn) (rD X.K cs ninRD) := by
  rintro pins s σ H v u a b Q I rx ry ⟨Z, F, σ', ρ, x, y, d, R, w1, w2, e, q⟩
  obtain ⟨bb, e2, rfl⟩ := Option.map_eq_some_iff.mp e
  clear e
  unfold inR at e2
  have rx' := R.all w1
  split at e2
  · split at e2
    · rename_i ds hs
      obtain ⟨l, vs, rfl, s1, r1⟩ := R.lst w2
      cases ry
      obtain ⟨its, rv, ⟨o, n, ho, hc, hn, hd⟩, _⟩ := I.list s1
      obtain ⟨as, g1⟩ := rd_shaped I (R.all w2) hs rfl
      cases g1 with
      | list k1 k2 k3 k4 =>
        rw [ho] at k1
        cases k1
        rw [hd] at k3
        injection k3 with k3 k5
        subst k3
        obtain ⟨ee, p1, p2⟩ := inR_core (hu := hu) I rv (r1.ext R.ex) (SeqAt.canLay_of_shaped hs) _ k4 rx' rx e2
        refine SeqAt.notIn_listAt ee ⟨_, ho, hc, _, hd⟩ p1 ?_
        rw [p2]
        exact ⟨.bl _, H, I, rfl, q _ F H (Ext.refl F) R (.bl _)⟩
    · cases e2
  · split at e2
    · rename_i ds hs
      obtain ⟨l, vs, rfl, s0, s1, r1⟩ := R.tup w2
      cases ry
      obtain ⟨its, rv, ⟨o, ho, hc, n, hd⟩, _⟩ := I.tuple s1
      obtain ⟨as, g1⟩ := rd_shaped I (R.all w2) hs rfl
      cases g1 with
      | tuple k1 k2 k3 k4 =>
        rw [ho] at k1
        cases k1
        rw [hd] at k3
        injection k3 with k3 k5
        subst k3
        obtain ⟨ee, p1, p2⟩ := inR_core (hu := hu) I rv (r1.ext R.ex) (SeqAt.canLay_of_shaped hs) _ k4 rx' rx e2
        refine SeqAt.notIn_tupleAt ee ⟨_, ho, hc, _, hd⟩ p1 ?_
        rw [p2]
        exact ⟨.bl _, H, I, rfl, q _ F H (Ext.refl F) R (.bl _)⟩
    · cases e2
  · cases e2
theorem od_neR (hu : X.A.units + 70 < cLine) : OpR X (compareOp .NotEq) (rD X.K cs neRD) := by
  rintro pins s σ H v u a b Q I rx ry ⟨Z, F, σ', ρ, x, y, d, R, w1, w2, e, q⟩
  unfold neRD at e
  split at e
  · rename_i hc
    cases e
    exact op_neD (by omega) pins s σ H _ _ a b Q I rx ry ⟨x, y, (R.all w1).dp (shp hc.1), (R.all w2).dp (shp hc.2), hc.1, hc.2, q _ F H (Ext.refl F) R (.bl _)⟩
  · split at e
    · cases e
      obtain ⟨c, rfl, hd⟩ := ds_dict I (R.all w1) rx
      obtain ⟨t, rfl⟩ := rd_str (R.all w2) ry
      exact SeqAt.ds_ne_dict_str hd _ t (by omega) _ _ _ _ ⟨.bl _, H, I, rfl, q _ F H (Ext.refl F) R (.bl _)⟩
    · cases e
theorem self_tree {pins : List (Addr × Obj)} {s : Shared} {σ : L2.St} {H : Hp} (I : Inv X pins σ H s) : ∀ (n : Nat) (d : D) (v w : V) (a b : Value), selfOk n d = true → Rp X.K H v d → Rp X.K H w d → RelV v a → RelV w b → PySem.W.EqTree X.prog X.w s (n + 64) a b true := by
  intro n
  induction n with
  | zero =>
    intro d v w a b h r1 r2 ra rb
    have flat : SeqAt.shaped d = true → PyData.eqv d d = true → PySem.W.EqTree X.prog X.w s (0 + 64) a b true := fun hs he => by
      obtain ⟨as, q1⟩ := rd_shaped I r1 hs ra
      obtain ⟨bs, q2⟩ := rd_shaped I r2 hs rb
      refine .leaf fun A hu => ?_
      have := SeqAt.eqAt_reads d d A s a b as bs q1 q2 (shp hs) (shp hs) (SeqAt.room_of_shaped hs (by omega))
      rw [he] at this
      exact this
    cases d with
    | list ds => cases h
    | tuple ds => cases h
    | dict es =>
      have he : es = [] := by simpa [selfOk] using h
      subst he
      obtain ⟨a1, rfl, z1, d1⟩ := rd_dict I r1 rfl ra
      obtain ⟨a2, rfl, z2, d2⟩ := rd_dict I r2 rfl rb
      by_cases hab : a1 = a2
      · subst hab
        exact .same
      · exact .dicts (n := 63) (e := fun _ => true) hab z1 z2 d1 d2 fun k v y hm => by cases hm
    | str x =>
      have hs : SeqAt.shaped (.str x) = true := by
        have : PyData.strOk x = true := h
        unfold SeqAt.shaped
        simp [PyData.canLay0, this, PyData.depth]
      exact flat hs (SeqAt.eqv_refl _ (shp hs))
    | none => exact flat shaped_none rfl
    | bool k => exact flat shaped_bool (SeqAt.eqv_refl _ (shp shaped_bool))
    | int i => exact flat shaped_int (SeqAt.eqv_refl _ (shp shaped_int))
  | succ n ih =>
    intro d v w a b h r1 r2 ra rb
    have flat : SeqAt.shaped d = true → PyData.eqv d d = true → PySem.W.EqTree X.prog X.w s (n + 1 + 64) a b true := fun hs he => by
      obtain ⟨as, q1⟩ := rd_shaped I r1 hs ra
      obtain ⟨bs, q2⟩ := rd_shaped I r2 hs rb
      refine .leaf fun A hu => ?_
      have := SeqAt.eqAt_reads d d A s a b as bs q1 q2 (shp hs) (shp hs) (SeqAt.room_of_shaped hs (by omega))
      rw [he] at this
      exact this
    have rows : ∀ (ds : List D) (vs ws : List V) (us ts : List Value), ds.all (selfOk n) = true → Rps X.K H vs ds → Rps X.K H ws ds → Vals vs us → Vals ws ts → us.length = ts.length ∧ ∀ j (h1 : j < us.toArray.size) (h2 : j < ts.toArray.size), PySem.W.EqTree X.prog X.w s (n + 64) us.toArray[j] ts.toArray[j] ((fun _ => true) j) := by
      intro ds vs ws us ts hd p1 p2 v1 v2
      have l1 : ds.length = us.length := by rw [← v1.length, p1.len]
      have l2 : ds.length = ts.length := by rw [← v2.length, p2.len]
      refine ⟨by omega, fun j h1 h2 => ?_⟩
      have j1 : j < ds.length := by rw [List.size_toArray] at h1; omega
      obtain ⟨z1, g1, g2⟩ := p1.get (List.getElem?_eq_getElem j1)
      obtain ⟨z2, g3, g4⟩ := p2.get (List.getElem?_eq_getElem j1)
      obtain ⟨u1, g5, g6⟩ := v1.get g1
      obtain ⟨u2, g7, g8⟩ := v2.get g3
      have k1 : us.toArray[j] = u1 := by
        obtain ⟨_, e⟩ := List.getElem?_eq_some_iff.mp g5
        simpa using e
      have k2 : ts.toArray[j] = u2 := by
        obtain ⟨_, e⟩ := List.getElem?_eq_some_iff.mp g7
        simpa using e
      rw [k1, k2]
      exact ih _ z1 z2 u1 u2 (List.all_eq_true.mp hd _ (List.getElem_mem j1)) g2 g4 g6 g8
    cases d with
    | list ds =>
      generalize hx : PyData.list ds = dx at r1
      generalize hy : PyData.list ds = dy at r2
      cases r1 with
      | @lst a1 vs1 ds1 s1 t1 =>
        cases hx
        cases r2 with
        | @lst a2 vs2 ds2 s2 t2 =>
          cases hy
          cases ra
          cases rb
          obtain ⟨it1, v1, ⟨o1, n1, ho1, hc1, hn1, hd1⟩, _⟩ := I.list s1
          obtain ⟨it2, v2, ⟨o2, n2, ho2, hc2, hn2, hd2⟩, _⟩ := I.list s2
          by_cases hab : a1 = a2
          · subst hab
            exact .same
          · obtain ⟨g1, g2⟩ := rows ds vs1 vs2 it1 it2 h t1 t2 v1 v2
            have := PySem.W.EqTree.lists (prog := X.prog) (w := X.w) (s := s) (n := n + 64) (e := fun _ => true) hab (vs := it1.toArray) (vs' := it2.toArray) ⟨_, ho1, hc1, _, hd1⟩ ⟨_, ho2, hc2, _, hd2⟩ (by simpa using g1) g2
            rw [show ((List.range it1.toArray.size).all fun _ => true) = true by simp] at this
            exact this
        | _ => cases hy
      | _ => cases hx
    | tuple ds =>
      generalize hx : PyData.tuple ds = dx at r1
      generalize hy : PyData.tuple ds = dy at r2
      cases r1 with
      | @tup a1 vs1 ds1 s1 t1 =>
        cases hx
        cases r2 with
        | @tup a2 vs2 ds2 s2 t2 =>
          cases hy
          cases ra
          cases rb
          obtain ⟨it1, v1, ⟨o1, ho1, hc1, n1, hd1⟩, _⟩ := I.tuple s1
          obtain ⟨it2, v2, ⟨o2, ho2, hc2, n2, hd2⟩, _⟩ := I.tuple s2
          by_cases hab : a1 = a2
          · subst hab
            exact .same
          · obtain ⟨g1, g2⟩ := rows ds vs1 vs2 it1 it2 h t1 t2 v1 v2
            have := PySem.W.EqTree.tuples (prog := X.prog) (w := X.w) (s := s) (n := n + 64) (e := fun _ => true) hab (vs := it1.toArray) (vs' := it2.toArray) ⟨_, ho1, hc1, _, hd1⟩ ⟨_, ho2, hc2, _, hd2⟩ g2
            rw [show ((List.range (min it1.toArray.size it2.toArray.size)).all (fun _ => true) && it1.toArray.size == it2.toArray.size) = true by simp [g1]] at this
            exact this
        | _ => cases hy
      | _ => cases hx
    | dict es =>
      have he : es = [] := by simpa [selfOk] using h
      subst he
      obtain ⟨a1, rfl, z1, d1⟩ := rd_dict I r1 rfl ra
      obtain ⟨a2, rfl, z2, d2⟩ := rd_dict I r2 rfl rb
      by_cases hab : a1 = a2
      · subst hab
        exact .same
      · exact .dicts (n := n + 64) (e := fun _ => true) hab z1 z2 d1 d2 fun k v y hm => by cases hm
    | str x =>
      have hs : SeqAt.shaped (.str x) = true := by
        have : PyData.strOk x = true := h
        unfold SeqAt.shaped
        simp [PyData.canLay0, this, PyData.depth]
      exact flat hs (SeqAt.eqv_refl _ (shp hs))
    | none => exact flat shaped_none rfl
    | bool k => exact flat shaped_bool (SeqAt.eqv_refl _ (shp shaped_bool))
    | int i => exact flat shaped_int (SeqAt.eqv_refl _ (shp shaped_int))
theorem od_eqX (hu : X.A.units + 90 < cLine) : OpR X (compareOp .Eq) (rD X.K cs eqXD) := by
  rintro pins s σ H v u a b Q I rx ry ⟨Z, F, σ', ρ, x, y, d, R, w1, w2, e, q⟩
  unfold eqXD at e
  split at e
  · rename_i hc
    cases e
    exact op_eqD (by omega) pins s σ H _ _ a b Q I rx ry ⟨x, y, (R.all w1).dp (shp hc.1), (R.all w2).dp (shp hc.2), hc.1, hc.2, q _ F H (Ext.refl F) R (.bl _)⟩
  · split at e
    · cases e
      obtain ⟨c, rfl, hd⟩ := ds_dict I (R.all w1) rx
      obtain ⟨t, rfl⟩ := rd_str (R.all w2) ry
      exact SeqAt.ds_rc_dict_str hd _ t (by omega) _ _ _ _ ⟨.bl _, H, I, rfl, q _ F H (Ext.refl F) R (.bl _)⟩
    · rename_i xs _
      split at e
      · rename_i hc
        cases e
        obtain ⟨rfl, hs⟩ := hc
        have p1 := R.all w1
        have p2 := R.all w2
        generalize hx : PyData.list xs = dx at p1
        generalize hy : PyData.list xs = dy at p2
        cases p1 with
        | @lst a1 vs1 ds1 s1 t1 =>
          cases hx
          cases p2 with
          | @lst a2 vs2 ds2 s2 t2 =>
            cases hy
            cases rx
            cases ry
            obtain ⟨it1, v1, ⟨o1, n1, ho1, hc1, hn1, hd1⟩, _⟩ := I.list s1
            obtain ⟨it2, v2, ⟨o2, n2, ho2, hc2, hn2, hd2⟩, _⟩ := I.list s2
            have l1 : xs.length = it1.length := by rw [← v1.length, t1.len]
            have l2 : xs.length = it2.length := by rw [← v2.length, t2.len]
            refine PySem.W.eq_listsT (n := 84) (e := fun _ => true) (vs := it1.toArray) (vs' := it2.toArray) ⟨_, ho1, hc1, _, hd1⟩ ⟨_, ho2, hc2, _, hd2⟩ (by simp; omega) (fun j h1 h2 => ?_) (by omega) ?_
            · have j1 : j < xs.length := by rw [List.size_toArray] at h1; omega
              obtain ⟨z1, g1, g2⟩ := t1.get (List.getElem?_eq_getElem j1)
              obtain ⟨z2, g3, g4⟩ := t2.get (List.getElem?_eq_getElem j1)
              obtain ⟨u1, g5, g6⟩ := v1.get g1
              obtain ⟨u2, g7, g8⟩ := v2.get g3
              have k1 : it1.toArray[j] = u1 := by
                obtain ⟨_, e⟩ := List.getElem?_eq_some_iff.mp g5
                simpa using e
              have k2 : it2.toArray[j] = u2 := by
                obtain ⟨_, e⟩ := List.getElem?_eq_some_iff.mp g7
                simpa using e
              rw [k1, k2]
              exact self_tree I 20 _ z1 z2 u1 u2 (List.all_eq_true.mp hs _ (List.getElem_mem j1)) g2 g4 g6 g8
            · rw [show ((List.range it1.toArray.size).all fun _ => true) = true by simp]
              exact ⟨.bl _, H, I, rfl, q _ F H (Ext.refl F) R (.bl _)⟩
          | _ => cases hy
        | _ => cases hx
      · cases e
    · cases e
theorem hu70 {k : Nat} {A : Around} (h : Room k A) : A.units + 70 < cLine := by have := h.un; omega
theorem hu90 {k : Nat} {A : Around} (h : Room k A) : A.units + 90 < cLine := by have := h.un; omega
end
end DS
namespace DS
open PySem L2
/-! ## list + list, a new one -/
def catD : D → D → Option D
  | .list xs, .list ys => if xs.length + ys.length ≤ 100000 then some (.list (xs ++ ys)) else none
  | _, _ => none
section
variable {X : Cx} {cs : List Addr} {a b : Expr} {pos : Pos} {fa fb : Nv → Option D}
def rNd (K : PySem.W.Frag) (cs : List Addr) (g : D → D → Option D) : R2 := fun v u H Q => ∃ Z F σ ρ x y d, Rep K cs Z F H σ ρ ∧ Vw K F σ ρ v x ∧ Vw K F σ ρ u y ∧ g x y = some d ∧ ∀ p F' H', Ext F F' → Rep K cs Z F' H' σ ρ → F' p = none → Z p = none → ¬ Mine σ ρ p → Own K F' H' p d → Q (.ref p) H'
theorem od_cat : OpR X (binaryOp .Add) (rNd X.K cs catD) := by
  rintro pins s σ H v u a b Q I rx ry ⟨Z, F, σ', ρ, x, y, d, R, w1, w2, e, q⟩
  unfold catD at e
  split at e
  · rename_i xs ys
    split at e
    · rename_i hl
      cases e
      obtain ⟨a1, vs, rfl, s1, r1⟩ := R.lst w1
      obtain ⟨a2, ws, rfl, s2, r2⟩ := R.lst w2
      cases rx
      cases ry
      obtain ⟨it1, t1, p1, z1⟩ := I.list s1
      obtain ⟨it2, t2, p2, z2⟩ := I.list s2
      have l1 := t1.length
      have l2 := t2.length
      have k1 := r1.len
      have k2 := r2.len
      have hz : vs.length + ws.length ≤ sizeLine := by
        have : (100000 : Nat) ≤ sizeLine := by decide
        omega
      obtain ⟨⟨oc, od, dt, sl⟩, n, h1, h2, h3, h4⟩ := p1
      obtain ⟨⟨oc2, od2, dt2, sl2⟩, n2, g1, g2, g3, g4⟩ := p2
      simp only at h2 h3 h4 g2 g3 g4
      subst h2 h3 h4 g2 g3 g4
      refine concat_meets ⟨_, h1, rfl⟩ ⟨_, g1, rfl⟩ noFill_list_add seq_list_add PySem.F.slot_list_add PySem.F.entry_list_add (PySem.F.args_list_add_2 _ _) (list_cat a1 it1.toArray n sl a2 it2.toArray n2 sl2 (by simp only [List.size_toArray]; omega)) ⟨h1, g1, ?_⟩
      have ea : it1.toArray ++ it2.toArray = (it1 ++ it2).toArray := by simp
      rw [ea]
      have hn : H s.heap.objs.size = none := I.fresh
      obtain ⟨R', fp, zp, mp⟩ := R.made (o := .lst (vs ++ ws)) hn
      exact ⟨.ref _, _, I.lnew (t' := s.toks) (t1.append t2) (by rw [List.length_append]; omega), rfl, q _ _ _ (Ext.refl F) R' fp zp mp ⟨_, upd_same, r1.app r2⟩⟩
    · cases e
  · cases e
theorem t_opN {K : PySem.W.Frag} {g : D → D → Option D} : ∀ σ H Q, tN K cs (op2 g fa fb) σ H Q → tOp (rNd K cs g) (tW K cs fa) (tW K cs fb) σ H Q := fun σ H Q ⟨Z, F, ρ, d, R, ef, q⟩ => by
  unfold op2 at ef
  obtain ⟨x, ea, ef⟩ := Option.bind_eq_some_iff.mp ef
  obtain ⟨y, eb, ef⟩ := Option.bind_eq_some_iff.mp ef
  exact ⟨Z, F, ρ, x, R, ea, fun v F1 H1 e1 R1 w1 => ⟨Z, F1, ρ, y, R1, eb, fun u F2 H2 e2 R2 w2 => ⟨Z, F2, σ, ρ, x, y, d, R2, w1.ext e2, w2, ef, fun p F' H' e3 R3 => q p F' H' ((e1.trans e2).trans e3) R3⟩⟩⟩
theorem e_catN (ha : EW cs X a fa) (hb : EW cs X b fb) : EN cs X (.BinOp a .Add b pos) (op2 catD fa fb) := ⟨pe_imp (pe_op od_cat ha.h hb.h) t_opN⟩
end
end DS

namespace DS
open PySem L2

/-! ## exceptions of the program's own classes -/
/-- a class is named by a word; cl tells where it stands -/
abbrev EXc (cl : Value → Value) (E : XK) : XK := fun c d H => E (cl c) d H
def spDX (cl : Value → Value) (K : PySem.W.Frag) (cs : List Addr) (ms : List Md) (sem : List D → Option Ou) : Sp := fun vs H Q E => spD K cs ms sem vs H Q (EXc cl E)
theorem Rep.bare {K : PySem.W.Frag} {cs : List Addr} {Z F H : Hp} {σ : L2.St} {ρ : Nv} (R : Rep K cs Z F H σ ρ) : Rep K cs Z F H [] [] :=
  ⟨rfl, R.fh, R.zh, fun i c h => by simp at h, fun i d h => by simp at h, fun i j c e a h => by simp at h, fun i a d h => by simp at h, R.tab⟩
theorem fn_dsX {P : Program} {w : World} {K : PySem.W.Frag} {mg : Str → Option Value} {base : Heap} {cs : List Addr} {cl : Value → Value} {x qual : Str} {st : Stmt} {f : Addr} {fd : FuncData} {N ps : List Str} {k : Nat} {ms : List Md} {sem : List D → Option Ou} (F : Fun K x qual st f fd) (S : FnScope N ps (defScope st)) (hm : ms.length = ps.length)
    (hbody : ∀ (cdv : Value) (A : Around) (outer : List Env) (s : Shared) (H : Hp) (E : XK), Room k (A.deeper (PyProof.Rows.envOfC qual (defScope st) s.heap.objs.size f cdv)) →
      ∃ g, SDs cs (cxOf (L2.CX P w) P w K mg base N qual (defScope st) f cdv A outer s H E) (EXc cl E) (defBody st) g ∧ Comes ms (N.length - ps.length) g sem) :
    FnOk P w K mg base (L2.CX P w) (k + 1) f fd ps (spDX cl K cs ms sem) := by
  refine F.okX S (fun vs H Q E h => ?_) fun cdv A outer s H vs Q E hr h => ?_
  · obtain ⟨_, _, _, _, hv, _⟩ := h
    rw [hv, hm]
  · obtain ⟨g, h1, h2⟩ := hbody cdv A outer s H E hr
    exact ⟨_, h1.h, body_ends hm h2 h⟩
structure CalX (P : Program) (w : World) (K : PySem.W.Frag) (mg : Str → Option Value) (base : Heap) (cs : List Addr) (cl : Value → Value) (x : Str) (k : Nat) (ps : List Str) (ms : List Md) (sem : List D → Option Ou) : Prop where
  ex : ∃ f fd, FnOk P w K mg base (L2.CX P w) k f fd ps (spDX cl K cs ms sem) ∧ mg x = some (.ref f) ∧ PySem.W.keepIn K (.ref f) = true ∧ Binds K fd ps []
/-- a class that may be raised -/
structure Ecl (K : PySem.W.Frag) (mg : Str → Option Value) (x : Str) (C : Addr) : Prop where
  g : mg x = some (.ref C)
  exc : PySem.W.excIn K C [.type "ValueError", .type "Exception", .type "BaseException", .type "object"] "ValueError.__new__" = true
  keep : PySem.W.keepIn K (.ref C) = true
  sub : PySem.W.subIn K (.ref C) (.type "BaseException") = some true
  ty : PySem.W.typeIn K (.ref C) = some (.type "type")

/-! ### what is said of it -/
def tM (K : PySem.W.Frag) (cs : List Addr) (f : Nv → Option Unit) : TE := fun σ H Q => ∃ Z F ρ, Rep K cs Z F H σ ρ ∧ f ρ = some () ∧ ∀ v F' H', Ext F F' → Rep K cs Z F' H' σ ρ → Q v H'
structure EM (cs : List Addr) (X : Cx) (e : Expr) (f : Nv → Option Unit) : Prop where
  h : PE X e (tM X.K cs f)
def fOk : D → Bool
  | .int i => decide (0 ≤ i) && decide (i < 200)
  | .str x => decide (x.length ≤ 1000)
  | _ => false
structure EJ (cs : List Addr) (X : Cx) (es : List Expr) (f : Nv → Option Unit) : Prop where
  h : ∃ ts, PJ X es ts ∧ ∀ (Z F H : Hp) (σ : L2.St) (ρ : Nv) (acc : Str) (Q : Str → Hp → Prop), Rep X.K cs Z F H σ ρ → f ρ = some () → acc.length + 1000 * es.length ≤ sizeLine → (∀ out F' H', Ext F F' → Rep X.K cs Z F' H' σ ρ → Q out H') → tJs ts acc σ H Q
def fmtV (fa : Nv → Option D) (f : Nv → Option Unit) : Nv → Option Unit := fun ρ => (fa ρ).bind fun d => if fOk d = true then f ρ else none
theorem int_short {i : Int} (h : fOk (.int i) = true) : i.natAbs.log2 < 1920 ∧ (toString i : Str).length ≤ 1000 := by
  have h' : (decide (0 ≤ i) && decide (i < 200)) = true := h
  rw [Bool.and_eq_true, decide_eq_true_eq, decide_eq_true_eq] at h'
  obtain ⟨n, rfl⟩ := Int.eq_ofNat_of_zero_le h'.1
  have hn : n < 200 := by omega
  have : ∀ n : Nat, n < 200 → (((n : Nat) : Int).natAbs.log2 < 1920 ∧ (toString ((n : Nat) : Int) : Str).length ≤ 1000) := by decide +kernel
  exact this n hn
section
variable {cs : List Addr} {X : Cx} {e v1 v2 : Expr} {es : List Expr} {pos : Pos} {fa : Nv → Option D} {f : Nv → Option Unit}
theorem EP'.m (h : EP' cs X e fa) : EM cs X e (fun ρ => (fa ρ).map fun _ => ()) := ⟨pe_imp h.h fun σ H Q ⟨Z, F, ρ, R, ef, q⟩ => by
  obtain ⟨d, e1, _⟩ := Option.map_eq_some_iff.mp ef
  exact ⟨Z, F, ρ, d, R, e1, fun v F' H' x R' _ => q v F' H' x R'⟩⟩
theorem ej_nil : EJ cs X [] (fun _ => some ()) := ⟨[], .nil, fun Z F H σ ρ acc Q R _ _ q => q acc F H (Ext.refl F) R⟩
theorem ej_c {s : Str} {j : Nat} (hs : s.length ≤ 1000) (h : EJ cs X es f) : EJ cs X (.Constant (.str s) j pos :: es) f := by
  obtain ⟨ts, p, rd⟩ := h.h
  refine ⟨_ :: ts, .cons pe_str p, fun Z F H σ ρ acc Q R ef hl q => ?_⟩
  refine ⟨s, rfl, ?_, rd Z F H σ ρ (acc ++ s) Q R ef ?_ q⟩
  · rw [List.length_cons] at hl
    rw [len_app]
    omega
  · rw [List.length_cons] at hl
    rw [len_app]
    omega
theorem ej_f (ha : EP' cs X e fa) (h : EJ cs X es f) : EJ cs X (.FormattedValue e (-1) none pos :: es) (fmtV fa f) := by
  obtain ⟨ts, p, rd⟩ := h.h
  refine ⟨_ :: ts, .cons (pe_fmt ha.h) p, fun Z F H σ ρ acc Q R ef hl q => ?_⟩
  obtain ⟨d, e1, e2⟩ := Option.bind_eq_some_iff.mp ef
  split at e2
  · rename_i hf
    rw [List.length_cons] at hl
    refine ⟨Z, F, ρ, d, R, e1, fun v F1 H1 x1 R1 r1 => ?_⟩
    have go : ∀ y : Str, y.length ≤ 1000 → ∃ y', V.str y = V.str y' ∧ (acc ++ y').length ≤ sizeLine ∧ tJs ts (acc ++ y') σ H1 Q := fun y hy => ⟨y, rfl, by rw [len_app]; omega, rd Z F1 H1 σ ρ (acc ++ y) Q R1 e2 (by rw [len_app]; omega) fun out F' H' x R' => q out F' H' (x1.trans x) R'⟩
    cases d with
    | int i =>
      cases r1
      obtain ⟨h1, h2⟩ := int_short hf
      exact .inr ⟨i, rfl, h1, go _ h2⟩
    | str y =>
      cases r1
      have hy : y.length ≤ 1000 := of_decide_eq_true hf
      exact .inl ⟨y, rfl, Nat.le_trans hy (by decide), go y hy⟩
    | _ => cases hf
  · cases e2
theorem em_f (h : EJ cs X (v1 :: v2 :: es) f) (hl : (v1 :: v2 :: es).length ≤ 20 := by exact Nat.le_of_ble_eq_true rfl) : EM cs X (.JoinedStr (v1 :: v2 :: es) pos) f := by
  obtain ⟨ts, p, rd⟩ := h.h
  refine ⟨pe_imp (pe_joined p) fun σ H Q ⟨Z, F, ρ, R, ef, q⟩ => rd Z F H σ ρ Str.empty _ R ef ?_ fun out F' H' x R' => q _ F' H' x R'⟩
  have h0 : (Str.empty : Str).length = 0 := rfl
  have h1 : (20000 : Nat) ≤ sizeLine := by decide
  omega
end
/-- raise C(..) -/
def raiseS (c : Value) (fm : Nv → Option Unit) : Nv → Option SR := fun ρ => (fm ρ).map fun _ => .exc c
/-- f(..), which may raise, as a statement; x = f(..) -/
def exprCX (n : Nat) (sem : List D → Option Ou) (fr : Nv → Option (List D)) : Nv → Option SR := fun ρ => (fr ρ).bind fun ds => if ds.length = n then match sem ds with
  | some (.ret _ _ _) => some (.nx ρ)
  | some (.exc c) => some (.exc c)
  | _ => none
  else none
def setCX (i n : Nat) (sem : List D → Option Ou) (fr : Nv → Option (List D)) : Nv → Option SR := fun ρ => (fr ρ).bind fun ds => if ds.length = n then match sem ds with
  | some (.ret d _ _) => some (.nx (ρ.set i (some (.sh d))))
  | some (.exc c) => some (.exc c)
  | _ => none
  else none
section
variable {P : Program} {w : World} {K : PySem.W.Frag} {mg : Str → Option Value} {base : Heap} {cs : List Addr} {cl : Value → Value} {X : Cx} {E : XK} {e m : Expr} {es : List Expr} {pos p p2 : Pos} {fr : Nv → Option (List D)} {fm : Nv → Option Unit} {x y : Str} {k j i : Nat} {ps : List Str} {ms : List Md} {sem : List D → Option Ou} {C : Addr} {c : Value}
theorem sd_raise (T : Ecl X.K X.mg x C) (hcl : cl c = .ref C) (hc : X.calm = true) (tk : Takes X (fun cls d _ H => E cls d H)) (hg : Gl X x) (hm : EM cs X m fm) (hs : starEach [m] X.env = (false, eval m X.env) :: starEach [] X.env := by rfl) (hdb : (x == ("__debug__" : Str)) = false := by decide) :
    SD cs X (EXc cl E) (.Raise (some (.Call (.Name x p) [m] [] p2)) none pos) (raiseS c fm) :=
  ⟨ps_imp (ps_raise hc tk (SkE.pmk_own1 PySem.F.excBase_ValueError T.exc T.g T.keep (raises_own T.sub T.ty) hg hm.h hs hdb)) fun D σ H ⟨Z, F, ρ, r, R, ef, w⟩ => by
  obtain ⟨u, e1, rfl⟩ := Option.map_eq_some_iff.mp ef
  refine ⟨Z, F, ρ, R, e1, fun v F1 H1 x1 R1 => ?_⟩
  have := w F1 H1 x1 R1.bare
  show E (.ref C) none H1
  rw [← hcl]
  exact this⟩
/-- what a call that may raise comes to, at the slots σ -/
theorem t_callX {W : WX} {D : D → Nv → SR} {fr : Nv → Option (List PyData)} {K : PySem.W.Frag} (hro : ∀ m ∈ ms, m = .ro) {σ : L2.St} {H : Hp} {Z F : Hp} {ρ : Nv} {ds : List PyData} {o : Ou} (Q : VK) (R : Rep K cs Z F H σ ρ) (ef : fr ρ = some ds) (hl : ds.length = ms.length) (es : sem ds = some o)
    (q1 : ∀ d own outs, o = .ret d own outs → ∀ v F' H', Ext F F' → Rep K cs Z F' H' σ ρ → Rp K F' v d → Q v H')
    (q2 : ∀ c, o = .exc c → ∀ F' H', Ext F F' → Rep K cs Z F' H' σ ρ → W (cl c) none σ H') : tCallS (spDX cl K cs ms sem) (WE W) (tPA K cs fr) σ H Q := by
  refine ⟨Z, F, ρ, ds, R, ef, fun vs F1 H1 x1 R1 r1 => ?_⟩
  have hv : vs.length = ms.length := by rw [r1.len]; exact hl
  refine ⟨oth F1 H1, F1, ds, o, hv, hl, ioOk_ro hro, ?_, es, ?_⟩
  · rw [argNv_ro hro hv hl]
    exact R1.lend r1
  · cases o with
    | ret d own outs =>
      intro v F2 H2 x2 R2 res
      have RB := R1.back x2 R2
      unfold ResV at res
      split at res
      · obtain ⟨p', rfl, h1, h2, h3, h4⟩ := res
        obtain ⟨z1, z2⟩ := R1.backN h2
        obtain ⟨o, g1, g2⟩ := h4.rp
        exact q1 d own outs rfl _ _ _ ((x1.trans x2).trans (Ext.upd h1)) (RB.give g1 h1 z1 z2) (g2 _ (Ext.upd h1) upd_same)
      · exact q1 d own outs rfl v F2 H2 (x1.trans x2) RB res
    | exc c =>
      intro F2 H2 x2 R2
      exact q2 c rfl F2 H2 (x1.trans x2) (R1.back x2 R2)
theorem pe_callXs (F : CalX P w K mg base cs cl x k ps ms sem) (hX : AtX X P w K mg base) (hr : Room j X.A) (hj : k ≤ j) (hg : Gl X x) (ha : EPs cs X (e :: es) fr) {W : WX} (tk : Takes X W) (hdb : (x == ("__debug__" : Str)) = false := by decide)
    (he : starEach (e :: es) X.env = (false, eval e X.env) :: starEach es X.env := by rfl) (hpl : (backTo pos (starEach es X.env)).any (·.1) = false := by rfl) :
    PE X (.Call (.Name x p) (e :: es) [] pos) (tCallS (spDX cl X.K cs ms sem) (WE W) (tPA X.K cs fr)) := by
  obtain ⟨rfl, rfl, rfl, rfl, rfl⟩ := hX
  obtain ⟨f, fd, h1, h2, h3, h4⟩ := F.ex
  exact pe_callS h1 (hr.mono hj) hg h2 h3 h4 (fun σ => passAt tk σ) ha.h hdb he hpl
theorem sd_exprCX (F : CalX P w K mg base cs cl x k ps ms sem) (hX : AtX X P w K mg base) (hro : ∀ m ∈ ms, m = .ro) (hr : Room j X.A) (hj : k ≤ j) (hg : Gl X x) (tk : Takes X (fun cls d _ H => E cls d H)) (ha : EPs cs X (e :: es) fr) (hdb : (x == ("__debug__" : Str)) = false := by decide)
    (he : starEach (e :: es) X.env = (false, eval e X.env) :: starEach es X.env := by rfl) (hpl : (backTo pos (starEach es X.env)).any (·.1) = false := by rfl)
    (hsw : swapsWith (.Call (.Name x p) (e :: es) [] pos) none p2.line X.env = pure false := by rfl) : SD cs X (EXc cl E) (.Expr (.Call (.Name x p) (e :: es) [] pos) p2) (exprCX ms.length sem fr) :=
  ⟨ps_imp (ps_expr (pe_callXs F hX hr hj hg ha tk hdb he hpl) hsw) fun D σ H ⟨Z, F, ρ, r, R, ef, w⟩ => by
  obtain ⟨ds, e1, e2⟩ := Option.bind_eq_some_iff.mp ef
  split at e2
  · rename_i hl
    split at e2
    · rename_i d own outs es'
      cases e2
      exact t_callX (D := fun _ ρ => .nx ρ) hro _ R e1 hl es' (fun _ _ _ _ v F' H' x R' _ => w σ F' H' rfl x R') fun _ z => by cases z
    · rename_i c es'
      cases e2
      exact t_callX (D := fun _ ρ => .nx ρ) hro _ R e1 hl es' (fun _ _ _ z => by cases z) fun c z F' H' x R' => by cases z; exact w F' H' x R'.bare
    · cases e2
  · cases e2⟩
theorem sd_setCX (hN : X.N.Nodup) (hi : X.N[i]? = some y) (hx : Loc X.env.scope y) (F : CalX P w K mg base cs cl x k ps ms sem) (hX : AtX X P w K mg base) (hro : ∀ m ∈ ms, m = .ro) (hr : Room j X.A) (hj : k ≤ j) (hg : Gl X x) (tk : Takes X (fun cls d _ H => E cls d H)) (ha : EPs cs X (e :: es) fr) {yp : Pos} (hdb : (x == ("__debug__" : Str)) = false := by decide)
    (he : starEach (e :: es) X.env = (false, eval e X.env) :: starEach es X.env := by rfl) (hpl : (backTo pos (starEach es X.env)).any (·.1) = false := by rfl)
    (hs : swapsWith (.Call (.Name x p) (e :: es) [] pos) (some (.Name y yp)) p2.line X.env = pure false := by rfl) (hf : X.fn y = true ∨ X.env.scope.names.lookup y = some .local := by first | exact .inl rfl | exact .inr rfl | assumption) : SD cs X (EXc cl E) (.Assign [.Name y yp] (.Call (.Name x p) (e :: es) [] pos) p2) (setCX i ms.length sem fr) :=
  ⟨ps_imp (ps_set hN hi hx (pe_callXs F hX hr hj hg ha tk hdb he hpl) hs hf) fun D σ H ⟨Z, F, ρ, r, R, ef, w⟩ => by
  obtain ⟨ds, e1, e2⟩ := Option.bind_eq_some_iff.mp ef
  split at e2
  · rename_i hl
    split at e2
    · rename_i d own outs es'
      cases e2
      exact t_callX (D := fun _ ρ => .nx ρ) hro _ R e1 hl es' (fun d' _ _ z v F' H' x R' rp => by cases z; exact w _ F' H' (by rw [List.length_set]) x (R'.setSh i rp)) fun _ z => by cases z
    · rename_i c es'
      cases e2
      exact t_callX (D := fun _ ρ => .nx ρ) hro _ R e1 hl es' (fun _ _ _ z => by cases z) fun c z F' H' x R' => by cases z; exact w F' H' x R'.bare
    · cases e2
  · cases e2⟩
end
end DS

namespace DS
open PySem L2

/-! ## a caught exception -/
structure Exi (K : PySem.W.Frag) (C : Addr) : Prop where
  cl : (PySem.W.clsIn K C).isSome = true
  ga : PySem.W.findIn K (.ref C) "__getattribute__" = some (some (.builtin "BaseException.__getattribute__"))
  gt : ∃ gt, PySem.W.findIn K (.ref C) "__getattr__" = some gt
  sub : PySem.W.subIn K (.ref C) (.type "BaseException") = some true
  at_ : PySem.W.findIn K (.ref C) "__class__" = some (some (.builtin "object.__class__"))
  sp : PySem.W.specialIn K (.builtin "object.__class__") "__get__" = some (some (.builtin "getset_descriptor.__get__"))
  tk : PySem.W.takesIn K (.builtin "object.__class__") = some true
  mro : PySem.W.mroIn K C (.type "object") = some true
def rIsiE (K : PySem.W.Frag) (a C : Addr) : List V → Hp → VK → Prop := fun xs H Q => ∃ (c : V) (u : Value) (b : Bool), xs = [.ref a, c] ∧ ClsV c u ∧ PySem.W.kitOne K (.ref C) u = some b ∧ Q (.bl b) H
def rIsiTE (K : PySem.W.Frag) (a C : Addr) : List V → Hp → VK → Prop := fun xs H Q => ∃ (tp : Addr) (cs : List V) (us : List Value) (b : Bool), xs = [.ref a, .ref tp] ∧ H tp = some (.tup cs) ∧ Paired ClsV cs us ∧ PySem.W.kitAny K (.ref C) us = some b ∧ Q (.bl b) H
section
variable {X : Cx} {a C : Addr} {oe : Obj}
theorem exi_inst (hz : Zc (.ref C) none oe) (hd : ∃ vs, oe.data = .fields vs) {h : Heap} (e : h.get? a = some oe) : PySem.W.InstAt h a oe C none := by
  obtain ⟨vs, hd⟩ := hd
  refine ⟨e, hz.1, ?_, ?_⟩
  · unfold PySem.W.notCls
    rw [hd]
  · rw [hz.2]
    trivial
theorem call_isiE (hp : (a, oe) ∈ X.pn) (hz : Zc (.ref C) none oe) (hd : ∃ vs, oe.data = .fields vs) (T : Exi X.K C) : CallR X (.builtin "isinstance") (rIsiE X.K a C) := by
  intro pins s σ H xs us Q I r h
  obtain ⟨c, u, b, rfl, k, e, q⟩ := h
  obtain ⟨u1, u2, rfl, r1, r2⟩ := vals2 r
  have e2 := k.eq r2
  subst e2
  cases r1
  obtain ⟨gt, hgt⟩ := T.gt
  have hI := exi_inst hz hd (I.pin (a, oe) (List.mem_append_left _ hp)).1
  exact PySem.W.kia_one (PySem.W.kitx_exc T.cl T.ga hgt T.sub T.at_ T.sp T.tk T.mro) I.kIn hI e (fun z => by cases z) fun tk => ⟨.bl b, H, I.tok tk, rfl, q⟩
theorem call_isiTE (hp : (a, oe) ∈ X.pn) (hz : Zc (.ref C) none oe) (hd : ∃ vs, oe.data = .fields vs) (T : Exi X.K C) : CallR X (.builtin "isinstance") (rIsiTE X.K a C) := by
  intro pins s σ H xs us Q I r h
  obtain ⟨tp, cs, ws, b, rfl, hT, k, e, q⟩ := h
  obtain ⟨u1, u2, rfl, r1, r2⟩ := vals2 r
  cases (show u2 = Value.ref tp from r2)
  cases r1
  obtain ⟨gt, hgt⟩ := T.gt
  have hI := exi_inst hz hd (I.pin (a, oe) (List.mem_append_left _ hp)).1
  obtain ⟨_, its, rv, o, h1, h2, n, h3⟩ := (show ObjOk X.prog X.w H s.heap tp (.tup cs) from I.hok tp _ hT)
  have e3 := ClsV.all k rv
  subst e3
  obtain ⟨oc, od, dt, sl⟩ := o
  simp only at h2 h3
  subst h2 h3
  exact PySem.W.kia_tup (PySem.W.kitx_exc T.cl T.ga hgt T.sub T.at_ T.sp T.tk T.mro) I.kIn hI h1 e (fun z => by cases z) fun tk => ⟨.bl b, H, I.tok tk, rfl, q⟩
end
/-- isinstance(e, T), e in slot i -/
def tIsE (i : Nat) (a : Addr) (b : Bool) : TE := fun σ H Q => σ[i]? = some (some (.ref a)) ∧ Q (.bl b) H
/-- isinstance(e, (T, ..)) -/
def tIsTE (i : Nat) (a : Addr) (b : Bool) : TE := fun σ H Q => σ[i]? = some (some (.ref a)) ∧ ∀ p o, H p = none → Q (.bl b) (upd H p o)
section
variable {X : Cx} {a C : Addr} {oe : Obj} {i : Nat} {n T : Str} {p1 p2 p3 pos : Pos} {b : Bool} {c : V} {u : Value} {x : Expr}
theorem pe_isE (hp : (a, oe) ∈ X.pn) (hz : Zc (.ref C) none oe) (hd : ∃ vs, oe.data = .fields vs) (E : Exi X.K C) (hg : Gl X "isinstance") (hm : X.mg "isinstance" = none) (hn : PE X (.Name n p2) (tVar i)) (hT : PE X x (tC c)) (hc : ClsV c u) (hk : PySem.W.kitOne X.K (.ref C) u = some b)
    (hs : starEach [.Name n p2, x] X.env = (false, eval (.Name n p2) X.env) :: starEach [x] X.env := by rfl) (hs2 : starEach [x] X.env = (false, eval x X.env) :: starEach [] X.env := by rfl) (hpl : (backTo pos (starEach [x] X.env)).any (·.1) = false := by rfl) :
    PE X (.Call (.Name "isinstance" p1) [.Name n p2, x] [] pos) (tIsE i a b) :=
  pe_imp (pe_callB (call_isiE hp hz hd E) hg hm PyProof.Rows.boot_isinstance (pa_cons hn (pa_cons hT pa_nil hs2) hs) (by decide) (by decide) hs hpl) fun σ H Q ⟨h1, h2⟩ => ⟨.ref a, h1, c, u, b, rfl, hc, hk, h2⟩
theorem pe_isTE {es : List Expr} {ks : List V} {us : List Value} {j : Nat} (hp : (a, oe) ∈ X.pn) (hz : Zc (.ref C) none oe) (hd : ∃ vs, oe.data = .fields vs) (E : Exi X.K C) (hg : Gl X "isinstance") (hm : X.mg "isinstance" = none) (hn : PE X (.Name n p2) (tVar i)) (hT : PE X (.Tuple es j p3) (fun σ H Q => ∀ p, H p = none → Q (.ref p) (upd H p (.tup ks)))) (hc : Paired ClsV ks us) (hk : PySem.W.kitAny X.K (.ref C) us = some b)
    (hs : starEach [.Name n p2, .Tuple es j p3] X.env = (false, eval (.Name n p2) X.env) :: starEach [.Tuple es j p3] X.env := by rfl) (hs2 : starEach [.Tuple es j p3] X.env = (false, eval (.Tuple es j p3) X.env) :: starEach [] X.env := by rfl) (hpl : (backTo pos (starEach [.Tuple es j p3] X.env)).any (·.1) = false := by rfl) :
    PE X (.Call (.Name "isinstance" p1) [.Name n p2, .Tuple es j p3] [] pos) (tIsTE i a b) :=
  pe_imp (pe_callB (call_isiTE hp hz hd E) hg hm PyProof.Rows.boot_isinstance (pa_cons hn (pa_cons hT pa_nil hs2) hs) (by decide) (by decide) hs hpl) fun σ H Q ⟨h1, h2⟩ => ⟨.ref a, h1, fun p hp' => ⟨p, ks, us, b, rfl, upd_same, hc, hk, h2 p _ hp'⟩⟩
end
/-! ## try: y = f(..) except M as n: what returns -/
def tryS (j n i : Nat) (sem : List D → Option Ou) (fr : Nv → Option (List D)) (gs : Value → Nv → Option SR) : Nv → Option SR := fun ρ => (fr ρ).bind fun ds => if ds.length = n then match sem ds with
  | some (.ret d _ _) => some (.nx (ρ.set j (some (.sh d))))
  | some (.exc c) => if i < ρ.length then match gs c (ρ.set i none) with
    | some (.rt d o ρ') => some (.rt d o ρ')
    | _ => none
    else none
  | _ => none
  else none
theorem sd_try1 {P : Program} {w : World} {K : PySem.W.Frag} {mg : Str → Option Value} {base : Heap} {cs : List Addr} {cl : Value → Value} {X : Cx} {E : XK} {body suite : List Stmt} {b0 : Stmt} {np pos pos' : Pos} {i j k : Nat} {x n : Str} {M : Addr} {ms : List Md} {sem : List D → Option Ou} {fr : Nv → Option (List D)} {gs : Value → Nv → Option SR}
    (hs : X.stack = X.env :: X.outer) (hf : X.env.frame = some X.env.locals) (hN : X.N.Nodup) (hi : X.N[i]? = some n) (hln : X.env.kindOf n = some .local) (hc : Names X x (.ref M)) (hro : ∀ m ∈ ms, m = .ro)
    (hb : ∀ (W : WX) (pn : List (Addr × Obj)) (xe : Value → Shared → Prop), Takes (X.tr pn xe) W → PassesOwn (model X.prog X.w) X.A X.env xe → PSs (X.tr pn xe) body (tAsg (tCallS (spDX cl X.K cs ms sem) (WE W) (tPA X.K cs fr)) (gName j)))
    (hit : ∀ c, (∃ ds, sem ds = some (.exc c)) → PySem.W.exmOne X.K (cl c) (.ref M) = some true)
    (hsu : ∀ (a : Addr) (oe : Obj) (cls : Value) (d : Option Addr) (pn : List (Addr × Obj)), Zc cls d oe → (∃ vs, oe.data = .fields vs) → PSs (X.suite a ((a, oe) :: pn)) (b0 :: suite) (fun D σ H => ∃ c, (∃ ds, sem ds = some (.exc c)) ∧ cls = cl c ∧ d = none ∧ σ[i]? = some (some (.ref a)) ∧ tS X.K cs E (gs c) D σ H)) :
    SD cs X E (.Try body [.ExceptHandler (some (.Name x np)) (some n) (b0 :: suite) pos'] [] [] pos) (tryS j ms.length i sem fr gs) :=
  ⟨ps_imp (ps_try_as hs hf hN hi hln hc takes0 hb hsu) fun D σ H ⟨Z, F, ρ, r, R, ef, w⟩ => by
  obtain ⟨ds, e1, e2⟩ := Option.bind_eq_some_iff.mp ef
  have hlen : i < σ.length → (σ.set i (some (V.ref 0)))[i]? = some (some (V.ref 0)) := fun h => List.getElem?_set_self h
  split at e2
  · rename_i hl
    split at e2
    · rename_i d own outs es'
      cases e2
      refine t_callX (W := wAs X.K (.ref M) i (fun a cls d D σ H => ∃ c, (∃ ds, sem ds = some (.exc c)) ∧ cls = cl c ∧ d = none ∧ σ[i]? = some (some (.ref a)) ∧ tS X.K cs E (gs c) D σ H) (fun _ _ _ _ => False) D) (D := fun _ ρ => .nx ρ) hro _ R e1 hl es' (fun d' _ _ z v F' H' x R' rp => ?_) fun _ z => by cases z
      cases z
      exact w _ F' H' (by rw [List.length_set]) x (R'.setSh j rp)
    · rename_i c es'
      split at e2
      case isFalse => cases e2
      rename_i hiρ
      split at e2
      · rename_i d o ρ' eg
        cases e2
        refine t_callX (W := wAs X.K (.ref M) i (fun a cls d D σ H => ∃ c, (∃ ds, sem ds = some (.exc c)) ∧ cls = cl c ∧ d = none ∧ σ[i]? = some (some (.ref a)) ∧ tS X.K cs E (gs c) D σ H) (fun _ _ _ _ => False) D) (D := fun _ ρ => .nx ρ) hro _ R e1 hl es' (fun _ _ _ z => by cases z) fun c' z F' H' x R' => ?_
        cases z
        refine ⟨true, hit c ⟨ds, es'⟩, fun _ a _ => ?_, fun z => by cases z⟩
        have hil : i < σ.length := by
          rw [R'.len]
          exact hiρ
        exact ⟨c, ⟨ds, es'⟩, rfl, rfl, List.getElem?_set_self hil, Z, F', ρ.set i none, .rt d o ρ', R'.drop i _, eg, fun v σ' F2 H2 l2 x2 R2 res => w v σ' F2 H2 (by rw [l2, List.length_set]) (x.trans x2) R2 res⟩
      · cases e2
    · cases e2
  · cases e2⟩
end DS

namespace DS
open PySem L2

/-! ## tuple + tuple; a text nought times or once; pop(i) -/
def addTD : D → D → Option D
  | .tuple xs, .tuple ys => if xs.length + ys.length ≤ 100000 then some (.tuple (xs ++ ys)) else none
  | _, _ => none
def mulSD : D → D → Option D
  | .str x, .int j => if j = 0 then some (.str Str.empty) else if j = 1 then some (.str x) else none
  | _, _ => none
def popAtD (k : D) : D → Option D
  | .list xs => match k with
    | .int i => if 0 ≤ i ∧ i < xs.length ∧ xs.length ≤ 100000 then some (.list (xs.eraseIdx i.toNat)) else none
    | _ => none
  | _ => none
def popAtS (i : Nat) (fk : Nv → Option D) : Nv → Option SR := fun ρ => (fk ρ).bind fun k => mutS i (popAtD k) ρ
theorem six_is {i : Int} {n : Nat} (h : 0 ≤ i ∧ i < n) : seqIndex? i n = some i.toNat := by
  unfold seqIndex?
  have h0 : ¬ i < 0 := by omega
  simp only [h0, if_false]
  have h1 : (decide (0 ≤ i) && decide (i < (n : Int))) = true := by
    rw [Bool.and_eq_true, decide_eq_true_eq, decide_eq_true_eq]
    exact h
  rw [h1]
  rfl
theorem Rps.erase {K : PySem.W.Frag} {F : Hp} : ∀ {xs : List V} {ds : List D} (k : Nat), Rps K F xs ds → Rps K F (xs.eraseIdx k) (ds.eraseIdx k)
  | _, _, _, .nil => .nil
  | _, _, 0, .cons _ r => r
  | _, _, k + 1, .cons a r => .cons a (Rps.erase k r)
section
variable {cs : List Addr} {X : Cx} {E : XK} {e k : Expr} {x : Str} {p pos apos cpos : Pos} {i : Nat} {fa fk : Nv → Option D}
theorem od_addT : OpR X (binaryOp .Add) (rD X.K cs addTD) := by
  rintro pins s σ H v u a b Q I rx ry ⟨Z, F, σ', ρ, x, y, d, R, w1, w2, e, q⟩
  unfold addTD at e
  split at e
  · split at e
    · rename_i hl
      cases e
      obtain ⟨a1, vs, rfl, f1, s1, r1⟩ := R.tup w1
      obtain ⟨a2, ws, rfl, f2, s2, r2⟩ := R.tup w2
      have hz : vs.length + ws.length ≤ sizeLine := by
        rw [r1.len, r2.len]
        exact Nat.le_trans hl (by decide)
      refine op_catA pins s σ H _ _ a b Q I rx ry ⟨_, _, _, _, rfl, rfl, s1, s2, hz, fun h => ?_, fun _ h => ?_, fun _ _ p hp => ?_⟩
      · subst h
        have ra := r1.app r2
        rw [List.nil_append] at ra
        exact q _ F H (Ext.refl F) R (.tup f2 ra)
      · subst h
        have ra := r1.app r2
        rw [List.append_nil] at ra
        exact q _ F H (Ext.refl F) R (.tup f1 ra)
      · obtain ⟨R4, e4, _⟩ := R.new (o := .tup (vs ++ ws)) hp
        exact q _ _ _ e4 R4 (.tup (.inl (.inl upd_same)) ((r1.app r2).ext e4))
    · cases e
  · cases e
theorem op_mul_s : OpR X (binaryOp .Mult) (fun x y H Q => ∃ s j, x = .str s ∧ y = .int j ∧ ((j = 0 ∧ Q (.str Str.empty) H) ∨ (j = 1 ∧ Q (.str s) H))) := by
  intro pins s σ H x y v u Q I rx ry h
  obtain ⟨z, j, rfl, rfl, h⟩ := h
  obtain ⟨t, rfl⟩ := rx
  obtain ⟨t', rfl⟩ := ry
  rcases h with ⟨rfl, q⟩ | ⟨rfl, q⟩
  · exact PySem.P.mul_str_none (by decide) (by decide) ⟨.str Str.empty, H, I.tok _, ⟨_, rfl⟩, q⟩
  · refine PySem.P.mul_str (by decide) (fun _ h => ?_) (fun _ h => ?_) ?_
    · exact absurd h (by simp)
    · exact absurd h (by simp)
    · rw [if_neg (by decide), if_pos (by simp)]
      exact ⟨.str z, H, I, ⟨_, rfl⟩, q⟩
theorem od_mulS : OpR X (binaryOp .Mult) (rD X.K cs mulSD) := by
  rintro pins s σ H v u a b Q I rx ry ⟨Z, F, σ', ρ, x, y, d, R, w1, w2, e, q⟩
  unfold mulSD at e
  split at e
  · cases R.vstr w1
    cases R.vint w2
    split at e
    · rename_i hj
      cases e
      exact op_mul_s pins s σ H _ _ a b Q I rx ry ⟨_, _, rfl, rfl, .inl ⟨hj, q _ F H (Ext.refl F) R (.str _)⟩⟩
    · split at e
      · rename_i hj
        cases e
        exact op_mul_s pins s σ H _ _ a b Q I rx ry ⟨_, _, rfl, rfl, .inr ⟨hj, q _ F H (Ext.refl F) R (.str _)⟩⟩
      · cases e
  · cases e
theorem sd_popAt (h : PE X (.Name x p) (tVar i)) (hk : EP' cs X k fk) (hbase : attributeBase (.Name x p) "pop" X.env (eval (.Name x p) X.env) = eval (.Name x p) X.env := by rfl)
    (hfew : ((backTo cpos (starEach [k] X.env)).all (fun x => !x.1) && (backToKw cpos (keywordEach [] X.env)).all (fun x => x.1.isSome)
      && decide (([k] : List Expr).length + ([] : List Keyword).length + (if ([] : List Keyword).isEmpty then 0 else 1) < 30)) = true := by rfl)
    (hline : (apos.endLine == cpos.line) = true := by rfl) (hs : starEach [k] X.env = (false, eval k X.env) :: starEach [] X.env := by rfl) (hplain : (backTo cpos (starEach ([] : List Expr) X.env)).any (·.1) = false := by rfl)
    (hsw : swapsWith (.Call (.Attribute (.Name x p) "pop" apos) [k] [] cpos) none pos.line X.env = pure false := by rfl) :
    SD cs X E (.Expr (.Call (.Attribute (.Name x p) "pop" apos) [k] [] cpos) pos) (popAtS i fk) :=
  ⟨ps_imp (ps_expr (pe_bm PySem.F.plainAttrs_list PySem.F.slot_list_pop PySem.F.type_list_pop mt_popAt h (pa_cons hk.h pa_nil hs) hbase hfew hline hs hplain) hsw) fun D σ H ⟨Z, F, ρ, r, R, ef, w⟩ => by
  obtain ⟨kd, e0, e2⟩ := Option.bind_eq_some_iff.mp ef
  obtain ⟨c, d, hc, hm, e3, rfl⟩ := mutS_some e2
  obtain ⟨a, h1, fa0, za, ow⟩ := R.mine i c hc hm
  unfold popAtD at e3
  split at e3
  · rename_i xs hg
    split at e3
    · rename_i n
      split at e3
      · rename_i hb
        cases e3
        rw [hg] at ow
        obtain ⟨vs, g1, g2⟩ := ow
        refine ⟨.ref a, h1, .inl ⟨rfl, vs, .inl (.inl g1)⟩, Z, F, ρ, _, R, e0, fun u F0 H0 x0 R0 r0 => ?_⟩
        obtain ⟨a', h1', _, _, ow'⟩ := R0.mine i c hc hm
        rw [h1] at h1'
        cases h1'
        rw [hg] at ow'
        obtain ⟨vs', g1', g2'⟩ := ow'
        cases r0
        have hl := g2'.len
        have hb0 := hb.1
        have hb1 := hb.2.1
        have hb2 := hb.2.2
        have hi : n.toNat < vs'.length := by omega
        refine ⟨a, vs', n, n.toNat, vs'[n.toNat], rfl, rfl, g1', by omega, by omega, six_is ⟨hb0, by omega⟩, List.getElem?_eq_getElem hi, w σ F0 _ rfl x0 (R0.mut hc hm h1 ⟨_, upd_same, g2'.erase _⟩)⟩
      · cases e3
    · cases e3
  · cases e3⟩
end
end DS

namespace DS
open PySem L2

/-! ## except M as e: a suite over data, e's slot lent -/
/-- the heap, and new things -/
inductive Grow (H : Hp) : Hp → Prop
  | refl : Grow H H
  | step {H' : Hp} {p : Addr} {o : HO} : Grow H H' → H' p = none → Grow H (upd H' p o)
theorem Grow.trans {H H1 H2 : Hp} (a : Grow H H1) (b : Grow H1 H2) : Grow H H2 := by
  induction b with
  | refl => exact a
  | step _ h ih => exact .step ih h
theorem Rep.grown {K : PySem.W.Frag} {cs : List Addr} {Z F H H' : Hp} {σ : L2.St} {ρ : Nv} (g : Grow H H') (R : Rep K cs Z F H σ ρ) : ∃ F', Ext F F' ∧ Rep K cs Z F' H' σ ρ := by
  induction g with
  | refl => exact ⟨F, Ext.refl F, R⟩
  | step _ h ih =>
    obtain ⟨F', e, R'⟩ := ih
    obtain ⟨R2, e2, _⟩ := R'.new h
    exact ⟨_, e.trans e2, R2⟩
/-- an expression that comes to v where C holds of the slots -/
structure EK (X : Cx) (C : L2.St → Prop) (e : Expr) (v : V) : Prop where
  h : PE X e (fun σ H Q => C σ ∧ ∀ H', Grow H H' → Q v H')
/-- which of the program's classes a refusal is of -/
def isaB (c : Value) (T : String) : Bool := match c with
  | .type x => x == T
  | _ => false
structure Rsd (K : PySem.W.Frag) (cl : Value → Value) (c : Value) : Prop where
  ex : ∃ C, cl c = .ref C ∧ Exi K C
/-- what isinstance says of it: T a class of the program; a built-in one -/
structure Isa (K : PySem.W.Frag) (mg : Str → Option Value) (cl : Value → Value) (c : Value) (T : Str) (b : Bool) : Prop where
  ex : ∃ C CT, cl c = .ref C ∧ mg T = some (.ref CT) ∧ PySem.W.kitOne K (.ref C) (.ref CT) = some b
structure IsaB (K : PySem.W.Frag) (mg : Str → Option Value) (cl : Value → Value) (c : Value) (T : Str) (n : String) (b : Bool) : Prop where
  ex : ∃ C, cl c = .ref C ∧ mg T = none ∧ bootBuiltins T = some (.type n) ∧ PySem.W.kitOne K (.ref C) (.type n) = some b
section
variable {cs : List Addr} {cl : Value → Value} {X : Cx} {C0 : L2.St → Prop} {a : Addr} {oe : Obj} {i : Nat} {n T : Str} {p1 p2 p3 p4 pos : Pos} {b : Bool} {c : Value} {tn : String}
theorem ek_isE (hp : (a, oe) ∈ X.pn) (hz : Zc (cl c) none oe) (hd : ∃ vs, oe.data = .fields vs) (E : Rsd X.K cl c) (hg : Gl X "isinstance") (hm : X.mg "isinstance" = none) (hn : PE X (.Name n p2) (tVar i)) (hC : ∀ σ, C0 σ → σ[i]? = some (some (.ref a))) (hgT : Gl X T) (hk : Isa X.K X.mg cl c T b) (hdb : (T == ("__debug__" : Str)) = false := by decide)
    (hs : starEach [.Name n p2, .Name T p3] X.env = (false, eval (.Name n p2) X.env) :: starEach [.Name T p3] X.env := by rfl) (hs2 : starEach [.Name T p3] X.env = (false, eval (.Name T p3) X.env) :: starEach [] X.env := by rfl) (hpl : (backTo pos (starEach [.Name T p3] X.env)).any (·.1) = false := by rfl) :
    EK X C0 (.Call (.Name "isinstance" p1) [.Name n p2, .Name T p3] [] pos) (.bl b) := by
  obtain ⟨C, e1, e2⟩ := E.ex
  obtain ⟨C', CT, e3, e4, e5⟩ := hk.ex
  rw [e1] at e3
  cases e3
  rw [e1] at hz
  exact ⟨pe_imp (pe_isE hp hz hd e2 hg hm hn (pe_glob (v := .ref CT) hgT e4 rfl hdb) (.own CT) e5 hs hs2 hpl) fun σ H Q ⟨h1, q⟩ => ⟨hC σ h1, q H .refl⟩⟩
theorem ek_isEB (hp : (a, oe) ∈ X.pn) (hz : Zc (cl c) none oe) (hd : ∃ vs, oe.data = .fields vs) (E : Rsd X.K cl c) (hg : Gl X "isinstance") (hm : X.mg "isinstance" = none) (hn : PE X (.Name n p2) (tVar i)) (hC : ∀ σ, C0 σ → σ[i]? = some (some (.ref a))) (hgT : Gl X T) (hk : IsaB X.K X.mg cl c T tn b) (hnm : T ≠ "__name__" := by decide) (hdb : (T == ("__debug__" : Str)) = false := by decide)
    (hs : starEach [.Name n p2, .Name T p3] X.env = (false, eval (.Name n p2) X.env) :: starEach [.Name T p3] X.env := by rfl) (hs2 : starEach [.Name T p3] X.env = (false, eval (.Name T p3) X.env) :: starEach [] X.env := by rfl) (hpl : (backTo pos (starEach [.Name T p3] X.env)).any (·.1) = false := by rfl) :
    EK X C0 (.Call (.Name "isinstance" p1) [.Name n p2, .Name T p3] [] pos) (.bl b) := by
  obtain ⟨C, e1, e2⟩ := E.ex
  obtain ⟨C', e3, e4, e5, e6⟩ := hk.ex
  rw [e1] at e3
  cases e3
  rw [e1] at hz
  exact ⟨pe_imp (pe_isE hp hz hd e2 hg hm hn (pe_bltn (v := .ty tn) hgT e4 e5 rfl hnm hdb) (.ty tn) e6 hs hs2 hpl) fun σ H Q ⟨h1, q⟩ => ⟨hC σ h1, q H .refl⟩⟩
/-- isinstance(e, (T, ..)), all of them classes of the program -/
inductive IsaT (X : Cx) (cl : Value → Value) (c : Value) : List Expr → Bool → Prop
  | nil : IsaT X cl c [] false
  | cons {T : Str} {p : Pos} {r : List Expr} {b d : Bool} : Gl X T → (T == ("__debug__" : Str)) = false → Isa X.K X.mg cl c T b → starEach (.Name T p :: r) X.env = (false, eval (.Name T p) X.env) :: starEach r X.env → IsaT X cl c r d → IsaT X cl c (.Name T p :: r) (b || d)
theorem isaT_pa {C : Addr} (hC : cl c = .ref C) {es : List Expr} (h : IsaT X cl c es b) : ∃ (ks : List V) (us : List Value), ks.length ≤ es.length ∧ PA X es (fun σ H Q => Q ks H) ∧ Paired ClsV ks us ∧ PySem.W.kitAny X.K (.ref C) us = some b := by
  induction h with
  | nil => exact ⟨[], [], Nat.le_refl _, pa_nil, .nil, rfl⟩
  | cons hg hdb hk hs _ ih =>
    obtain ⟨ks, us, h0, h1, h2, h3⟩ := ih
    obtain ⟨C', CT, e3, e4, e5⟩ := hk.ex
    rw [hC] at e3
    cases e3
    refine ⟨.ref CT :: ks, .ref CT :: us, Nat.succ_le_succ h0, ?_, .cons (.own CT) h2, ?_⟩
    · exact pa_cons (pe_glob (v := .ref CT) hg e4 rfl hdb) h1 hs
    · unfold PySem.W.kitAny
      rw [e5]
      rename_i b1 d1 _
      cases b1
      · exact h3
      · rfl
theorem ek_isTE {es : List Expr} {j : Nat} (hp : (a, oe) ∈ X.pn) (hz : Zc (cl c) none oe) (hd : ∃ vs, oe.data = .fields vs) (E : Rsd X.K cl c) (hg : Gl X "isinstance") (hm : X.mg "isinstance" = none) (hn : PE X (.Name n p2) (tVar i)) (hC : ∀ σ, C0 σ → σ[i]? = some (some (.ref a))) (hk : IsaT X cl c es b) (hle : es.length ≤ 20 := by decide)
    (hs : starEach [.Name n p2, .Tuple es j p3] X.env = (false, eval (.Name n p2) X.env) :: starEach [.Tuple es j p3] X.env := by rfl) (hs2 : starEach [.Tuple es j p3] X.env = (false, eval (.Tuple es j p3) X.env) :: starEach [] X.env := by rfl) (hpl : (backTo pos (starEach [.Tuple es j p3] X.env)).any (·.1) = false := by rfl) :
    EK X C0 (.Call (.Name "isinstance" p1) [.Name n p2, .Tuple es j p3] [] pos) (.bl b) := by
  obtain ⟨C, e1, e2⟩ := E.ex
  obtain ⟨ks, us, h0, h1, h2, h3⟩ := isaT_pa e1 hk
  rw [e1] at hz
  have hz2 : ks.length ≤ sizeLine := Nat.le_trans (Nat.le_trans h0 hle) (by decide)
  exact ⟨pe_imp (pe_isTE hp hz hd e2 hg hm hn (pe_imp (pe_tup h1) fun σ H Q q => ⟨hz2, q⟩) h2 h3 hs hs2 hpl) fun σ H Q ⟨h4, q⟩ => ⟨hC σ h4, fun p o hp' => q _ (.step .refl hp')⟩⟩
theorem ek_str {s : Str} {j : Nat} : EK X C0 (.Constant (.str s) j pos) (.str s) := ⟨pe_imp pe_str fun σ H Q ⟨_, q⟩ => q H .refl⟩
theorem ek_var {j : Nat} {x : Str} {v : V} (h : PE X (.Name x p1) (tVar j)) (hC : ∀ σ, C0 σ → σ[j]? = some (some v)) : EK X C0 (.Name x p1) v := ⟨pe_imp h fun σ H Q ⟨h1, q⟩ => ⟨v, hC σ h1, q H .refl⟩⟩
theorem ek_not {e : Expr} (h : EK X C0 e (.bl b)) : EK X C0 (.UnaryOp .Not e pos) (.bl (!b)) := ⟨pe_imp (pe_not h.h) fun σ H Q ⟨h1, q⟩ => ⟨h1, fun H' g => ⟨b, rfl, q H' g⟩⟩⟩
theorem ek_one {op : BoolOp} {e : Expr} {v : V} (h : EK X C0 e v) : EK X C0 (.BoolOp op [e] pos) v := ⟨pe_one h.h⟩
theorem ek_or {e e2 : Expr} {r : List Expr} {d : Bool} (h : EK X C0 e (.bl b)) (h2 : EK X C0 (.BoolOp .Or (e2 :: r) pos) (.bl d)) : EK X C0 (.BoolOp .Or (e :: e2 :: r) pos) (.bl (b || d)) := ⟨pe_imp (pe_or h.h h2.h) fun σ H Q ⟨h1, q⟩ => ⟨h1, fun H' g => ⟨b, rfl, by
  cases b
  · exact ⟨h1, fun H2 g2 => q H2 (g.trans g2)⟩
  · exact q H' g⟩⟩⟩
theorem ek_cat {e e2 : Expr} {x y : Str} (h : EK X C0 e (.str x)) (h2 : EK X C0 e2 (.str y)) (hl : x.length + y.length ≤ 1000 := by decide) : EK X C0 (.BinOp e .Add e2 pos) (.str (x ++ y)) := ⟨pe_imp (pe_op op_add_str h.h h2.h) fun σ H Q ⟨h1, q⟩ => ⟨h1, fun H1 g1 => ⟨h1, fun H2 g2 => ⟨x, y, rfl, rfl, Nat.le_trans hl (by decide), q H2 (g1.trans g2)⟩⟩⟩⟩
def timesB (x : Str) (b : Bool) : Str := if b = true then x else Str.empty
/-- x * int(b) -/
theorem ek_times {e e2 : Expr} {x : Str} (hg : Gl X "int") (hm : X.mg "int" = none) (h : EK X C0 e (.str x)) (h2 : EK X C0 e2 (.bl b)) (he : starEach [e2] X.env = (false, eval e2 X.env) :: starEach [] X.env := by rfl) (hpl : (backTo p4 (starEach ([] : List Expr) X.env)).any (·.1) = false := by rfl) :
    EK X C0 (.BinOp e .Mult (.Call (.Name "int" p1) [e2] [] p4) pos) (.str (timesB x b)) := ⟨pe_imp (pe_op op_mul_s h.h (pe_callTy call_int1 hg hm PyProof.Rows.boot_int (pa_cons h2.h pa_nil he) (he := he) (hpl := hpl))) fun σ H Q ⟨h1, q⟩ => ⟨h1, fun H1 g1 => ⟨h1, fun H2 g2 => .inr ⟨b, rfl, x, _, rfl, rfl, by
  cases b
  · exact .inl ⟨rfl, q H2 (g1.trans g2)⟩
  · exact .inr ⟨rfl, q H2 (g1.trans g2)⟩⟩⟩⟩⟩
theorem ek_pt {e : Expr} (h : EK X C0 e (.bl b)) (he : ∀ whole, isTrue e X.env whole = (do let v ← whole; standAt e.pos; holding [v] (truthy v)) := by intro _; rfl) : PT X e (fun σ H Q => C0 σ ∧ ∀ H', Grow H H' → Q b H') := pt_imp (pt_val h.h he) fun σ H Q ⟨h1, q⟩ => ⟨h1, fun H' g => ⟨b, rfl, q H' g⟩⟩
end
abbrev tBK (C : L2.St → Prop) (b : Bool) : TT := fun σ H Q => C σ ∧ ∀ H', Grow H H' → Q b H'
theorem ekt_or1 {X : Cx} {C : L2.St → Prop} {e : Expr} {pos : Pos} {b : Bool} (h : PT X e (tBK C b)) : PW X (.BoolOp .Or [e] pos) (tBK C b) := pw_or1 h
theorem ekt_not {X : Cx} {C : L2.St → Prop} {e : Expr} {pos : Pos} {b : Bool} (h : PT X e (tBK C b)) : PT X (.UnaryOp .Not e pos) (tBK C (!b)) := pt_imp (pt_not h) fun σ H Q ⟨h1, q⟩ => ⟨h1, fun H' g => q H' g⟩
theorem ekt_or {X : Cx} {C : L2.St → Prop} {e e2 : Expr} {r : List Expr} {pos : Pos} {b d : Bool} (h : PT X e (tBK C b)) (h2 : PW X (.BoolOp .Or (e2 :: r) pos) (tBK C d)) : PW X (.BoolOp .Or (e :: e2 :: r) pos) (tBK C (b || d)) := pw_imp (pw_or h h2) fun σ H Q ⟨h1, q⟩ => ⟨h1, fun H' g => by
  cases b
  · exact ⟨h1, fun H2 g2 => q H2 (g.trans g2)⟩
  · exact q H' g⟩
theorem sd_raiseC {cs : List Addr} {cl : Value → Value} {X : Cx} {c : Value} {p1 p2 pos : Pos} {E : XK} {m : Expr} {fm : Nv → Option Unit} {x : Str} (T : ∃ C, Ecl X.K X.mg x C ∧ cl c = .ref C) (hc : X.calm = true) (tk : Takes X (fun cls d _ H => E cls d H)) (hg : Gl X x) (hm : EM cs X m fm) (hs : starEach [m] X.env = (false, eval m X.env) :: starEach [] X.env := by rfl) (hdb : (x == ("__debug__" : Str)) = false := by decide) :
    SD cs X (EXc cl E) (.Raise (some (.Call (.Name x p1) [m] [] p2)) none pos) (raiseS c fm) := by
  obtain ⟨C, h1, h2⟩ := T
  exact sd_raise h1 h2 hc tk hg hm hs hdb
/-! try: x = f(..) (or f(..) alone) except M as e: a suite that returns -/
def tryV (nx : D → Nv → Nv) (n i : Nat) (Cs : List Value) (sem : List D → Option Ou) (fr : Nv → Option (List D)) (gs : Value → Nv → Option SR) : Nv → Option SR := fun ρ => (fr ρ).bind fun ds => if ds.length = n then match sem ds with
  | some (.ret d _ _) => some (.nx (nx d ρ))
  | some (.exc c) => if c ∈ Cs ∧ i < ρ.length then match gs c (ρ.set i none) with
    | some (.rt d o ρ') => some (.rt d o ρ')
    | _ => none
    else none
  | _ => none
  else none
section
variable {P : Program} {w : World} {K : PySem.W.Frag} {mg : Str → Option Value} {base : Heap} {cs : List Addr} {cl : Value → Value} {X : Cx} {E : XK} {body suite : List Stmt} {b0 : Stmt} {np pos pos' : Pos} {i j k : Nat} {x n : Str} {M : Addr} {ms : List Md} {sem : List D → Option Ou} {fr : Nv → Option (List D)} {gs : Value → Nv → Option SR} {Cs : List Value} {nx : D → Nv → Nv}
theorem sd_tryV (tb : WX → TS) (hs : X.stack = X.env :: X.outer) (hf : X.env.frame = some X.env.locals) (hN : X.N.Nodup) (hi : X.N[i]? = some n) (hln : X.env.kindOf n = some .local) (hc : Names X x (.ref M)) (hro : ∀ m ∈ ms, m = .ro)
    (hb : ∀ (W : WX) (pn : List (Addr × Obj)) (xe : Value → Shared → Prop), Takes (X.tr pn xe) W → PassesOwn (model X.prog X.w) X.A X.env xe → PSs (X.tr pn xe) body (tb W))
    (hnx : ∀ (W : WX) (Z F H : Hp) (σ : L2.St) (ρ : Nv) (ds : List D) (o : Ou) (D : Ends), Rep X.K cs Z F H σ ρ → fr ρ = some ds → ds.length = ms.length → sem ds = some o →
      (∀ d own outs, o = .ret d own outs → ∀ σ' F' H', σ'.length = σ.length → Ext F F' → Rep X.K cs Z F' H' σ' (nx d ρ) → D.nx σ' H') → (∀ c, o = .exc c → ∀ F' H', Ext F F' → Rep X.K cs Z F' H' σ ρ → W (cl c) none σ H') → tb W D σ H)
    (hit : ∀ c ∈ Cs, PySem.W.exmOne X.K (cl c) (.ref M) = some true)
    (hsu : ∀ c ∈ Cs, ∀ (a : Addr) (oe : Obj) (pn : List (Addr × Obj)), Zc (cl c) none oe → (∃ vs, oe.data = .fields vs) → PSs (X.suite a ((a, oe) :: pn)) (b0 :: suite) (fun D σ H => σ[i]? = some (some (.ref a)) ∧ tS X.K cs E (gs c) D σ H)) :
    SD cs X E (.Try body [.ExceptHandler (some (.Name x np)) (some n) (b0 :: suite) pos'] [] [] pos) (tryV nx ms.length i Cs sem fr gs) :=
  ⟨ps_imp (ps_try_as (ts := fun a cls d D σ H => ∃ c ∈ Cs, cls = cl c ∧ d = none ∧ σ[i]? = some (some (.ref a)) ∧ tS X.K cs E (gs c) D σ H) hs hf hN hi hln hc takes0 hb fun a oe cls d pn hz hd => ⟨fun pins s σ H D I ⟨c, hc, e1, e2, h⟩ => by
    subst e1
    subst e2
    exact (hsu c hc a oe pn hz hd).run pins s σ H D I h⟩) fun D σ H ⟨Z, F, ρ, r, R, ef, w⟩ => by
  obtain ⟨ds, e1, e2⟩ := Option.bind_eq_some_iff.mp ef
  split at e2
  · rename_i hl
    split at e2
    · rename_i d own outs es'
      cases e2
      refine hnx _ Z F H σ ρ ds _ D R e1 hl es' (fun d' _ _ z => ?_) fun _ z => by cases z
      cases z
      exact w
    · rename_i c es'
      split at e2
      case isFalse => cases e2
      rename_i hcr
      split at e2
      · rename_i d o ρ' eg
        cases e2
        refine hnx _ Z F H σ ρ ds _ D R e1 hl es' (fun _ _ _ z => by cases z) fun c' z F' H' x R' => ?_
        cases z
        refine ⟨true, hit c hcr.1, fun _ a _ => ?_, fun z => by cases z⟩
        have hil : i < σ.length := by
          rw [R'.len]
          exact hcr.2
        exact ⟨c, hcr.1, rfl, rfl, List.getElem?_set_self hil, Z, F', ρ.set i none, .rt d o ρ', R'.drop i _, eg, fun v σ' F2 H2 l2 x2 R2 res => w v σ' F2 H2 (by rw [l2, List.length_set]) (x.trans x2) R2 res⟩
      · cases e2
    · cases e2
  · cases e2⟩
theorem AtX.tr (h : AtX X P w K mg base) {pn : List (Addr × Obj)} {xe : Value → Shared → Prop} : AtX (X.tr pn xe) P w K mg base := ⟨h.prog, h.w, h.K, h.mg, h.base⟩
/-- x = f(..) in the try -/
theorem sd_trySet {y fn : Str} {yp p p2 p5 : Pos} {e : Expr} {es : List Expr} {jj : Nat} {ps : List Str} (hs : X.stack = X.env :: X.outer) (hf : X.env.frame = some X.env.locals) (hN : X.N.Nodup) (hi : X.N[i]? = some n) (hln : X.env.kindOf n = some .local) (hc : Names X x (.ref M)) (hro : ∀ m ∈ ms, m = .ro)
    (hj : X.N[j]? = some y) (hx : Loc X.env.scope y) (F : CalX P w K mg base cs cl fn k ps ms sem) (hX : AtX X P w K mg base) (hr : Room jj X.A) (hk : k ≤ jj) (hg : Gl X fn) (ha : ∀ (pn : List (Addr × Obj)) (xe : Value → Shared → Prop), EPs cs (X.tr pn xe) (e :: es) fr)
    (hit : ∀ c ∈ Cs, PySem.W.exmOne X.K (cl c) (.ref M) = some true)
    (hsu : ∀ c ∈ Cs, ∀ (a : Addr) (oe : Obj) (pn : List (Addr × Obj)), Zc (cl c) none oe → (∃ vs, oe.data = .fields vs) → PSs (X.suite a ((a, oe) :: pn)) (b0 :: suite) (fun D σ H => σ[i]? = some (some (.ref a)) ∧ tS X.K cs E (gs c) D σ H))
    (hdb : (fn == ("__debug__" : Str)) = false := by decide) (he : starEach (e :: es) X.env = (false, eval e X.env) :: starEach es X.env := by rfl) (hpl : (backTo p2 (starEach es X.env)).any (·.1) = false := by rfl)
    (hsw : swapsWith (.Call (.Name fn p) (e :: es) [] p2) (some (.Name y yp)) p5.line X.env = pure false := by rfl) (hff : X.fn y = true ∨ X.env.scope.names.lookup y = some .local := by first | exact .inl rfl | exact .inr rfl | assumption) :
    SD cs X E (.Try [.Assign [.Name y yp] (.Call (.Name fn p) (e :: es) [] p2) p5] [.ExceptHandler (some (.Name x np)) (some n) (b0 :: suite) pos'] [] [] pos) (tryV (fun d ρ => ρ.set j (some (.sh d))) ms.length i Cs sem fr gs) :=
  sd_tryV (fun W => tAsg (tCallS (spDX cl X.K cs ms sem) (WE W) (tPA X.K cs fr)) (gName j)) hs hf hN hi hln hc hro
    (fun W pn xe tk _ => pss_one (ps_set (X := X.tr pn xe) hN hj hx (pe_callXs (X := X.tr pn xe) F hX.tr hr hk hg (ha pn xe) tk hdb he hpl) hsw hff))
    (fun W Z F H σ ρ ds o D R e1 hl es' q1 q2 => t_callX (W := W) (D := fun _ ρ => .nx ρ) hro _ R e1 hl es' (fun d own outs eo v F' H' x R' rp => q1 d own outs eo _ F' H' (by rw [List.length_set]) x (R'.setSh j rp)) fun c eo F' H' x R' => q2 c eo F' H' x R') hit hsu
/-- f(..) alone in the try -/
theorem sd_tryEx {fn : Str} {p p2 p5 : Pos} {e : Expr} {es : List Expr} {jj : Nat} {ps : List Str} (hs : X.stack = X.env :: X.outer) (hf : X.env.frame = some X.env.locals) (hN : X.N.Nodup) (hi : X.N[i]? = some n) (hln : X.env.kindOf n = some .local) (hc : Names X x (.ref M)) (hro : ∀ m ∈ ms, m = .ro)
    (F : CalX P w K mg base cs cl fn k ps ms sem) (hX : AtX X P w K mg base) (hr : Room jj X.A) (hk : k ≤ jj) (hg : Gl X fn) (ha : ∀ (pn : List (Addr × Obj)) (xe : Value → Shared → Prop), EPs cs (X.tr pn xe) (e :: es) fr)
    (hit : ∀ c ∈ Cs, PySem.W.exmOne X.K (cl c) (.ref M) = some true)
    (hsu : ∀ c ∈ Cs, ∀ (a : Addr) (oe : Obj) (pn : List (Addr × Obj)), Zc (cl c) none oe → (∃ vs, oe.data = .fields vs) → PSs (X.suite a ((a, oe) :: pn)) (b0 :: suite) (fun D σ H => σ[i]? = some (some (.ref a)) ∧ tS X.K cs E (gs c) D σ H))
    (hdb : (fn == ("__debug__" : Str)) = false := by decide) (he : starEach (e :: es) X.env = (false, eval e X.env) :: starEach es X.env := by rfl) (hpl : (backTo p2 (starEach es X.env)).any (·.1) = false := by rfl)
    (hsw : swapsWith (.Call (.Name fn p) (e :: es) [] p2) none p5.line X.env = pure false := by rfl) :
    SD cs X E (.Try [.Expr (.Call (.Name fn p) (e :: es) [] p2) p5] [.ExceptHandler (some (.Name x np)) (some n) (b0 :: suite) pos'] [] [] pos) (tryV (fun _ ρ => ρ) ms.length i Cs sem fr gs) :=
  sd_tryV (fun W => fun D σ H => tCallS (spDX cl X.K cs ms sem) (WE W) (tPA X.K cs fr) σ H fun _ H' => D.nx σ H') hs hf hN hi hln hc hro
    (fun W pn xe tk _ => pss_one (ps_expr (X := X.tr pn xe) (pe_callXs (X := X.tr pn xe) F hX.tr hr hk hg (ha pn xe) tk hdb he hpl) hsw))
    (fun W Z F H σ ρ ds o D R e1 hl es' q1 q2 => t_callX (W := W) (D := fun _ ρ => .nx ρ) hro _ R e1 hl es' (fun d own outs eo v F' H' x R' rp => q1 d own outs eo σ F' H' rfl x R') fun c eo F' H' x R' => q2 c eo F' H' x R') hit hsu
end
end DS

namespace K5
open PySem L2 DS
def topS (i : Nat) : Stmt := PySem.Challenge.pw_mendread_k05_deeds_done.main.body.getD i (.Pass ⟨0, 0, 0, 0⟩)
noncomputable def gsuite : Nv → Option SR := fun ρ => ((andV (op2 isD (nmW 5) (fun _ => some .none)) (op2 eqXD (nmW 6) (nmW 4))) ρ).map fun d => .rt d false ρ
theorem suite_ok {X : Cx} {cs : List Addr} {E : XK} {a : Addr} {t e1 e2 e3 : Expr} {b0 : Bool} {th : List Stmt} {p q r : Pos} (h0 : PT X t (tBK (fun σ => σ[8]? = some (some (.ref a))) b0)) (h1 : EP' cs X e1 (op2 isD (nmW 5) (fun _ => some .none))) (h2 : EK X (fun σ => σ[8]? = some (some (.ref a))) e2 (.bl true)) (h3 : EP' cs X e3 (op2 eqXD (nmW 6) (nmW 4)))
    (hb : b0 = false := by rfl) :
    PSs X [.If t th [] p, .Return (some (.BoolOp .And [e1, e2, e3] q)) r] (fun D σ H => σ[8]? = some (some (.ref a)) ∧ tS X.K cs E gsuite D σ H) := by
  subst hb
  refine ⟨fun pins s σ H D I ⟨hi, Z, F, ρ, r, R, ef, w⟩ => ?_⟩
  refine (pss_cons (ps_if h0 pss_never pss_nil) (pss_one (ps_ret (pe_and h1.h (pe_and h2.h (pe_one h3.h)))))).run pins s σ H D I ?_
  refine ⟨hi, fun H1 g1 => ?_⟩
  show (if false = true then _ else _)
  rw [if_neg Bool.false_ne_true]
  unfold tNext tRet tAndV
  dsimp only
  obtain ⟨F1, x1, R1⟩ := R.grown g1
  obtain ⟨d, e1, rfl⟩ := Option.map_eq_some_iff.mp ef
  unfold andV at e1
  obtain ⟨x, ea, e1⟩ := Option.bind_eq_some_iff.mp e1
  obtain ⟨k, ek, e1⟩ := Option.bind_eq_some_iff.mp e1
  have hk0 := asB_some ek
  refine ⟨Z, F1, ρ, _, R1, ea, fun v F2 H2 e2 R2 r2 => ⟨k, (hk0 ▸ r2).isbl, ?_⟩⟩
  by_cases hk : k = true
  · rw [if_pos hk] at e1 ⊢
    refine ⟨hi, fun H3 g3 => ⟨true, rfl, ?_⟩⟩
    rw [if_pos rfl]
    obtain ⟨F3, x3, R3⟩ := R2.grown g3
    exact ⟨Z, F3, ρ, d, R3, e1, fun v F4 H4 e4 R4 r4 => w v σ F4 H4 rfl (((x1.trans e2).trans x3).trans e4) R4 r4⟩
  · rw [if_neg hk] at e1 ⊢
    cases e1
    exact w _ σ F2 H2 rfl (x1.trans e2) R2 (.bl false)
structure Blts (mg : Str → Option Value) : Prop where
  b_ValueError : mg "ValueError" = none
  b_bool : mg "bool" = none
  b_enumerate : mg "enumerate" = none
  b_int : mg "int" = none
  b_isinstance : mg "isinstance" = none
  b_len : mg "len" = none
  b_list : mg "list" = none
  b_ord : mg "ord" = none
  b_range : mg "range" = none
  b_str : mg "str" = none
  b_tuple : mg "tuple" = none
  c_BLANK : ∃ t, mg "BLANK" = some (.int 32 t)
  c_CHANGE : ∃ t, mg "CHANGE" = some (.str "change" t)
  c_CUT : ∃ t, mg "CUT" = some (.str "cut" t)
  c_KEEP : ∃ t, mg "KEEP" = some (.str "keep" t)
  c_PERCENT : ∃ t, mg "PERCENT" = some (.int 37 t)
  c_PUT : ∃ t, mg "PUT" = some (.str "put" t)
  c_TILDE : ∃ t, mg "TILDE" = some (.int 126 t)
structure Clss (K : PySem.W.Frag) (mg : Str → Option Value) (cl : Value → Value) (M : Addr) : Prop where
  t_MendError : mg "MendError" = some (.ref M)
  e_BadDeeds : ∃ C, Ecl K mg "BadDeeds" C ∧ cl (.type "BadDeeds") = .ref C
  r_BadDeeds : Rsd K cl (.type "BadDeeds")
  m_BadDeeds : PySem.W.exmOne K (cl (.type "BadDeeds")) (.ref M) = some true
  i_BadDeeds_BadRule : Isa K mg cl (.type "BadDeeds") "BadRule" false
  i_BadDeeds_BadText : Isa K mg cl (.type "BadDeeds") "BadText" false
  i_BadDeeds_Endless : Isa K mg cl (.type "BadDeeds") "Endless" false
  i_BadDeeds_NoName : Isa K mg cl (.type "BadDeeds") "NoName" false
  i_BadDeeds_BadDeeds : Isa K mg cl (.type "BadDeeds") "BadDeeds" true
  j_BadDeeds_ValueError : IsaB K mg cl (.type "BadDeeds") "ValueError" "ValueError" true
variable {cl : Value → Value} {M : Addr}
section
variable {P : Program} {w : World} {K : PySem.W.Frag} {mg : Str → Option Value} {base : Heap} {cs : List Addr}

/-! is_sign -/
abbrev s_is_sign : Stmt := topS 11
theorem sc_is_sign : FnScope ["thing", "number"] ["thing"] (defScope s_is_sign) := ⟨rfl, rfl, rfl, by decide +kernel, rfl, by decide +kernel, by decide +kernel⟩
noncomputable def g_is_sign : Nv → Option SR := (seqS (ifS (orT (notT (fun ρ => ((fun ρ => ((nmW 0) ρ).map fun d => .bool (isiB "str" d)) ρ).bind truD)) (opT neD (callD lenD (cons2 (nmW 0) (fun _ => some []))) (fun _ => some (.int 1))))
      (fun ρ => ((fun _ => some (.bool false)) ρ).map fun d => .rt d false ρ)
      (fun ρ => some (.nx ρ)))
    (seqS (setS 1 (callD ordD (cons2 (nmW 0) (fun _ => some []))))
    (fun ρ => ((andV (ch3 leD leD (fun _ => some (.int 32)) (nmW 1) (fun _ => some (.int 126))) (op2 neD (nmW 1) (fun _ => some (.int 37)))) ρ).map fun d => .rt d false ρ)))
noncomputable def sem_is_sign : List D → Option Ou := semR 1 1 g_is_sign
theorem co_is_sign : Comes [.ro] 1 g_is_sign sem_is_sign := comes_ro (by decide)
theorem ok_is_sign {f : Addr} {fd : FuncData} (F : Fun K "is_sign" "is_sign" s_is_sign f fd) (B : Blts mg) : FnOk P w K mg base CX0 1 f fd ["thing"] (spD K cs [.ro] sem_is_sign) := by
  refine fn_ds F sc_is_sign rfl fun cdv A outer s H E hr => ⟨g_is_sign, ?_, co_is_sign⟩
  exact (sd_cons (sd_if (et_pw (ew_or (et_not (et_val ((e_isi isi_str (by rfl) B.b_isinstance (e_nameW (pv 0)) (by rfl) B.b_str PyProof.Rows.boot_str)).w)) (ew_or1 (et_cmp (od_ne hr.units) ((e_callB cd_len (by rfl) B.b_len PySem.boot_len (ewa_cons (e_nameW (pv 0)) ewa_nil))).w (e_int).w (nomark _)))))
      (sd_one (sd_ret e_bool))
      sd_nil)
    (sd_cons (sd_set (i := 1) sc_is_sign.nd rfl (by first | exact .inl rfl | exact .inr rfl) (e_callB cd_ord (by rfl) B.b_ord PyProof.Rows.boot_ord (ewa_cons (e_nameW (pv 0)) ewa_nil)))
    (sd_one (sd_ret (e_and (e_chain od_le od_le ((e_gint (by rfl) B.c_BLANK)).w (e_nameW (pv 1)) ((e_gint (by rfl) B.c_TILDE)).w) (e_one (e_cmp (od_ne hr.units) (e_nameW (pv 1)) ((e_gint (by rfl) B.c_PERCENT)).w (nomark _))))))))

/-! is_place -/
abbrev s_is_place : Stmt := topS 13
theorem sc_is_place : FnScope ["thing"] ["thing"] (defScope s_is_place) := ⟨rfl, rfl, rfl, by decide +kernel, rfl, by decide +kernel, by decide +kernel⟩
noncomputable def g_is_place : Nv → Option SR := (fun ρ => ((andV (fun ρ => ((nmW 0) ρ).map fun d => .bool (isiB "int" d)) (notV (fun ρ => ((nmW 0) ρ).map fun d => .bool (isiB "bool" d)))) ρ).map fun d => .rt d false ρ)
noncomputable def sem_is_place : List D → Option Ou := semR 1 0 g_is_place
theorem co_is_place : Comes [.ro] 0 g_is_place sem_is_place := comes_ro (by decide)
theorem ok_is_place {f : Addr} {fd : FuncData} (F : Fun K "is_place" "is_place" s_is_place f fd) (B : Blts mg) : FnOk P w K mg base CX0 1 f fd ["thing"] (spD K cs [.ro] sem_is_place) := by
  refine fn_ds F sc_is_place rfl fun cdv A outer s H E hr => ⟨g_is_place, ?_, co_is_place⟩
  exact (sd_one (sd_ret (e_and (e_isi isi_int (by rfl) B.b_isinstance (e_nameW (pv 0)) (by rfl) B.b_int PyProof.Rows.boot_int) (e_one (e_not (e_isi isi_bool (by rfl) B.b_isinstance (e_nameW (pv 0)) (by rfl) B.b_bool PyProof.Rows.boot_bool))))))

/-! is_deed -/
abbrev s_is_deed : Stmt := topS 20
theorem sc_is_deed : FnScope ["thing", "place"] ["thing", "place"] (defScope s_is_deed) := ⟨rfl, rfl, rfl, by decide +kernel, rfl, by decide +kernel, by decide +kernel⟩
noncomputable def g_is_deed : Nv → Option SR := (seqS (ifS (orT (notT (fun ρ => ((fun ρ => ((nmW 0) ρ).map fun d => .bool (isiB "tuple" d)) ρ).bind truD)) (opT ninTD' (callD lenD (cons2 (nmW 0) (fun _ => some []))) (mkT (cons2 (fun _ => some (.int 2)) (cons2 (fun _ => some (.int 3)) (fun _ => some []))))))
      (fun ρ => ((fun _ => some (.bool false)) ρ).map fun d => .rt d false ρ)
      (fun ρ => some (.nx ρ)))
    (seqS (ifS (orT (notT (fun ρ => ((fun ρ => ((op2 ixD (nmW 0) (fun _ => some (.int 0))) ρ).map fun d => .bool (isiB "str" d)) ρ).bind truD)) (orT (notT (fun ρ => ((callS 1 sem_is_place (cons2 (op2 ixD (nmW 0) (fun _ => some (.int 1))) (fun _ => some []))) ρ).bind truD)) (opT neD (op2 ixD (nmW 0) (fun _ => some (.int 1))) (nmW 1))))
      (fun ρ => ((fun _ => some (.bool false)) ρ).map fun d => .rt d false ρ)
      (fun ρ => some (.nx ρ)))
    (seqS (ifS (opT eqD (callD lenD (cons2 (nmW 0) (fun _ => some []))) (fun _ => some (.int 2)))
      (fun ρ => ((op2 inTD' (op2 ixD (nmW 0) (fun _ => some (.int 0))) (mkT (cons2 (fun _ => some (.str "keep")) (cons2 (fun _ => some (.str "cut")) (fun _ => some []))))) ρ).map fun d => .rt d false ρ)
      (fun ρ => some (.nx ρ)))
    (fun ρ => ((andV (op2 inTD' (op2 ixD (nmW 0) (fun _ => some (.int 0))) (mkT (cons2 (fun _ => some (.str "put")) (cons2 (fun _ => some (.str "change")) (fun _ => some []))))) (callS 1 sem_is_sign (cons2 (op2 ixD (nmW 0) (fun _ => some (.int 2))) (fun _ => some [])))) ρ).map fun d => .rt d false ρ))))
noncomputable def sem_is_deed : List D → Option Ou := semR 2 0 g_is_deed
theorem co_is_deed : Comes [.ro, .ro] 0 g_is_deed sem_is_deed := comes_ro (by decide)
theorem ok_is_deed {f : Addr} {fd : FuncData} (F : Fun K "is_deed" "is_deed" s_is_deed f fd) (B : Blts mg) (C_is_sign : Cal P w K mg base cs "is_sign" 1 ["thing"] [.ro] sem_is_sign) (C_is_place : Cal P w K mg base cs "is_place" 1 ["thing"] [.ro] sem_is_place) : FnOk P w K mg base CX0 2 f fd ["thing", "place"] (spD K cs [.ro, .ro] sem_is_deed) := by
  refine fn_ds F sc_is_deed rfl fun cdv A outer s H E hr => ⟨g_is_deed, ?_, co_is_deed⟩
  exact (sd_cons (sd_if (et_pw (ew_or (et_not (et_val ((e_isi isi_tuple (by rfl) B.b_isinstance (e_nameW (pv 0)) (by rfl) B.b_tuple PyProof.Rows.boot_tuple)).w)) (ew_or1 (et_cmp (od_ninT (hu65 hr)) ((e_callB cd_len (by rfl) B.b_len PySem.boot_len (ewa_cons (e_nameW (pv 0)) ewa_nil))).w ((e_tup (ep_cons e_int (ep_cons e_int ep_nil)))).w (by rfl)))))
      (sd_one (sd_ret e_bool))
      sd_nil)
    (sd_cons (sd_if (et_pw (ew_or (et_not (et_val ((e_isi isi_str (by rfl) B.b_isinstance ((e_ix (e_nameW (pv 0)) (e_int).w (fun _ _ => rfl))).w (by rfl) B.b_str PyProof.Rows.boot_str)).w)) (ew_or (et_not (et_val ((c_call C_is_place (by exact ⟨rfl, rfl, rfl, rfl, rfl⟩) (by decide) (by exact hr) (by decide) (by rfl) (ep_cons (e_ix (e_nameW (pv 0)) (e_int).w (fun _ _ => rfl)) ep_nil))).w)) (ew_or1 (et_cmp (od_ne hr.units) ((e_ix (e_nameW (pv 0)) (e_int).w (fun _ _ => rfl))).w (e_nameW (pv 1)) (nomark _))))))
      (sd_one (sd_ret e_bool))
      sd_nil)
    (sd_cons (sd_if (et_cmp (od_eq hr.units) ((e_callB cd_len (by rfl) B.b_len PySem.boot_len (ewa_cons (e_nameW (pv 0)) ewa_nil))).w (e_int).w (nomark _))
      (sd_one (sd_ret (e_cmp (od_inT (hu65 hr)) ((e_ix (e_nameW (pv 0)) (e_int).w (fun _ _ => rfl))).w ((e_tup (ep_cons (e_gstr (by rfl) B.c_KEEP) (ep_cons (e_gstr (by rfl) B.c_CUT) ep_nil)))).w (by rfl))))
      sd_nil)
    (sd_one (sd_ret (e_and (e_cmp (od_inT (hu65 hr)) ((e_ix (e_nameW (pv 0)) (e_int).w (fun _ _ => rfl))).w ((e_tup (ep_cons (e_gstr (by rfl) B.c_PUT) (ep_cons (e_gstr (by rfl) B.c_CHANGE) ep_nil)))).w (by rfl)) (e_one (c_call C_is_sign (by exact ⟨rfl, rfl, rfl, rfl, rfl⟩) (by decide) (by exact hr) (by decide) (by rfl) (ep_cons (e_ix (e_nameW (pv 0)) (e_int).w (fun _ _ => rfl)) ep_nil)))))))))

/-! sign_behind -/
abbrev s_sign_behind : Stmt := topS 21
theorem sc_sign_behind : FnScope ["deed", "text"] ["deed", "text"] (defScope s_sign_behind) := ⟨rfl, rfl, rfl, by decide +kernel, rfl, by decide +kernel, by decide +kernel⟩
noncomputable def g_sign_behind : Nv → Option SR := (seqS (ifS (opT eqD (op2 ixD (nmW 0) (fun _ => some (.int 0))) (fun _ => some (.str "cut")))
      (fun ρ => ((fun _ => some (.str "")) ρ).map fun d => .rt d false ρ)
      (fun ρ => some (.nx ρ)))
    (seqS (ifS (opT eqD (op2 ixD (nmW 0) (fun _ => some (.int 0))) (fun _ => some (.str "keep")))
      (fun ρ => ((op2 ixD (nmW 1) (op2 ixD (nmW 0) (fun _ => some (.int 1)))) ρ).map fun d => .rt d false ρ)
      (fun ρ => some (.nx ρ)))
    (fun ρ => ((op2 ixD (nmW 0) (fun _ => some (.int 2))) ρ).map fun d => .rt d false ρ)))
noncomputable def sem_sign_behind : List D → Option Ou := semR 2 0 g_sign_behind
theorem co_sign_behind : Comes [.ro, .ro] 0 g_sign_behind sem_sign_behind := comes_ro (by decide)
theorem ok_sign_behind {f : Addr} {fd : FuncData} (F : Fun K "sign_behind" "sign_behind" s_sign_behind f fd) (B : Blts mg) : FnOk P w K mg base CX0 1 f fd ["deed", "text"] (spD K cs [.ro, .ro] sem_sign_behind) := by
  refine fn_ds F sc_sign_behind rfl fun cdv A outer s H E hr => ⟨g_sign_behind, ?_, co_sign_behind⟩
  exact (sd_cons (sd_if (et_cmp (od_eq hr.units) ((e_ix (e_nameW (pv 0)) (e_int).w (fun _ _ => rfl))).w ((e_gstr (by rfl) B.c_CUT)).w (nomark _))
      (sd_one (sd_ret e_str))
      sd_nil)
    (sd_cons (sd_if (et_cmp (od_eq hr.units) ((e_ix (e_nameW (pv 0)) (e_int).w (fun _ _ => rfl))).w ((e_gstr (by rfl) B.c_KEEP)).w (nomark _))
      (sd_one (sd_ret (e_ix (e_nameW (pv 1)) ((e_ix (e_nameW (pv 0)) (e_int).w (fun _ _ => rfl))).w (fun _ _ => rfl))))
      sd_nil)
    (sd_one (sd_ret (e_ix (e_nameW (pv 0)) (e_int).w (fun _ _ => rfl))))))

/-! done -/
abbrev s_done : Stmt := topS 19
theorem sc_done : FnScope ["text", "deeds", "signs", "place", "at", "deed"] ["text", "deeds"] (defScope s_done) := ⟨rfl, rfl, rfl, by decide +kernel, rfl, by decide +kernel, by decide +kernel⟩
noncomputable def g_done : Nv → Option SR := (seqS (setN 2 (mkL (fun _ => some [])))
    (seqS (setS 3 (fun _ => some (.int 0)))
    (seqS (fun ρ => ((fun ρ => ((cons2 (nmP 1) (fun _ => some [])) ρ).bind enumV) ρ).bind fun ds => forS (toTu 2 (toCons (toNm 4) (toCons (toNm 5) toNil))) (seqS (ifS (notT (fun ρ => ((callS 2 sem_is_deed (cons2 (nmP 5) (cons2 (nmP 3) (fun _ => some [])))) ρ).bind truD))
      (raiseS (.type "BadDeeds") (fmtV (op2 addD (nmW 4) (fun _ => some (.int 1))) (fmtV (nmP 3) (fun _ => some ()))))
      (fun ρ => some (.nx ρ)))
    (seqS (ifS (andT (opT neD (op2 ixD (nmW 5) (fun _ => some (.int 0))) (fun _ => some (.str "put"))) (opT eqD (nmW 3) (callD lenD (cons2 (nmW 0) (fun _ => some [])))))
      (raiseS (.type "BadDeeds") (fmtV (op2 addD (nmW 4) (fun _ => some (.int 1))) (fun _ => some ())))
      (fun ρ => some (.nx ρ)))
    (seqS (appS 2 (callS 2 sem_sign_behind (cons2 (nmP 5) (cons2 (nmP 0) (fun _ => some [])))))
    (ifS (opT neD (op2 ixD (nmW 5) (fun _ => some (.int 0))) (fun _ => some (.str "put")))
      (setS 3 (op2 addI (nmP 3) (fun _ => some (.int 1))))
      (fun ρ => some (.nx ρ)))))) ds ρ)
    (seqS (ifS (opT ltD (nmW 3) (callD lenD (cons2 (nmW 0) (fun _ => some []))))
      (raiseS (.type "BadDeeds") (fmtV (nmP 3) (fun _ => some ())))
      (fun ρ => some (.nx ρ)))
    (fun ρ => ((op2 joinD (fun _ => some (.str "")) (nmW 2)) ρ).map fun d => .rt d false ρ)))))
noncomputable def sem_done : List D → Option Ou := semR 2 4 g_done
theorem co_done : Comes [.ro, .ro] 4 g_done sem_done := comes_ro (by decide)
theorem ok_done {f : Addr} {fd : FuncData} (F : Fun K "done" "done" s_done f fd) (B : Blts mg) (XX : Clss K mg cl M) (C_sign_behind : Cal P w K mg base cs "sign_behind" 1 ["deed", "text"] [.ro, .ro] sem_sign_behind) (C_is_deed : Cal P w K mg base cs "is_deed" 2 ["thing", "place"] [.ro, .ro] sem_is_deed) : FnOk P w K mg base (L2.CX P w) 3 f fd ["text", "deeds"] (spDX cl K cs [.ro, .ro] sem_done) := by
  refine fn_dsX F sc_done rfl fun cdv A outer s H E hr => ⟨g_done, ?_, co_done⟩
  exact (sd_cons (sd_setN (i := 2) sc_done.nd rfl (by first | exact .inl rfl | exact .inr rfl) (e_lst ep_nil))
    (sd_cons (sd_set (i := 3) sc_done.nd rfl (by first | exact .inl rfl | exact .inr rfl) e_int)
    (sd_cons (sd_for (passes_of rfl) rfl (i_enum (by rfl) B.b_enumerate (ep_cons (e_nameP (pv 1)) ep_nil)) (g_tup rfl (gs_cons (g_name (i := 4) sc_done.nd rfl (by first | exact .inl rfl | exact .inr rfl)) (gs_cons (g_name (i := 5) sc_done.nd rfl (by first | exact .inl rfl | exact .inr rfl)) gs_nil)))
      (sd_cons (sd_if (et_not (et_val ((c_call C_is_deed (by exact ⟨rfl, rfl, rfl, rfl, rfl⟩) (by decide) (by exact hr) (by decide) (by rfl) (ep_cons (e_nameP (pv 5)) (ep_cons (e_nameP (pv 3)) ep_nil)))).w))
      (sd_one (sd_raiseC XX.e_BadDeeds rfl (takes_of rfl rfl rfl rfl) (by rfl) (em_f (ej_c (by decide) (ej_f (e_op od_add (e_nameW (pv 4)) (e_int).w) (ej_c (by decide) (ej_f (e_nameP (pv 3)) ej_nil)))))))
      sd_nil)
    (sd_cons (sd_if (et_pw (ew_and (et_cmp (od_ne hr.units) ((e_ix (e_nameW (pv 5)) (e_int).w (fun _ _ => rfl))).w ((e_gstr (by rfl) B.c_PUT)).w (nomark _)) (ew_and1 (et_cmp (od_eq hr.units) (e_nameW (pv 3)) ((e_callB cd_len (by rfl) B.b_len PySem.boot_len (ewa_cons (e_nameW (pv 0)) ewa_nil))).w (nomark _)))))
      (sd_one (sd_raiseC XX.e_BadDeeds rfl (takes_of rfl rfl rfl rfl) (by rfl) (em_f (ej_c (by decide) (ej_f (e_op od_add (e_nameW (pv 4)) (e_int).w) (ej_c (by decide) ej_nil))))))
      sd_nil)
    (sd_cons (sd_app (pv 2) (c_call C_sign_behind (by exact ⟨rfl, rfl, rfl, rfl, rfl⟩) (by decide) (by exact hr) (by decide) (by rfl) (ep_cons (e_nameP (pv 5)) (ep_cons (e_nameP (pv 0)) ep_nil))))
    (sd_one (sd_if (et_cmp (od_ne hr.units) ((e_ix (e_nameW (pv 5)) (e_int).w (fun _ _ => rfl))).w ((e_gstr (by rfl) B.c_PUT)).w (nomark _))
      (sd_one (sd_aug (i := 3) sc_done.nd rfl (by first | exact .inl rfl | exact .inr rfl) e_int))
      sd_nil))))))
    (sd_cons (sd_if (et_cmp od_lt (e_nameW (pv 3)) ((e_callB cd_len (by rfl) B.b_len PySem.boot_len (ewa_cons (e_nameW (pv 0)) ewa_nil))).w (nomark _))
      (sd_one (sd_raiseC XX.e_BadDeeds rfl (takes_of rfl rfl rfl rfl) (by rfl) (em_f (ej_c (by decide) (ej_f (e_nameP (pv 3)) (ej_c (by decide) ej_nil))))))
      sd_nil)
    (sd_one (sd_ret (e_join (e_str).w (e_nameW (pv 2)))))))))

/-! _law_at -/
abbrev s__law_at : Stmt := topS 23
theorem sc__law_at : FnScope ["_law_script", "_law_place"] ["_law_script", "_law_place"] (defScope s__law_at) := ⟨rfl, rfl, rfl, by decide +kernel, rfl, by decide +kernel, by decide +kernel⟩
noncomputable def g__law_at : Nv → Option SR := (seqS (ifS (opT geD (nmW 1) (callD lenD (cons2 (nmW 0) (fun _ => some []))))
      (fun ρ => ((fun _ => some (.int 0)) ρ).map fun d => .rt d false ρ)
      (fun ρ => some (.nx ρ)))
    (fun ρ => ((op2 ixD (nmW 0) (nmW 1)) ρ).map fun d => .rt d false ρ))
noncomputable def sem__law_at : List D → Option Ou := semR 2 0 g__law_at
theorem co__law_at : Comes [.ro, .ro] 0 g__law_at sem__law_at := comes_ro (by decide)
theorem ok__law_at {f : Addr} {fd : FuncData} (F : Fun K "_law_at" "_law_at" s__law_at f fd) (B : Blts mg) : FnOk P w K mg base CX0 1 f fd ["_law_script", "_law_place"] (spD K cs [.ro, .ro] sem__law_at) := by
  refine fn_ds F sc__law_at rfl fun cdv A outer s H E hr => ⟨g__law_at, ?_, co__law_at⟩
  exact (sd_cons (sd_if (et_cmp od_ge (e_nameW (pv 1)) ((e_callB cd_len (by rfl) B.b_len PySem.boot_len (ewa_cons (e_nameW (pv 0)) ewa_nil))).w (nomark _))
      (sd_one (sd_ret e_int))
      sd_nil)
    (sd_one (sd_ret (e_ix (e_nameW (pv 0)) (e_nameW (pv 1)) (fun _ _ => rfl)))))

/-! _law_sign -/
abbrev s__law_sign : Stmt := topS 24
theorem sc__law_sign : FnScope ["_law_cell", "_law_great", "_law_signs"] ["_law_cell"] (defScope s__law_sign) := ⟨rfl, rfl, rfl, by decide +kernel, rfl, by decide +kernel, by decide +kernel⟩
noncomputable def g__law_sign : Nv → Option SR := (seqS (setS 1 (fun _ => some (.str "ABCDEFGHIJKLMNOPQRSTUVWXYZ")))
    (seqS (setS 2 (op2 addD (op2 addD (op2 addD (op2 addD (fun _ => some (.str " !\"#$&'()*+,-./0123456789:;<=>?@")) (nmW 1)) (fun _ => some (.str "[\\]^_`"))) (fun ρ => ((nmW 1) ρ).bind lowerD)) (fun _ => some (.str "{|}~"))))
    (fun ρ => ((op2 ixD (nmW 2) (op2 modD (nmW 0) (fun _ => some (.int 94)))) ρ).map fun d => .rt d false ρ)))
noncomputable def sem__law_sign : List D → Option Ou := semR 1 2 g__law_sign
theorem co__law_sign : Comes [.ro] 2 g__law_sign sem__law_sign := comes_ro (by decide)
theorem ok__law_sign {f : Addr} {fd : FuncData} (F : Fun K "_law_sign" "_law_sign" s__law_sign f fd) (B : Blts mg) : FnOk P w K mg base CX0 1 f fd ["_law_cell"] (spD K cs [.ro] sem__law_sign) := by
  refine fn_ds F sc__law_sign rfl fun cdv A outer s H E hr => ⟨g__law_sign, ?_, co__law_sign⟩
  exact (sd_cons (sd_set (i := 1) sc__law_sign.nd rfl (by first | exact .inl rfl | exact .inr rfl) e_str)
    (sd_cons (sd_set (i := 2) sc__law_sign.nd rfl (by first | exact .inl rfl | exact .inr rfl) (e_op od_add ((e_op od_add ((e_op od_add ((e_op od_add (e_str).w (e_nameW (pv 1)))).w (e_str).w)).w ((e_lower (e_nameW (pv 1)))).w)).w (e_str).w))
    (sd_one (sd_ret (e_ix (e_nameW (pv 2)) ((e_op od_mod (e_nameW (pv 0)) (e_int).w)).w (fun _ _ => rfl))))))

/-! _law_deeds -/
abbrev s__law_deeds : Stmt := topS 25
theorem sc__law_deeds : FnScope ["_law_script", "_law_text", "_law_deeds_here", "_law_place", "_law_cell", "_law_k", "_law_way"] ["_law_script", "_law_text"] (defScope s__law_deeds) := ⟨rfl, rfl, rfl, by decide +kernel, rfl, by decide +kernel, by decide +kernel⟩
noncomputable def g__law_deeds : Nv → Option SR := (seqS (setN 2 (mkL (fun _ => some [])))
    (seqS (fun ρ => ((fun ρ => ((cons2 (op2 addD (callD lenD (cons2 (nmW 1) (fun _ => some []))) (fun _ => some (.int 1))) (fun _ => some [])) ρ).bind rng1) ρ).bind fun ds => forS (toNm 3) (seqS (setS 4 (callS 2 sem__law_at (cons2 (nmP 0) (cons2 (op2 addD (fun _ => some (.int 13)) (nmW 3)) (fun _ => some [])))))
    (seqS (fun ρ => ((fun ρ => ((cons2 (op2 addD (op2 fdivD (op2 modD (nmW 4) (fun _ => some (.int 5))) (fun _ => some (.int 3))) (op2 fdivD (op2 modD (op2 fdivD (nmW 4) (fun _ => some (.int 5))) (fun _ => some (.int 9))) (fun _ => some (.int 8)))) (fun _ => some [])) ρ).bind rng1) ρ).bind fun ds => forS (toNm 5) (appS 2 (mkT (cons2 (fun _ => some (.str "put")) (cons2 (nmP 3) (cons2 (callS 1 sem__law_sign (cons2 (op2 addD (op2 fdivD (nmW 4) (fun _ => some (.int 45))) (op2 mulD (fun _ => some (.int 3)) (nmW 5))) (fun _ => some []))) (fun _ => some [])))))) ds ρ)
    (ifS (opT ltD (nmW 3) (callD lenD (cons2 (nmW 1) (fun _ => some []))))
      (seqS (setS 6 (op2 modD (op2 fdivD (nmW 4) (fun _ => some (.int 5))) (fun _ => some (.int 3))))
    (ifS (opT eqD (nmW 6) (fun _ => some (.int 0)))
      (appS 2 (mkT (cons2 (fun _ => some (.str "keep")) (cons2 (nmP 3) (fun _ => some [])))))
      (ifS (opT eqD (nmW 6) (fun _ => some (.int 1)))
      (appS 2 (mkT (cons2 (fun _ => some (.str "change")) (cons2 (nmP 3) (cons2 (callS 1 sem__law_sign (cons2 (op2 fdivD (nmW 4) (fun _ => some (.int 45))) (fun _ => some []))) (fun _ => some []))))))
      (appS 2 (mkT (cons2 (fun _ => some (.str "cut")) (cons2 (nmP 3) (fun _ => some []))))))))
      (fun ρ => some (.nx ρ))))) ds ρ)
    (retNm 2)))
noncomputable def sem__law_deeds : List D → Option Ou := semR 2 5 g__law_deeds
theorem co__law_deeds : Comes [.ro, .ro] 5 g__law_deeds sem__law_deeds := comes_ro (by decide)
theorem ok__law_deeds {f : Addr} {fd : FuncData} (F : Fun K "_law_deeds" "_law_deeds" s__law_deeds f fd) (B : Blts mg) (C__law_sign : Cal P w K mg base cs "_law_sign" 1 ["_law_cell"] [.ro] sem__law_sign) (C__law_at : Cal P w K mg base cs "_law_at" 1 ["_law_script", "_law_place"] [.ro, .ro] sem__law_at) : FnOk P w K mg base CX0 2 f fd ["_law_script", "_law_text"] (spD K cs [.ro, .ro] sem__law_deeds) := by
  refine fn_ds F sc__law_deeds rfl fun cdv A outer s H E hr => ⟨g__law_deeds, ?_, co__law_deeds⟩
  exact (sd_cons (sd_setN (i := 2) sc__law_deeds.nd rfl (by first | exact .inl rfl | exact .inr rfl) (e_lst ep_nil))
    (sd_cons (sd_for PassesOwn.never rfl (i_rng1 (by rfl) B.b_range (ep_cons (e_op od_add ((e_callB cd_len (by rfl) B.b_len PySem.boot_len (ewa_cons (e_nameW (pv 1)) ewa_nil))).w (e_int).w) ep_nil)) (g_name (i := 3) sc__law_deeds.nd rfl (by first | exact .inl rfl | exact .inr rfl))
      (sd_cons (sd_set (i := 4) sc__law_deeds.nd rfl (by first | exact .inl rfl | exact .inr rfl) (c_call C__law_at (by exact ⟨rfl, rfl, rfl, rfl, rfl⟩) (by decide) (by exact hr) (by decide) (by rfl) (ep_cons (e_nameP (pv 0)) (ep_cons (e_op od_add (e_int).w (e_nameW (pv 3))) ep_nil))))
    (sd_cons (sd_for PassesOwn.never rfl (i_rng1 (by rfl) B.b_range (ep_cons (e_op od_add ((e_op od_fdiv ((e_op od_mod (e_nameW (pv 4)) (e_int).w)).w (e_int).w)).w ((e_op od_fdiv ((e_op od_mod ((e_op od_fdiv (e_nameW (pv 4)) (e_int).w)).w (e_int).w)).w (e_int).w)).w) ep_nil)) (g_name (i := 5) sc__law_deeds.nd rfl (by first | exact .inl rfl | exact .inr rfl))
      (sd_one (sd_app (pv 2) (e_tup (ep_cons e_str (ep_cons (e_nameP (pv 3)) (ep_cons (c_call C__law_sign (by exact ⟨rfl, rfl, rfl, rfl, rfl⟩) (by decide) (by exact hr) (by decide) (by rfl) (ep_cons (e_op od_add ((e_op od_fdiv (e_nameW (pv 4)) (e_int).w)).w ((e_op od_mul (e_int).w (e_nameW (pv 5)))).w) ep_nil)) ep_nil)))))))
    (sd_one (sd_if (et_cmp od_lt (e_nameW (pv 3)) ((e_callB cd_len (by rfl) B.b_len PySem.boot_len (ewa_cons (e_nameW (pv 1)) ewa_nil))).w (nomark _))
      (sd_cons (sd_set (i := 6) sc__law_deeds.nd rfl (by first | exact .inl rfl | exact .inr rfl) (e_op od_mod ((e_op od_fdiv (e_nameW (pv 4)) (e_int).w)).w (e_int).w))
    (sd_one (sd_if (et_cmp (od_eq hr.units) (e_nameW (pv 6)) (e_int).w (nomark _))
      (sd_one (sd_app (pv 2) (e_tup (ep_cons e_str (ep_cons (e_nameP (pv 3)) ep_nil)))))
      (sd_one (sd_if (et_cmp (od_eq hr.units) (e_nameW (pv 6)) (e_int).w (nomark _))
      (sd_one (sd_app (pv 2) (e_tup (ep_cons e_str (ep_cons (e_nameP (pv 3)) (ep_cons (c_call C__law_sign (by exact ⟨rfl, rfl, rfl, rfl, rfl⟩) (by decide) (by exact hr) (by decide) (by rfl) (ep_cons (e_op od_fdiv (e_nameW (pv 4)) (e_int).w) ep_nil)) ep_nil))))))
      (sd_one (sd_app (pv 2) (e_tup (ep_cons e_str (ep_cons (e_nameP (pv 3)) ep_nil))))))))))
      sd_nil)))))
    (sd_one (sd_retNm (pv 2)))))

/-! _law_odd -/
abbrev s__law_odd : Stmt := topS 26
theorem sc__law_odd : FnScope ["_law_cell", "_law_size", "_law_place", "_law_some"] ["_law_cell", "_law_size", "_law_place"] (defScope s__law_odd) := ⟨rfl, rfl, rfl, by decide +kernel, rfl, by decide +kernel, by decide +kernel⟩
noncomputable def g__law_odd : Nv → Option SR := (seqS (ifS (opT eqD (op2 modD (op2 fdivD (nmW 0) (fun _ => some (.int 23))) (fun _ => some (.int 3))) (fun _ => some (.int 2)))
      (setS 2 (op2 modD (nmW 0) (op2 addD (nmW 1) (fun _ => some (.int 2)))))
      (fun ρ => some (.nx ρ)))
    (seqS (setN 3 (mkL (cons2 (mkT (cons2 (fun _ => some (.str "keep")) (cons2 (negV (fun _ => some (.int 1))) (fun _ => some [])))) (cons2 (mkT (cons2 (fun _ => some (.str "put")) (cons2 (op2 addD (nmW 1) (fun _ => some (.int 1))) (cons2 (fun _ => some (.str "a")) (fun _ => some []))))) (cons2 (mkT (cons2 (fun _ => some (.str "keep")) (cons2 (nmP 1) (fun _ => some [])))) (cons2 (mkT (cons2 (fun _ => some (.str "cut")) (cons2 (nmP 1) (fun _ => some [])))) (cons2 (mkT (cons2 (fun _ => some (.str "change")) (cons2 (nmP 1) (cons2 (fun _ => some (.str "a")) (fun _ => some []))))) (cons2 (mkT (cons2 (fun _ => some (.str "Keep")) (cons2 (nmP 2) (fun _ => some [])))) (fun _ => some [])))))))))
    (seqS (setN 3 (op2 catD (nmW 3) (mkL (cons2 (mkT (cons2 (fun _ => some (.str "cut")) (cons2 (nmP 2) (cons2 (fun _ => some (.str "a")) (fun _ => some []))))) (cons2 (mkT (cons2 (fun _ => some (.str "put")) (cons2 (nmP 2) (fun _ => some [])))) (cons2 (mkT (cons2 (fun _ => some (.str "put")) (cons2 (nmP 2) (cons2 (fun _ => some (.str "")) (fun _ => some []))))) (cons2 (mkT (cons2 (fun _ => some (.str "put")) (cons2 (nmP 2) (cons2 (fun _ => some (.str "ab")) (fun _ => some []))))) (cons2 (mkT (cons2 (fun _ => some (.str "put")) (cons2 (nmP 2) (cons2 (fun _ => some .none) (fun _ => some []))))) (fun _ => some [])))))))))
    (seqS (setN 3 (op2 catD (nmW 3) (mkL (cons2 (mkT (cons2 (fun _ => some (.str "put")) (cons2 (fun _ => some (.bool true)) (cons2 (fun _ => some (.str "a")) (fun _ => some []))))) (cons2 (mkL (cons2 (fun _ => some (.str "keep")) (cons2 (nmP 2) (fun _ => some [])))) (cons2 (mkT (fun _ => some [])) (cons2 (mkT (cons2 (fun _ => some (.str "keep")) (fun _ => some []))) (cons2 (fun _ => some .none) (cons2 (mkT (cons2 (fun _ => some (.str "change")) (cons2 (nmP 2) (cons2 (fun _ => some (.str "\n")) (fun _ => some []))))) (cons2 (mkT (cons2 (fun _ => some (.str "keep")) (cons2 (fun _ => some (.str "0")) (fun _ => some [])))) (fun _ => some [])))))))))))
    (seqS (setN 3 (op2 catD (nmW 3) (mkL (cons2 (mkT (cons2 (mkL (cons2 (fun _ => some (.str "keep")) (fun _ => some []))) (cons2 (nmP 2) (fun _ => some [])))) (cons2 (mkT (cons2 (fun _ => some (.str "keep")) (cons2 (mkL (cons2 (nmP 2) (fun _ => some []))) (fun _ => some [])))) (cons2 (mkT (cons2 (fun _ => some (.str "put")) (cons2 (nmP 2) (cons2 (mkL (cons2 (fun _ => some (.str "a")) (fun _ => some []))) (fun _ => some []))))) (cons2 (mkT (cons2 (fun _ => some (.dict [])) (cons2 (nmP 2) (fun _ => some [])))) (cons2 (mkT (cons2 (fun _ => some (.str "put")) (cons2 (nmP 2) (cons2 (fun _ => some (.dict [])) (fun _ => some []))))) (fun _ => some [])))))))))
    (fun ρ => ((op2 ixD (nmW 3) (op2 modD (nmW 0) (fun _ => some (.int 23)))) ρ).map fun d => .rt d false ρ))))))
noncomputable def sem__law_odd : List D → Option Ou := semR 3 1 g__law_odd
theorem co__law_odd : Comes [.ro, .ro, .ro] 1 g__law_odd sem__law_odd := comes_ro (by decide)
theorem ok__law_odd {f : Addr} {fd : FuncData} (F : Fun K "_law_odd" "_law_odd" s__law_odd f fd) (B : Blts mg) : FnOk P w K mg base CX0 1 f fd ["_law_cell", "_law_size", "_law_place"] (spD K cs [.ro, .ro, .ro] sem__law_odd) := by
  refine fn_ds F sc__law_odd rfl fun cdv A outer s H E hr => ⟨g__law_odd, ?_, co__law_odd⟩
  exact (sd_cons (sd_if (et_cmp (od_eq hr.units) ((e_op od_mod ((e_op od_fdiv (e_nameW (pv 0)) (e_int).w)).w (e_int).w)).w (e_int).w (nomark _))
      (sd_one (sd_set (i := 2) sc__law_odd.nd rfl (by first | exact .inl rfl | exact .inr rfl) (e_op od_mod (e_nameW (pv 0)) ((e_op od_add (e_nameW (pv 1)) (e_int).w)).w)))
      sd_nil)
    (sd_cons (sd_setN (i := 3) sc__law_odd.nd rfl (by first | exact .inl rfl | exact .inr rfl) (e_lst (ep_cons (e_tup (ep_cons e_str (ep_cons (e_neg e_int) ep_nil))) (ep_cons (e_tup (ep_cons e_str (ep_cons (e_op od_add (e_nameW (pv 1)) (e_int).w) (ep_cons e_str ep_nil)))) (ep_cons (e_tup (ep_cons e_str (ep_cons (e_nameP (pv 1)) ep_nil))) (ep_cons (e_tup (ep_cons e_str (ep_cons (e_nameP (pv 1)) ep_nil))) (ep_cons (e_tup (ep_cons e_str (ep_cons (e_nameP (pv 1)) (ep_cons e_str ep_nil)))) (ep_cons (e_tup (ep_cons e_str (ep_cons (e_nameP (pv 2)) ep_nil))) ep_nil))))))))
    (sd_cons (sd_setN (i := 3) sc__law_odd.nd rfl (by first | exact .inl rfl | exact .inr rfl) (e_catN (e_nameW (pv 3)) ((e_lst (ep_cons (e_tup (ep_cons e_str (ep_cons (e_nameP (pv 2)) (ep_cons e_str ep_nil)))) (ep_cons (e_tup (ep_cons e_str (ep_cons (e_nameP (pv 2)) ep_nil))) (ep_cons (e_tup (ep_cons e_str (ep_cons (e_nameP (pv 2)) (ep_cons e_str ep_nil)))) (ep_cons (e_tup (ep_cons e_str (ep_cons (e_nameP (pv 2)) (ep_cons e_str ep_nil)))) (ep_cons (e_tup (ep_cons e_str (ep_cons (e_nameP (pv 2)) (ep_cons e_none ep_nil)))) ep_nil))))))).w))
    (sd_cons (sd_setN (i := 3) sc__law_odd.nd rfl (by first | exact .inl rfl | exact .inr rfl) (e_catN (e_nameW (pv 3)) ((e_lst (ep_cons (e_tup (ep_cons e_str (ep_cons e_bool (ep_cons e_str ep_nil)))) (ep_cons ((e_lst (ep_cons e_str (ep_cons (e_nameP (pv 2)) ep_nil)))).p (ep_cons (e_tup ep_nil) (ep_cons (e_tup (ep_cons e_str ep_nil)) (ep_cons e_none (ep_cons (e_tup (ep_cons e_str (ep_cons (e_nameP (pv 2)) (ep_cons e_str ep_nil)))) (ep_cons (e_tup (ep_cons e_str (ep_cons e_str ep_nil))) ep_nil))))))))).w))
    (sd_cons (sd_setN (i := 3) sc__law_odd.nd rfl (by first | exact .inl rfl | exact .inr rfl) (e_catN (e_nameW (pv 3)) ((e_lst (ep_cons (e_tup (ep_cons ((e_lst (ep_cons e_str ep_nil))).p (ep_cons (e_nameP (pv 2)) ep_nil))) (ep_cons (e_tup (ep_cons e_str (ep_cons ((e_lst (ep_cons (e_nameP (pv 2)) ep_nil))).p ep_nil))) (ep_cons (e_tup (ep_cons e_str (ep_cons (e_nameP (pv 2)) (ep_cons ((e_lst (ep_cons e_str ep_nil))).p ep_nil)))) (ep_cons (e_tup (ep_cons (e_dnew).p (ep_cons (e_nameP (pv 2)) ep_nil))) (ep_cons (e_tup (ep_cons e_str (ep_cons (e_nameP (pv 2)) (ep_cons (e_dnew).p ep_nil)))) ep_nil))))))).w))
    (sd_one (sd_ret (e_ix (e_nameW (pv 3)) ((e_op od_mod (e_nameW (pv 0)) (e_int).w)).w (fun _ _ => rfl)))))))))

/-! _law_changed -/
abbrev s__law_changed : Stmt := topS 27
theorem sc__law_changed : FnScope ["_law_deeds_here", "_law_cell", "_law_size", "_law_odd_here", "_law_at_here", "_law_more", "_law_place"] ["_law_deeds_here", "_law_cell", "_law_size", "_law_odd_here"] (defScope s__law_changed) := ⟨rfl, rfl, rfl, by decide +kernel, rfl, by decide +kernel, by decide +kernel⟩
noncomputable def g__law_changed : Nv → Option SR := (seqS (setN 0 (callD listD (cons2 (nmW 0) (fun _ => some []))))
    (seqS (setS 4 (op2 modD (op2 fdivD (nmW 1) (fun _ => some (.int 6))) (op2 addD (callD lenD (cons2 (nmW 0) (fun _ => some []))) (fun _ => some (.int 1)))))
    (seqS (setS 5 (op2 fdivD (op2 fdivD (nmW 1) (fun _ => some (.int 6))) (op2 addD (callD lenD (cons2 (nmW 0) (fun _ => some []))) (fun _ => some (.int 1)))))
    (seqS (ifS (andT (opT eqD (op2 modD (nmW 1) (fun _ => some (.int 6))) (fun _ => some (.int 1))) (opT ltD (nmW 4) (callD lenD (cons2 (nmW 0) (fun _ => some [])))))
      (popAtS 0 (nmP 4))
      (fun ρ => some (.nx ρ)))
    (seqS (ifS (andT (opT eqD (op2 modD (nmW 1) (fun _ => some (.int 6))) (fun _ => some (.int 2))) (opT ltD (nmW 4) (callD lenD (cons2 (nmW 0) (fun _ => some [])))))
      (insS 0 (nmP 4) (op2 ixD (nmW 0) (nmW 4)))
      (fun ρ => some (.nx ρ)))
    (seqS (ifS (opT eqD (op2 modD (nmW 1) (fun _ => some (.int 6))) (fun _ => some (.int 3)))
      (seqS (setS 6 (op2 ixD (op2 ixD (op2 catD (nmW 0) (mkL (cons2 (mkT (cons2 (fun _ => some (.str "end")) (cons2 (nmP 2) (fun _ => some [])))) (fun _ => some [])))) (nmW 4)) (fun _ => some (.int 1))))
    (insS 0 (nmP 4) (callS 3 sem__law_odd (cons2 (nmP 3) (cons2 (nmP 2) (cons2 (nmP 6) (fun _ => some [])))))))
      (fun ρ => some (.nx ρ)))
    (seqS (ifS (andT (opT eqD (op2 modD (nmW 1) (fun _ => some (.int 6))) (fun _ => some (.int 4))) (opT ltD (nmW 4) (callD lenD (cons2 (nmW 0) (fun _ => some [])))))
      (putLS 0 (nmW 4) (op2 addTD (mkT (cons2 (op2 ixD (op2 ixD (nmW 0) (nmW 4)) (fun _ => some (.int 0))) (cons2 (op2 modD (nmW 5) (op2 addD (nmW 2) (fun _ => some (.int 1)))) (fun _ => some [])))) (slS (op2 ixD (nmW 0) (nmW 4)) (fun ρ => ((fun _ => some (.int 2)) ρ).bind fun x => (asI x).map some) (fun _ => some none))))
      (fun ρ => some (.nx ρ)))
    (retNm 0))))))))
noncomputable def sem__law_changed : List D → Option Ou := semR 4 3 g__law_changed
theorem co__law_changed : Comes [.ro, .ro, .ro, .ro] 3 g__law_changed sem__law_changed := comes_ro (by decide)
theorem ok__law_changed {f : Addr} {fd : FuncData} (F : Fun K "_law_changed" "_law_changed" s__law_changed f fd) (B : Blts mg) (C__law_odd : Cal P w K mg base cs "_law_odd" 1 ["_law_cell", "_law_size", "_law_place"] [.ro, .ro, .ro] sem__law_odd) : FnOk P w K mg base CX0 2 f fd ["_law_deeds_here", "_law_cell", "_law_size", "_law_odd_here"] (spD K cs [.ro, .ro, .ro, .ro] sem__law_changed) := by
  refine fn_ds F sc__law_changed rfl fun cdv A outer s H E hr => ⟨g__law_changed, ?_, co__law_changed⟩
  exact (sd_cons (sd_setN (i := 0) sc__law_changed.nd rfl (by first | exact .inl rfl | exact .inr rfl) (e_callTN cn_list (by rfl) B.b_list PyProof.Rows.boot_list (ewa_cons (e_nameW (pv 0)) ewa_nil)))
    (sd_cons (sd_set (i := 4) sc__law_changed.nd rfl (by first | exact .inl rfl | exact .inr rfl) (e_op od_mod ((e_op od_fdiv (e_nameW (pv 1)) (e_int).w)).w ((e_op od_add ((e_callB cd_len (by rfl) B.b_len PySem.boot_len (ewa_cons (e_nameW (pv 0)) ewa_nil))).w (e_int).w)).w))
    (sd_cons (sd_set (i := 5) sc__law_changed.nd rfl (by first | exact .inl rfl | exact .inr rfl) (e_op od_fdiv ((e_op od_fdiv (e_nameW (pv 1)) (e_int).w)).w ((e_op od_add ((e_callB cd_len (by rfl) B.b_len PySem.boot_len (ewa_cons (e_nameW (pv 0)) ewa_nil))).w (e_int).w)).w))
    (sd_cons (sd_if (et_pw (ew_and (et_cmp (od_eq hr.units) ((e_op od_mod (e_nameW (pv 1)) (e_int).w)).w (e_int).w (nomark _)) (ew_and1 (et_cmp od_lt (e_nameW (pv 4)) ((e_callB cd_len (by rfl) B.b_len PySem.boot_len (ewa_cons (e_nameW (pv 0)) ewa_nil))).w (nomark _)))))
      (sd_one (sd_popAt (pv 0) (e_nameP (pv 4))))
      sd_nil)
    (sd_cons (sd_if (et_pw (ew_and (et_cmp (od_eq hr.units) ((e_op od_mod (e_nameW (pv 1)) (e_int).w)).w (e_int).w (nomark _)) (ew_and1 (et_cmp od_lt (e_nameW (pv 4)) ((e_callB cd_len (by rfl) B.b_len PySem.boot_len (ewa_cons (e_nameW (pv 0)) ewa_nil))).w (nomark _)))))
      (sd_one (sd_ins (pv 0) (e_nameP (pv 4)) (e_ix (e_nameW (pv 0)) (e_nameW (pv 4)) (fun _ _ => rfl))))
      sd_nil)
    (sd_cons (sd_if (et_cmp (od_eq hr.units) ((e_op od_mod (e_nameW (pv 1)) (e_int).w)).w (e_int).w (nomark _))
      (sd_cons (sd_set (i := 6) sc__law_changed.nd rfl (by first | exact .inl rfl | exact .inr rfl) (e_ix ((e_ix ((e_catN (e_nameW (pv 0)) ((e_lst (ep_cons (e_tup (ep_cons e_str (ep_cons (e_nameP (pv 2)) ep_nil))) ep_nil))).w)).w (e_nameW (pv 4)) (fun _ _ => rfl))).w (e_int).w (fun _ _ => rfl)))
    (sd_one (sd_ins (pv 0) (e_nameP (pv 4)) (c_call C__law_odd (by exact ⟨rfl, rfl, rfl, rfl, rfl⟩) (by decide) (by exact hr) (by decide) (by rfl) (ep_cons (e_nameP (pv 3)) (ep_cons (e_nameP (pv 2)) (ep_cons (e_nameP (pv 6)) ep_nil)))))))
      sd_nil)
    (sd_cons (sd_if (et_pw (ew_and (et_cmp (od_eq hr.units) ((e_op od_mod (e_nameW (pv 1)) (e_int).w)).w (e_int).w (nomark _)) (ew_and1 (et_cmp od_lt (e_nameW (pv 4)) ((e_callB cd_len (by rfl) B.b_len PySem.boot_len (ewa_cons (e_nameW (pv 0)) ewa_nil))).w (nomark _)))))
      (sd_one (sd_putL (pv 0) (e_nameW (pv 4)) (e_op od_addT ((e_tup (ep_cons (e_ix ((e_ix (e_nameW (pv 0)) (e_nameW (pv 4)) (fun _ _ => rfl))).w (e_int).w (fun _ _ => rfl)) (ep_cons (e_op od_mod (e_nameW (pv 5)) ((e_op od_add (e_nameW (pv 2)) (e_int).w)).w) ep_nil)))).w ((e_slS ((e_ix (e_nameW (pv 0)) (e_nameW (pv 4)) (fun _ _ => rfl))).w (eo_some e_int) eo_none)).w)))
      sd_nil)
    (sd_one (sd_retNm (pv 0))))))))))

/-! _law_step -/
abbrev s__law_step : Stmt := topS 28
theorem sc__law_step : FnScope ["_law_deed", "_law_place", "_law_text"] ["_law_deed", "_law_place", "_law_text"] (defScope s__law_step) := ⟨rfl, rfl, rfl, by decide +kernel, rfl, by decide +kernel, by decide +kernel⟩
noncomputable def g__law_step : Nv → Option SR := (seqS (ifS (orT (notT (fun ρ => ((fun ρ => ((nmW 0) ρ).map fun d => .bool (isiB "tuple" d)) ρ).bind truD)) (orT (opT ltD (callD lenD (cons2 (nmW 0) (fun _ => some []))) (fun _ => some (.int 2))) (opT gtD (callD lenD (cons2 (nmW 0) (fun _ => some []))) (fun _ => some (.int 3)))))
      (fun ρ => ((fun _ => some .none) ρ).map fun d => .rt d false ρ)
      (fun ρ => some (.nx ρ)))
    (seqS (ifS (orT (notT (fun ρ => ((fun ρ => ((op2 ixD (nmW 0) (fun _ => some (.int 1))) ρ).map fun d => .bool (isiB "int" d)) ρ).bind truD)) (orT (fun ρ => ((fun ρ => ((op2 ixD (nmW 0) (fun _ => some (.int 1))) ρ).map fun d => .bool (isiB "bool" d)) ρ).bind truD) (opT neRD (op2 ixD (nmW 0) (fun _ => some (.int 1))) (nmW 1))))
      (fun ρ => ((fun _ => some .none) ρ).map fun d => .rt d false ρ)
      (fun ρ => some (.nx ρ)))
    (seqS (ifS (orT (opT eqXD (op2 ixD (nmW 0) (fun _ => some (.int 0))) (fun _ => some (.str "put"))) (opT eqXD (op2 ixD (nmW 0) (fun _ => some (.int 0))) (fun _ => some (.str "change"))))
      (seqS (ifS (orT (opT neRD (callD lenD (cons2 (nmW 0) (fun _ => some []))) (fun _ => some (.int 3))) (orT (notT (fun ρ => ((fun ρ => ((op2 ixD (nmW 0) (fun _ => some (.int 2))) ρ).map fun d => .bool (isiB "str" d)) ρ).bind truD)) (orT (opT neRD (callD lenD (cons2 (op2 ixD (nmW 0) (fun _ => some (.int 2))) (fun _ => some []))) (fun _ => some (.int 1))) (opT eqXD (op2 ixD (nmW 0) (fun _ => some (.int 2))) (fun _ => some (.str "\n"))))))
      (fun ρ => ((fun _ => some .none) ρ).map fun d => .rt d false ρ)
      (fun ρ => some (.nx ρ)))
    (seqS (ifS (opT eqXD (op2 ixD (nmW 0) (fun _ => some (.int 0))) (fun _ => some (.str "put")))
      (fun ρ => ((mkT (cons2 (op2 ixD (nmW 0) (fun _ => some (.int 2))) (cons2 (nmP 1) (fun _ => some [])))) ρ).map fun d => .rt d false ρ)
      (fun ρ => some (.nx ρ)))
    (seqS (ifS (opT ltD (nmW 1) (callD lenD (cons2 (nmW 2) (fun _ => some []))))
      (fun ρ => ((mkT (cons2 (op2 ixD (nmW 0) (fun _ => some (.int 2))) (cons2 (op2 addD (nmW 1) (fun _ => some (.int 1))) (fun _ => some [])))) ρ).map fun d => .rt d false ρ)
      (fun ρ => some (.nx ρ)))
    (fun ρ => ((fun _ => some .none) ρ).map fun d => .rt d false ρ))))
      (fun ρ => some (.nx ρ)))
    (seqS (ifS (orT (opT neRD (callD lenD (cons2 (nmW 0) (fun _ => some []))) (fun _ => some (.int 2))) (orT (opT geD (nmW 1) (callD lenD (cons2 (nmW 2) (fun _ => some [])))) (opT ninRD (op2 ixD (nmW 0) (fun _ => some (.int 0))) (mkT (cons2 (fun _ => some (.str "keep")) (cons2 (fun _ => some (.str "cut")) (fun _ => some [])))))))
      (fun ρ => ((fun _ => some .none) ρ).map fun d => .rt d false ρ)
      (fun ρ => some (.nx ρ)))
    (fun ρ => ((mkT (cons2 (op2 mulSD (op2 ixD (nmW 2) (nmW 1)) (callD intD (cons2 (op2 eqXD (op2 ixD (nmW 0) (fun _ => some (.int 0))) (fun _ => some (.str "keep"))) (fun _ => some [])))) (cons2 (op2 addD (nmW 1) (fun _ => some (.int 1))) (fun _ => some [])))) ρ).map fun d => .rt d false ρ)))))
noncomputable def sem__law_step : List D → Option Ou := semR 3 0 g__law_step
theorem co__law_step : Comes [.ro, .ro, .ro] 0 g__law_step sem__law_step := comes_ro (by decide)
theorem ok__law_step {f : Addr} {fd : FuncData} (F : Fun K "_law_step" "_law_step" s__law_step f fd) (B : Blts mg) : FnOk P w K mg base CX0 1 f fd ["_law_deed", "_law_place", "_law_text"] (spD K cs [.ro, .ro, .ro] sem__law_step) := by
  refine fn_ds F sc__law_step rfl fun cdv A outer s H E hr => ⟨g__law_step, ?_, co__law_step⟩
  exact (sd_cons (sd_if (et_pw (ew_or (et_not (et_val ((e_isi isi_tuple (by rfl) B.b_isinstance (e_nameW (pv 0)) (by rfl) B.b_tuple PyProof.Rows.boot_tuple)).w)) (ew_or (et_cmp od_lt ((e_callB cd_len (by rfl) B.b_len PySem.boot_len (ewa_cons (e_nameW (pv 0)) ewa_nil))).w (e_int).w (nomark _)) (ew_or1 (et_cmp od_gt ((e_callB cd_len (by rfl) B.b_len PySem.boot_len (ewa_cons (e_nameW (pv 0)) ewa_nil))).w (e_int).w (nomark _))))))
      (sd_one (sd_ret e_none))
      sd_nil)
    (sd_cons (sd_if (et_pw (ew_or (et_not (et_val ((e_isi isi_int (by rfl) B.b_isinstance ((e_ix (e_nameW (pv 0)) (e_int).w (fun _ _ => rfl))).w (by rfl) B.b_int PyProof.Rows.boot_int)).w)) (ew_or (et_val ((e_isi isi_bool (by rfl) B.b_isinstance ((e_ix (e_nameW (pv 0)) (e_int).w (fun _ _ => rfl))).w (by rfl) B.b_bool PyProof.Rows.boot_bool)).w) (ew_or1 (et_cmp (od_neR (hu70 hr :)) ((e_ix (e_nameW (pv 0)) (e_int).w (fun _ _ => rfl))).w (e_nameW (pv 1)) (nomark _))))))
      (sd_one (sd_ret e_none))
      sd_nil)
    (sd_cons (sd_if (et_pw (ew_or (et_cmp (od_eqX (hu90 hr :)) ((e_ix (e_nameW (pv 0)) (e_int).w (fun _ _ => rfl))).w (e_str).w (nomark _)) (ew_or1 (et_cmp (od_eqX (hu90 hr :)) ((e_ix (e_nameW (pv 0)) (e_int).w (fun _ _ => rfl))).w (e_str).w (nomark _)))))
      (sd_cons (sd_if (et_pw (ew_or (et_cmp (od_neR (hu70 hr :)) ((e_callB cd_len (by rfl) B.b_len PySem.boot_len (ewa_cons (e_nameW (pv 0)) ewa_nil))).w (e_int).w (nomark _)) (ew_or (et_not (et_val ((e_isi isi_str (by rfl) B.b_isinstance ((e_ix (e_nameW (pv 0)) (e_int).w (fun _ _ => rfl))).w (by rfl) B.b_str PyProof.Rows.boot_str)).w)) (ew_or (et_cmp (od_neR (hu70 hr :)) ((e_callB cd_len (by rfl) B.b_len PySem.boot_len (ewa_cons ((e_ix (e_nameW (pv 0)) (e_int).w (fun _ _ => rfl))).w ewa_nil))).w (e_int).w (nomark _)) (ew_or1 (et_cmp (od_eqX (hu90 hr :)) ((e_ix (e_nameW (pv 0)) (e_int).w (fun _ _ => rfl))).w (e_str).w (nomark _)))))))
      (sd_one (sd_ret e_none))
      sd_nil)
    (sd_cons (sd_if (et_cmp (od_eqX (hu90 hr :)) ((e_ix (e_nameW (pv 0)) (e_int).w (fun _ _ => rfl))).w (e_str).w (nomark _))
      (sd_one (sd_ret (e_tup (ep_cons (e_ix (e_nameW (pv 0)) (e_int).w (fun _ _ => rfl)) (ep_cons (e_nameP (pv 1)) ep_nil)))))
      sd_nil)
    (sd_cons (sd_if (et_cmp od_lt (e_nameW (pv 1)) ((e_callB cd_len (by rfl) B.b_len PySem.boot_len (ewa_cons (e_nameW (pv 2)) ewa_nil))).w (nomark _))
      (sd_one (sd_ret (e_tup (ep_cons (e_ix (e_nameW (pv 0)) (e_int).w (fun _ _ => rfl)) (ep_cons (e_op od_add (e_nameW (pv 1)) (e_int).w) ep_nil)))))
      sd_nil)
    (sd_one (sd_ret e_none)))))
      sd_nil)
    (sd_cons (sd_if (et_pw (ew_or (et_cmp (od_neR (hu70 hr :)) ((e_callB cd_len (by rfl) B.b_len PySem.boot_len (ewa_cons (e_nameW (pv 0)) ewa_nil))).w (e_int).w (nomark _)) (ew_or (et_cmp od_ge (e_nameW (pv 1)) ((e_callB cd_len (by rfl) B.b_len PySem.boot_len (ewa_cons (e_nameW (pv 2)) ewa_nil))).w (nomark _)) (ew_or1 (et_cmp (od_ninR (hu70 hr :)) ((e_ix (e_nameW (pv 0)) (e_int).w (fun _ _ => rfl))).w ((e_tup (ep_cons e_str (ep_cons e_str ep_nil)))).w (by rfl))))))
      (sd_one (sd_ret e_none))
      sd_nil)
    (sd_one (sd_ret (e_tup (ep_cons (e_op od_mulS ((e_ix (e_nameW (pv 2)) (e_nameW (pv 1)) (fun _ _ => rfl))).w ((e_callT cd_int (by rfl) B.b_int PyProof.Rows.boot_int (ewa_cons ((e_cmp (od_eqX (hu90 hr :)) ((e_ix (e_nameW (pv 0)) (e_int).w (fun _ _ => rfl))).w (e_str).w (nomark _))).w ewa_nil))).w) (ep_cons (e_op od_add (e_nameW (pv 1)) (e_int).w) ep_nil)))))))))

/-! _law_due -/
abbrev s__law_due : Stmt := topS 29
theorem sc__law_due : FnScope ["_law_text", "_law_deeds_here", "_law_found", "_law_place", "_law_deed", "_law_step_here"] ["_law_text", "_law_deeds_here"] (defScope s__law_due) := ⟨rfl, rfl, rfl, by decide +kernel, rfl, by decide +kernel, by decide +kernel⟩
noncomputable def g__law_due : Nv → Option SR := (seqS (setS 2 (fun _ => some (.str "")))
    (seqS (setS 3 (fun _ => some (.int 0)))
    (seqS (fun ρ => ((fun ρ => ((nmP 1) ρ).bind asL) ρ).bind fun ds => forS (toNm 4) (seqS (setS 5 (callS 3 sem__law_step (cons2 (nmP 4) (cons2 (nmP 3) (cons2 (nmP 0) (fun _ => some []))))))
    (seqS (ifS (opT isD (nmW 5) (fun _ => some .none))
      (fun ρ => ((fun _ => some .none) ρ).map fun d => .rt d false ρ)
      (fun ρ => some (.nx ρ)))
    (seqS (setS 2 (op2 addD (nmW 2) (op2 ixD (nmW 5) (fun _ => some (.int 0)))))
    (setS 3 (op2 ixD (nmW 5) (fun _ => some (.int 1))))))) ds ρ)
    (seqS (ifS (opT neD (nmW 3) (callD lenD (cons2 (nmW 0) (fun _ => some []))))
      (fun ρ => ((fun _ => some .none) ρ).map fun d => .rt d false ρ)
      (fun ρ => some (.nx ρ)))
    (fun ρ => ((nmP 2) ρ).map fun d => .rt d false ρ)))))
noncomputable def sem__law_due : List D → Option Ou := semR 2 4 g__law_due
theorem co__law_due : Comes [.ro, .ro] 4 g__law_due sem__law_due := comes_ro (by decide)
theorem ok__law_due {f : Addr} {fd : FuncData} (F : Fun K "_law_due" "_law_due" s__law_due f fd) (B : Blts mg) (C__law_step : Cal P w K mg base cs "_law_step" 1 ["_law_deed", "_law_place", "_law_text"] [.ro, .ro, .ro] sem__law_step) : FnOk P w K mg base CX0 2 f fd ["_law_text", "_law_deeds_here"] (spD K cs [.ro, .ro] sem__law_due) := by
  refine fn_ds F sc__law_due rfl fun cdv A outer s H E hr => ⟨g__law_due, ?_, co__law_due⟩
  exact (sd_cons (sd_set (i := 2) sc__law_due.nd rfl (by first | exact .inl rfl | exact .inr rfl) e_str)
    (sd_cons (sd_set (i := 3) sc__law_due.nd rfl (by first | exact .inl rfl | exact .inr rfl) e_int)
    (sd_cons (sd_for PassesOwn.never rfl (i_list (e_nameP (pv 1))) (g_name (i := 4) sc__law_due.nd rfl (by first | exact .inl rfl | exact .inr rfl))
      (sd_cons (sd_set (i := 5) sc__law_due.nd rfl (by first | exact .inl rfl | exact .inr rfl) (c_call C__law_step (by exact ⟨rfl, rfl, rfl, rfl, rfl⟩) (by decide) (by exact hr) (by decide) (by rfl) (ep_cons (e_nameP (pv 4)) (ep_cons (e_nameP (pv 3)) (ep_cons (e_nameP (pv 0)) ep_nil)))))
    (sd_cons (sd_if (et_cmp od_is (e_nameW (pv 5)) (e_none).w (nomark _))
      (sd_one (sd_ret e_none))
      sd_nil)
    (sd_cons (sd_set (i := 2) sc__law_due.nd rfl (by first | exact .inl rfl | exact .inr rfl) (e_op od_add (e_nameW (pv 2)) ((e_ix (e_nameW (pv 5)) (e_int).w (fun _ _ => rfl))).w))
    (sd_one (sd_set (i := 3) sc__law_due.nd rfl (by first | exact .inl rfl | exact .inr rfl) (e_ix (e_nameW (pv 5)) (e_int).w (fun _ _ => rfl))))))))
    (sd_cons (sd_if (et_cmp (od_ne hr.units) (e_nameW (pv 3)) ((e_callB cd_len (by rfl) B.b_len PySem.boot_len (ewa_cons (e_nameW (pv 0)) ewa_nil))).w (nomark _))
      (sd_one (sd_ret e_none))
      sd_nil)
    (sd_one (sd_ret (e_nameP (pv 2))))))))

/-! law -/
abbrev s_law : Stmt := topS 30
theorem sc_law : FnScope ["_law_script", "_law_size", "_law_text", "_law_k", "_law_deeds_here", "_law_due_here", "_law_given", "_law_found", "e"] ["_law_script"] (defScope s_law) := ⟨rfl, rfl, rfl, by decide +kernel, rfl, by decide +kernel, by decide +kernel⟩
noncomputable def g_law : Nv → Option SR := (seqS (setS 1 (op2 modD (callS 2 sem__law_at (cons2 (nmP 0) (cons2 (fun _ => some (.int 0)) (fun _ => some [])))) (fun _ => some (.int 10))))
    (seqS (setS 2 (op2 joinD (fun _ => some (.str "")) (lcV 3 (fun ρ => ((cons2 (nmP 1) (fun _ => some [])) ρ).bind rng1) (fun _ => some true) (callS 1 sem__law_sign (cons2 (callS 2 sem__law_at (cons2 (nmP 0) (cons2 (op2 addD (fun _ => some (.int 3)) (nmW 3)) (fun _ => some [])))) (fun _ => some []))))))
    (seqS (setS 4 (callO 4 sem__law_changed (cons2 (callO 2 sem__law_deeds (cons2 (nmP 0) (cons2 (nmP 2) (fun _ => some [])))) (cons2 (callS 2 sem__law_at (cons2 (nmP 0) (cons2 (fun _ => some (.int 1)) (fun _ => some [])))) (cons2 (nmP 1) (cons2 (op2 modD (op2 mulD (callS 2 sem__law_at (cons2 (nmP 0) (cons2 (fun _ => some (.int 2)) (fun _ => some [])))) (fun _ => some (.int 48271))) (fun _ => some (.int 10007))) (fun _ => some [])))))))
    (seqS (setS 5 (callS 2 sem__law_due (cons2 (nmP 2) (cons2 (nmP 4) (fun _ => some [])))))
    (seqS (setS 6 (callD listD (cons2 (nmW 4) (fun _ => some []))))
    (seqS (tryV (fun d ρ => ρ.set 7 (some (.sh d))) 2 8 [.type "BadDeeds"] sem_done (cons2 (nmP 2) (cons2 (nmP 6) (fun _ => some []))) (fun _ => gsuite))
    (fun ρ => ((andV (op2 isntD (nmW 5) (fun _ => some .none)) (andV (fun ρ => ((nmW 7) ρ).map fun d => .bool (isiB "str" d)) (andV (op2 eqXD (nmW 7) (nmW 5)) (op2 eqXD (nmW 6) (nmW 4))))) ρ).map fun d => .rt d false ρ)))))))
noncomputable def sem_law : List D → Option Ou := semR 1 8 g_law
theorem co_law : Comes [.ro] 8 g_law sem_law := comes_ro (by decide)
theorem ok_law {f : Addr} {fd : FuncData} (F : Fun K "law" "law" s_law f fd) (B : Blts mg) (XX : Clss K mg cl M) (C_done : CalX P w K mg base cs cl "done" 3 ["text", "deeds"] [.ro, .ro] sem_done) (C__law_due : Cal P w K mg base cs "_law_due" 2 ["_law_text", "_law_deeds_here"] [.ro, .ro] sem__law_due) (C__law_changed : Cal P w K mg base cs "_law_changed" 2 ["_law_deeds_here", "_law_cell", "_law_size", "_law_odd_here"] [.ro, .ro, .ro, .ro] sem__law_changed) (C__law_at : Cal P w K mg base cs "_law_at" 1 ["_law_script", "_law_place"] [.ro, .ro] sem__law_at) (C__law_deeds : Cal P w K mg base cs "_law_deeds" 2 ["_law_script", "_law_text"] [.ro, .ro] sem__law_deeds) (C__law_sign : Cal P w K mg base cs "_law_sign" 1 ["_law_cell"] [.ro] sem__law_sign) : FnOk P w K mg base CX0 4 f fd ["_law_script"] (spD K cs [.ro] sem_law) := by
  refine fn_ds F sc_law rfl fun cdv A outer s H E hr => ⟨g_law, ?_, co_law⟩
  exact (sd_cons (sd_set (i := 1) sc_law.nd rfl (by first | exact .inl rfl | exact .inr rfl) (e_op od_mod ((c_call C__law_at (by exact ⟨rfl, rfl, rfl, rfl, rfl⟩) (by decide) (by exact hr) (by decide) (by rfl) (ep_cons (e_nameP (pv 0)) (ep_cons e_int ep_nil)))).w (e_int).w))
    (sd_cons (sd_set (i := 2) sc_law.nd rfl (by first | exact .inl rfl | exact .inr rfl) (e_join (e_str).w ((e_lc rfl sc_law.nd (i := 3) rfl ((i_rng1 (by rfl) B.b_range (ep_cons (e_nameP (pv 1)) ep_nil))).comp (blkOk_by (by show blkC ["_law_script", "_law_size", "_law_text", "_law_k", "_law_deeds_here", "_law_due_here", "_law_given", "_law_found", "e"] (defScope s_law) _ _ = true; decide +kernel)) (fun _ _ _ _ _ => by rfl) (fun _ _ _ _ _ => ets_nil) (fun _ _ _ _ _ => (c_call C__law_sign (by exact ⟨rfl, rfl, rfl, rfl, rfl⟩) (by decide) (by exact hr) (by decide) (by rfl) (ep_cons (c_call C__law_at (by exact ⟨rfl, rfl, rfl, rfl, rfl⟩) (by decide) (by exact hr) (by decide) (by rfl) (ep_cons (e_nameP (pv 0)) (ep_cons (e_op od_add (e_int).w (e_nameW (pv 3))) ep_nil))) ep_nil))))).w))
    (sd_cons (sd_set (i := 4) sc_law.nd rfl (by first | exact .inl rfl | exact .inr rfl) ((c_callO C__law_changed (by exact ⟨rfl, rfl, rfl, rfl, rfl⟩) (by decide) (by exact hr) (by decide) (by rfl) (ep_cons ((c_callO C__law_deeds (by exact ⟨rfl, rfl, rfl, rfl, rfl⟩) (by decide) (by exact hr) (by decide) (by rfl) (ep_cons (e_nameP (pv 0)) (ep_cons (e_nameP (pv 2)) ep_nil)))).p (ep_cons (c_call C__law_at (by exact ⟨rfl, rfl, rfl, rfl, rfl⟩) (by decide) (by exact hr) (by decide) (by rfl) (ep_cons (e_nameP (pv 0)) (ep_cons e_int ep_nil))) (ep_cons (e_nameP (pv 1)) (ep_cons (e_op od_mod ((e_op od_mul ((c_call C__law_at (by exact ⟨rfl, rfl, rfl, rfl, rfl⟩) (by decide) (by exact hr) (by decide) (by rfl) (ep_cons (e_nameP (pv 0)) (ep_cons e_int ep_nil)))).w (e_int).w)).w (e_int).w) ep_nil)))))).p)
    (sd_cons (sd_set (i := 5) sc_law.nd rfl (by first | exact .inl rfl | exact .inr rfl) (c_call C__law_due (by exact ⟨rfl, rfl, rfl, rfl, rfl⟩) (by decide) (by exact hr) (by decide) (by rfl) (ep_cons (e_nameP (pv 2)) (ep_cons (e_nameP (pv 4)) ep_nil))))
    (sd_cons (sd_set (i := 6) sc_law.nd rfl (by first | exact .inl rfl | exact .inr rfl) ((e_callTN cn_list (by rfl) B.b_list PyProof.Rows.boot_list (ewa_cons (e_nameW (pv 4)) ewa_nil))).p)
    (sd_cons (sd_trySet (i := 8) (j := 7) (gs := (fun _ => gsuite)) (Cs := [.type "BadDeeds"]) rfl rfl sc_law.nd rfl rfl ⟨by rfl, by decide, .inl XX.t_MendError⟩ (by decide) rfl (by first | exact .inl rfl | exact .inr rfl) C_done (by exact ⟨rfl, rfl, rfl, rfl, rfl⟩) (by exact hr) (by decide) (by rfl) (fun _ _ => (ep_cons (e_nameP (pv 2)) (ep_cons (e_nameP (pv 6)) ep_nil))) (by intro c hc; simp only [List.mem_cons, List.not_mem_nil, or_false] at hc; rcases hc with rfl <;> first | exact XX.m_BadDeeds)
      (fun c hc a oe pn hz hd => by
      have hcc : c = .type "BadDeeds" := by simpa using hc
      subst hcc
      exact suite_ok (ekt_or (ek_pt (ek_isTE (List.mem_cons_self ..) hz hd XX.r_BadDeeds (by rfl) B.b_isinstance (pv 8) (fun _ h => h) (.cons (by rfl) (by decide) XX.i_BadDeeds_BadRule (by rfl) (.cons (by rfl) (by decide) XX.i_BadDeeds_BadText (by rfl) (.cons (by rfl) (by decide) XX.i_BadDeeds_Endless (by rfl) (.cons (by rfl) (by decide) XX.i_BadDeeds_NoName (by rfl) .nil))))))
        (ekt_or1 (ekt_not (ek_pt (ek_isEB (List.mem_cons_self ..) hz hd XX.r_BadDeeds (by rfl) B.b_isinstance (pv 8) (fun _ h => h) (by rfl) XX.j_BadDeeds_ValueError))))).pt
        (e_cmp od_is (e_nameW (pv 5)) (e_none).w (nomark _)) (ek_isE (List.mem_cons_self ..) hz hd XX.r_BadDeeds (by rfl) B.b_isinstance (pv 8) (fun _ h => h) (by rfl) XX.i_BadDeeds_BadDeeds) (e_cmp (od_eqX (hu90 hr :)) (e_nameW (pv 6)) (e_nameW (pv 4)) (nomark _))))
    (sd_one (sd_ret (e_and (e_cmp od_isnt (e_nameW (pv 5)) (e_none).w (nomark _)) (e_and (e_isi isi_str (by rfl) B.b_isinstance (e_nameW (pv 7)) (by rfl) B.b_str PyProof.Rows.boot_str) (e_and (e_cmp (od_eqX (hu90 hr :)) (e_nameW (pv 7)) (e_nameW (pv 5)) (nomark _)) (e_one (e_cmp (od_eqX (hu90 hr :)) (e_nameW (pv 6)) (e_nameW (pv 4)) (nomark _))))))))))))))
end
end K5

namespace K5
open PySem L2 DS
/-! texts of single signs -/
def txt (cs : List Nat) : Str := ⟨cs.toArray⟩
theorem txt_list (cs : List Nat) : (txt cs).cps.toList = cs := rfl
theorem txt_of {t : Str} {cs : List Nat} (h : t.cps.toList = cs) : t = txt cs := str_ext h
theorem join_txt (cs : List Nat) (h : cs.length ≤ 100000) : joinD (.str ⟨#[]⟩) (.list (cs.map sgD)) = some (.str (txt cs)) := by
  obtain ⟨t, e, h2⟩ := joinD_sg h
  rw [e, txt_of h2]
def SgOk (c : Nat) : Prop := c < 0x110000
theorem sg_ok {c : Nat} (h : SgOk c) : TxOk ⟨#[c]⟩ := ⟨by show (1 : Nat) ≤ 100000; decide, strOk_all.mpr fun x hx => by
  have : x = c := by simpa using hx
  rw [this]; exact h⟩
theorem sg_inj {a b : Nat} : ((⟨#[a]⟩ : Str) = ⟨#[b]⟩) ↔ a = b := by
  constructor
  · intro h
    have := congrArg (fun s => s.cps.toList) h
    simpa using this
  · rintro rfl
    rfl
theorem eq_sg {a b : Nat} (ha : SgOk a) (hb : SgOk b) : eqD (sgD a) (sgD b) = some (.bool (decide (a = b))) := by
  unfold sgD
  rw [eqD_str (sg_ok ha) (sg_ok hb)]
  simp only [sg_inj]
theorem ix_txt {cs : List Nat} {k : Nat} (h : k < cs.length) (hl : cs.length ≤ 100000) : ixD (.str (txt cs)) (.int (k : Nat)) = some (sgD (cs.getD k 0)) := by
  unfold ixD
  dsimp only
  rw [if_pos (show (txt cs).length ≤ 100000 from hl)]
  show Option.map _ (atI cs (k : Nat)) = _
  unfold atI ixN
  rw [if_pos (by omega), if_pos (by omega)]
  show Option.map _ (cs[((k : Nat) : Int).toNat]?) = _
  rw [Int.toNat_natCast, List.getD_eq_getElem?_getD, List.getElem?_eq_getElem h]
  rfl
inductive Dd where
  | put (p s : Nat)
  | keep (p : Nat)
  | change (p s : Nat)
  | cut (p : Nat)
def Dd.d : Dd → D
  | .put p s => .tuple [.str "put", .int (p : Nat), sgD s]
  | .keep p => .tuple [.str "keep", .int (p : Nat)]
  | .change p s => .tuple [.str "change", .int (p : Nat), sgD s]
  | .cut p => .tuple [.str "cut", .int (p : Nat)]
/-! deeds done -/
def sgB (c : Nat) : Bool := decide (32 ≤ c) && decide (c ≤ 126) && !decide (c = 37)
theorem sgB_ok {c : Nat} (h : sgB c = true) : SgOk c := by
  unfold sgB at h
  simp only [Bool.and_eq_true, decide_eq_true_eq] at h
  unfold SgOk
  omega
theorem is_sign_sg (c : Nat) : sem_is_sign [sgD c] = some (.ret (.bool (sgB c)) false []) := by
  refine sem_eq rfl ?_
  unfold g_is_sign sgD
  have h1 : ((⟨#[c]⟩ : Str).length : Int) = 1 := rfl
  have h2 : (⟨#[c]⟩ : Str).length = 1 := rfl
  refine rs_if (b := false) (by simp [op2, opT, nmP, nmW, cons2, Cell.got, callD, lenD, mkT, mkL, addD, addI, subD, modD, fdivD, eqD_int, neD_int, ltD, leD, gtD, geD, asB, truD, notV, andV, orV, notT, orT, andT, shs, negV, negD, isD, isntD, isNone, isiB, toTu, toCons, toNil, toNm, ixD, atI, ixN, asL, asTu, min2D, max2D, intD, orT, shs, h1, h2]) (fun z => by cases z) fun _ => ?_
  refine rs_set (d := .int (c : Nat)) (by simp [op2, opT, nmP, nmW, cons2, Cell.got, callD, lenD, mkT, mkL, addD, addI, subD, modD, fdivD, eqD_int, neD_int, ltD, leD, gtD, geD, asB, truD, notV, andV, orV, notT, orT, andT, shs, negV, negD, isD, isntD, isNone, isiB, toTu, toCons, toNil, toNm, ixD, atI, ixN, asL, asTu, min2D, max2D, intD, ordD, shs, h2]) ?_
  refine run_ret (d := .bool (sgB c)) ?_ (ret_ok (Nat.le_of_ble_eq_true rfl) rfl)
  have e1 : decide ((32 : Int) ≤ c) = decide (32 ≤ c) := by
    by_cases b : 32 ≤ c
    · rw [decide_eq_true b, decide_eq_true (by omega)]
    · rw [decide_eq_false b, decide_eq_false (by omega)]
  have e2 : decide ((c : Int) ≤ 126) = decide (c ≤ 126) := by
    by_cases b : c ≤ 126
    · rw [decide_eq_true b, decide_eq_true (by omega)]
    · rw [decide_eq_false b, decide_eq_false (by omega)]
  have e3 : decide ((c : Int) = 37) = decide (c = 37) := by
    by_cases b : c = 37
    · rw [decide_eq_true b, decide_eq_true (by omega)]
    · rw [decide_eq_false b, decide_eq_false (by omega)]
  have a1 : leD (.int 32) (.int (c : Nat)) = some (.bool (decide (32 ≤ c))) := by rw [← e1]; rfl
  have a2 : leD (.int (c : Nat)) (.int 126) = some (.bool (decide (c ≤ 126))) := by rw [← e2]; rfl
  have a3 : neD (.int (c : Nat)) (.int 37) = some (.bool (!decide (c = 37))) := by rw [neD_int, e3]
  unfold sgB
  refine andV_of (a := decide (32 ≤ c) && decide (c ≤ 126)) ?_ fun _ => op2_is (x := .int (c : Nat)) (y := .int 37) rfl rfl a3
  exact ch3_of rfl rfl rfl a1 a2
/-! what a deed does -/
def Dd.step (cs : List Nat) (p : Nat) : Dd → Option (Nat × List Nat)
  | .put q s => if q = p ∧ sgB s = true then some (p, [s]) else none
  | .keep q => if q = p ∧ p < cs.length then some (p + 1, [cs.getD p 0]) else none
  | .change q s => if q = p ∧ p < cs.length ∧ sgB s = true then some (p + 1, [s]) else none
  | .cut q => if q = p ∧ p < cs.length then some (p + 1, []) else none
def walk (cs : List Nat) : List Dd → Nat → Option (Nat × List Nat)
  | [], p => some (p, [])
  | d :: r, p => (d.step cs p).bind fun x => (walk cs r x.1).map fun y => (y.1, x.2 ++ y.2)
theorem walk_app (cs : List Nat) : ∀ (xs ys : List Dd) (p : Nat), walk cs (xs ++ ys) p = (walk cs xs p).bind fun x => (walk cs ys x.1).map fun y => (y.1, x.2 ++ y.2)
  | [], ys, p => by
    rw [List.nil_append, walk, Option.bind_some]
    cases walk cs ys p <;> rfl
  | d :: r, ys, p => by
    rw [List.cons_append, walk, walk]
    cases d.step cs p with
    | none => rfl
    | some x =>
      simp only [Option.bind_some]
      rw [walk_app cs r ys x.1]
      cases walk cs r x.1 with
      | none => rfl
      | some y =>
        simp only [Option.bind_some, Option.map_some]
        cases walk cs ys y.1 with
        | none => rfl
        | some z => simp
theorem tx_of (s : String) (h : ((Str.ofString s).length ≤ 100000 ∧ PyData.strOk (Str.ofString s) = true) := by decide +kernel) : TxOk (Str.ofString s) := h
theorem tx_put : TxOk "put" := tx_of "put"
theorem tx_keep : TxOk "keep" := tx_of "keep"
theorem tx_change : TxOk "change" := tx_of "change"
theorem tx_cut : TxOk "cut" := tx_of "cut"
def Dd.at : Dd → Nat
  | .put q _ => q
  | .keep q => q
  | .change q _ => q
  | .cut q => q
def Dd.isP : Dd → Bool
  | .put _ _ => true
  | _ => false
def Dd.out (cs : List Nat) : Dd → Str
  | .put _ s => ⟨#[s]⟩
  | .keep q => ⟨#[cs.getD q 0]⟩
  | .change _ s => ⟨#[s]⟩
  | .cut _ => ⟨#[]⟩
theorem step_is {cs : List Nat} {p p' : Nat} {o : List Nat} {x : Dd} (h : x.step cs p = some (p', o)) : x.at = p ∧ (x.isP = false → p < cs.length) ∧ p' = (if x.isP = true then p else p + 1) ∧ (x.out cs).cps.toList = o ∧ (∀ q s, x = .put q s ∨ x = .change q s → sgB s = true) := by
  cases x with
  | put q s =>
    rw [Dd.step] at h
    split at h
    · rename_i hc
      cases h
      exact ⟨hc.1, fun z => (by cases z), rfl, rfl, fun q s z => (by rcases z with z | z <;> cases z; exact hc.2)⟩
    · cases h
  | keep q =>
    rw [Dd.step] at h
    split at h
    · rename_i hc
      cases h
      exact ⟨hc.1, fun _ => hc.2, rfl, by rw [← hc.1]; rfl, fun q s z => by rcases z with z | z <;> cases z⟩
    · cases h
  | change q s =>
    rw [Dd.step] at h
    split at h
    · rename_i hc
      cases h
      exact ⟨hc.1, fun _ => hc.2.1, rfl, rfl, fun q s z => (by rcases z with z | z <;> cases z; exact hc.2.2)⟩
    · cases h
  | cut q =>
    rw [Dd.step] at h
    split at h
    · rename_i hc
      cases h
      exact ⟨hc.1, fun _ => hc.2, rfl, rfl, fun q s z => by rcases z with z | z <;> cases z⟩
    · cases h
theorem is_place_is (n : Nat) : sem_is_place [.int (n : Nat)] = some (.ret (.bool true) false []) := by
  refine sem_eq rfl ?_
  unfold g_is_place
  exact run_ret (d := .bool true) (by simp [op2, opT, nmP, nmW, cons2, Cell.got, callD, lenD, mkT, mkL, addD, addI, subD, modD, fdivD, eqD_int, neD_int, ltD, leD, gtD, geD, asB, truD, notV, andV, orV, notT, orT, andT, shs, negV, negD, isD, isntD, isNone, isiB, toTu, toCons, toNil, toNm, ixD, atI, ixN, asL, asTu, min2D, max2D, intD]) (ret_ok (Nat.le_of_ble_eq_true rfl) rfl)
theorem in2 {x a b : Str} (hx : TxOk x) (ha : TxOk a) (hb : TxOk b) : inTD' (.str x) (.tuple [.str a, .str b]) = some (.bool (decide (a = x) || decide (b = x))) := by
  unfold inTD' inTD
  dsimp only
  rw [if_pos ⟨hx.shaped, shaped_fine (n := 1) (by show List.all _ (fine 0) = true; simp [ha.fine, hb.fine]) (by decide)⟩]
  simp [eqv_str]
theorem in23 (n : Int) : ninTD' (.int n) (.tuple [.int 2, .int 3]) = some (.bool (!(decide (2 = n) || decide (3 = n)))) := by
  unfold ninTD' inTD
  dsimp only
  rw [if_pos ⟨shaped_int, shaped_fine (n := 1) rfl (by decide)⟩]
  simp [eqv_int]
theorem wd_put_cut : eqD (.str "put") (.str "cut") = some (.bool false) := by rw [eqD_str tx_put tx_cut]; rfl
theorem wd_keep_cut : eqD (.str "keep") (.str "cut") = some (.bool false) := by rw [eqD_str tx_keep tx_cut]; rfl
theorem wd_change_cut : eqD (.str "change") (.str "cut") = some (.bool false) := by rw [eqD_str tx_change tx_cut]; rfl
theorem wd_cut_cut : eqD (.str "cut") (.str "cut") = some (.bool true) := by rw [eqD_str tx_cut tx_cut]; rfl
theorem wd_put_keep : eqD (.str "put") (.str "keep") = some (.bool false) := by rw [eqD_str tx_put tx_keep]; rfl
theorem wd_change_keep : eqD (.str "change") (.str "keep") = some (.bool false) := by rw [eqD_str tx_change tx_keep]; rfl
theorem wd_keep_keep : eqD (.str "keep") (.str "keep") = some (.bool true) := by rw [eqD_str tx_keep tx_keep]; rfl
theorem wn_put : neD (.str "put") (.str "put") = some (.bool false) := by rw [neD_str tx_put tx_put]; rfl
theorem wn_keep : neD (.str "keep") (.str "put") = some (.bool true) := by rw [neD_str tx_keep tx_put]; rfl
theorem wn_change : neD (.str "change") (.str "put") = some (.bool true) := by rw [neD_str tx_change tx_put]; rfl
theorem wn_cut : neD (.str "cut") (.str "put") = some (.bool true) := by rw [neD_str tx_cut tx_put]; rfl
theorem behind_is {cs : List Nat} (hl : cs.length ≤ 1000) (x : Dd) (h : x.isP = false → x.at < cs.length) : sem_sign_behind [x.d, .str (txt cs)] = some (.ret (.str (x.out cs)) false []) := by
  refine sem_eq rfl ?_
  unfold g_sign_behind
  cases x with
  | put q s =>
    refine rs_if (b := false) (by simp [op2, opT, nmP, nmW, cons2, Cell.got, callD, lenD, mkT, mkL, addD, addI, subD, modD, fdivD, eqD_int, neD_int, ltD, leD, gtD, geD, asB, truD, notV, andV, orV, notT, orT, andT, shs, negV, negD, isD, isntD, isNone, isiB, toTu, toCons, toNil, toNm, ixD, atI, ixN, asL, asTu, min2D, max2D, intD, Dd.d, wd_put_cut]) (fun z => by cases z) fun _ => ?_
    refine rs_if (b := false) (by simp [op2, opT, nmP, nmW, cons2, Cell.got, callD, lenD, mkT, mkL, addD, addI, subD, modD, fdivD, eqD_int, neD_int, ltD, leD, gtD, geD, asB, truD, notV, andV, orV, notT, orT, andT, shs, negV, negD, isD, isntD, isNone, isiB, toTu, toCons, toNil, toNm, ixD, atI, ixN, asL, asTu, min2D, max2D, intD, Dd.d, wd_put_keep]) (fun z => by cases z) fun _ => ?_
    exact run_ret (d := sgD s) (by simp [op2, opT, nmP, nmW, cons2, Cell.got, callD, lenD, mkT, mkL, addD, addI, subD, modD, fdivD, eqD_int, neD_int, ltD, leD, gtD, geD, asB, truD, notV, andV, orV, notT, orT, andT, shs, negV, negD, isD, isntD, isNone, isiB, toTu, toCons, toNil, toNm, ixD, atI, ixN, asL, asTu, min2D, max2D, intD, Dd.d]) (ret_ok (Nat.le_of_ble_eq_true rfl) rfl)
  | change q s =>
    refine rs_if (b := false) (by simp [op2, opT, nmP, nmW, cons2, Cell.got, callD, lenD, mkT, mkL, addD, addI, subD, modD, fdivD, eqD_int, neD_int, ltD, leD, gtD, geD, asB, truD, notV, andV, orV, notT, orT, andT, shs, negV, negD, isD, isntD, isNone, isiB, toTu, toCons, toNil, toNm, ixD, atI, ixN, asL, asTu, min2D, max2D, intD, Dd.d, wd_change_cut]) (fun z => by cases z) fun _ => ?_
    refine rs_if (b := false) (by simp [op2, opT, nmP, nmW, cons2, Cell.got, callD, lenD, mkT, mkL, addD, addI, subD, modD, fdivD, eqD_int, neD_int, ltD, leD, gtD, geD, asB, truD, notV, andV, orV, notT, orT, andT, shs, negV, negD, isD, isntD, isNone, isiB, toTu, toCons, toNil, toNm, ixD, atI, ixN, asL, asTu, min2D, max2D, intD, Dd.d, wd_change_keep]) (fun z => by cases z) fun _ => ?_
    exact run_ret (d := sgD s) (by simp [op2, opT, nmP, nmW, cons2, Cell.got, callD, lenD, mkT, mkL, addD, addI, subD, modD, fdivD, eqD_int, neD_int, ltD, leD, gtD, geD, asB, truD, notV, andV, orV, notT, orT, andT, shs, negV, negD, isD, isntD, isNone, isiB, toTu, toCons, toNil, toNm, ixD, atI, ixN, asL, asTu, min2D, max2D, intD, Dd.d]) (ret_ok (Nat.le_of_ble_eq_true rfl) rfl)
  | keep q =>
    refine rs_if (b := false) (by simp [op2, opT, nmP, nmW, cons2, Cell.got, callD, lenD, mkT, mkL, addD, addI, subD, modD, fdivD, eqD_int, neD_int, ltD, leD, gtD, geD, asB, truD, notV, andV, orV, notT, orT, andT, shs, negV, negD, isD, isntD, isNone, isiB, toTu, toCons, toNil, toNm, ixD, atI, ixN, asL, asTu, min2D, max2D, intD, Dd.d, wd_keep_cut]) (fun z => by cases z) fun _ => ?_
    refine rs_if (b := true) (by simp [op2, opT, nmP, nmW, cons2, Cell.got, callD, lenD, mkT, mkL, addD, addI, subD, modD, fdivD, eqD_int, neD_int, ltD, leD, gtD, geD, asB, truD, notV, andV, orV, notT, orT, andT, shs, negV, negD, isD, isntD, isNone, isiB, toTu, toCons, toNil, toNm, ixD, atI, ixN, asL, asTu, min2D, max2D, intD, Dd.d, wd_keep_keep]) (fun _ => ?_) fun z => by cases z
    exact run_ret (d := sgD (cs.getD q 0)) (op2_is (x := .str (txt cs)) (y := .int (q : Nat)) rfl (by simp [op2, opT, nmP, nmW, cons2, Cell.got, callD, lenD, mkT, mkL, addD, addI, subD, modD, fdivD, eqD_int, neD_int, ltD, leD, gtD, geD, asB, truD, notV, andV, orV, notT, orT, andT, shs, negV, negD, isD, isntD, isNone, isiB, toTu, toCons, toNil, toNm, ixD, atI, ixN, asL, asTu, min2D, max2D, intD, Dd.d]) (ix_txt (h rfl) (by omega))) (ret_ok (Nat.le_of_ble_eq_true rfl) rfl)
  | cut q =>
    refine rs_if (b := true) (by simp [op2, opT, nmP, nmW, cons2, Cell.got, callD, lenD, mkT, mkL, addD, addI, subD, modD, fdivD, eqD_int, neD_int, ltD, leD, gtD, geD, asB, truD, notV, andV, orV, notT, orT, andT, shs, negV, negD, isD, isntD, isNone, isiB, toTu, toCons, toNil, toNm, ixD, atI, ixN, asL, asTu, min2D, max2D, intD, Dd.d, wd_cut_cut]) (fun _ => ?_) fun z => by cases z
    exact run_ret (d := .str "") rfl (ret_ok (Nat.le_of_ble_eq_true rfl) rfl)
theorem word_ne (x : Dd) : opT neD (op2 ixD (nmW 5) (fun _ => some (.int 0))) (fun _ => some (.str "put")) [a0, a1, a2, a3, a4, some (.sh x.d)] = some (!x.isP) := by
  cases x with
  | put q s => simp [op2, opT, nmP, nmW, cons2, Cell.got, callD, lenD, mkT, mkL, addD, addI, subD, modD, fdivD, eqD_int, neD_int, ltD, leD, gtD, geD, asB, truD, notV, andV, orV, notT, orT, andT, shs, negV, negD, isD, isntD, isNone, isiB, toTu, toCons, toNil, toNm, ixD, atI, ixN, asL, asTu, min2D, max2D, intD, Dd.d, wn_put, Dd.isP]
  | change q s => simp [op2, opT, nmP, nmW, cons2, Cell.got, callD, lenD, mkT, mkL, addD, addI, subD, modD, fdivD, eqD_int, neD_int, ltD, leD, gtD, geD, asB, truD, notV, andV, orV, notT, orT, andT, shs, negV, negD, isD, isntD, isNone, isiB, toTu, toCons, toNil, toNm, ixD, atI, ixN, asL, asTu, min2D, max2D, intD, Dd.d, wn_change, Dd.isP]
  | keep q => simp [op2, opT, nmP, nmW, cons2, Cell.got, callD, lenD, mkT, mkL, addD, addI, subD, modD, fdivD, eqD_int, neD_int, ltD, leD, gtD, geD, asB, truD, notV, andV, orV, notT, orT, andT, shs, negV, negD, isD, isntD, isNone, isiB, toTu, toCons, toNil, toNm, ixD, atI, ixN, asL, asTu, min2D, max2D, intD, Dd.d, wn_keep, Dd.isP]
  | cut q => simp [op2, opT, nmP, nmW, cons2, Cell.got, callD, lenD, mkT, mkL, addD, addI, subD, modD, fdivD, eqD_int, neD_int, ltD, leD, gtD, geD, asB, truD, notV, andV, orV, notT, orT, andT, shs, negV, negD, isD, isntD, isNone, isiB, toTu, toCons, toNil, toNm, ixD, atI, ixN, asL, asTu, min2D, max2D, intD, Dd.d, wn_cut, Dd.isP]
theorem enum_get {xs : List D} {j : Nat} {d : D} (h : (enumD xs)[j]? = some d) : ∃ x, xs[j]? = some x ∧ d = .tuple [.int (j : Nat), x] := by
  unfold enumD at h
  rw [List.getElem?_map] at h
  obtain ⟨i, h1, rfl⟩ := Option.map_eq_some_iff.mp h
  obtain ⟨h2, h3⟩ := List.getElem?_eq_some_iff.mp h1
  rw [List.getElem_range] at h3
  subst h3
  rw [List.length_range] at h2
  exact ⟨xs[j], List.getElem?_eq_getElem h2, by rw [List.getD_eq_getElem?_getD, List.getElem?_eq_getElem h2]; rfl⟩
theorem enum_len (xs : List D) : (enumD xs).length = xs.length := by
  unfold enumD
  rw [List.length_map, List.length_range]
/-! the script -/
def AT (ns : List Int) (i : Int) : Int := ns.getD i.toNat 0
theorem at_is (ns : List Int) {i : Int} (h0 : 0 ≤ i) : sem__law_at [.list (ns.map .int), .int i] = some (.ret (.int (AT ns i)) false []) := by
  refine sem_eq rfl ?_
  unfold g__law_at
  refine rs_if (b := decide ((ns.length : Int) ≤ i)) (by simp [op2, opT, nmP, nmW, cons2, Cell.got, callD, lenD, mkT, mkL, addD, addI, subD, modD, fdivD, eqD_int, neD_int, ltD, leD, gtD, geD, asB, truD, notV, andV, orV, notT, orT, andT, shs, negV, negD, isD, isntD, isNone, isiB, toTu, toCons, toNil, toNm, ixD, atI, ixN, asL, asTu, min2D, max2D, intD]) (fun h => ?_) fun h => ?_
  · have h := of_decide_eq_true h
    refine run_ret (d := .int 0) rfl (ret_ok (Nat.le_of_ble_eq_true rfl) ?_)
    unfold AT
    rw [List.getD_eq_getElem?_getD, List.getElem?_eq_none (by omega)]
    rfl
  · have h := of_decide_eq_false h
    have hl : i.toNat < ns.length := by omega
    refine run_ret (d := .int (AT ns i)) (op2_is (x := .list (ns.map .int)) (y := .int i) rfl rfl ?_) (ret_ok (Nat.le_of_ble_eq_true rfl) rfl)
    show atI (ns.map PyData.int) i = _
    unfold atI ixN AT
    rw [if_pos h0, if_pos (by rw [List.length_map]; omega)]
    show (ns.map PyData.int)[i.toNat]? = _
    rw [List.getElem?_map, List.getD_eq_getElem?_getD, List.getElem?_eq_getElem hl]
    rfl
theorem call_at {ns : List Int} {ρ : Nv} {f : Nv → Option D} {i : Int} (h1 : nmP 0 ρ = some (.list (ns.map .int))) (h2 : f ρ = some (.int i)) (h0 : 0 ≤ i) : callS 2 sem__law_at (cons2 (nmP 0) (cons2 f (fun _ => some []))) ρ = some (.int (AT ns i)) :=
  callS_of (ds := [.list (ns.map .int), .int i]) (cons2_is h1 (cons2_is h2 rfl)) (at_is ns h0)
def SG94 : Str := " !\"#$&'()*+,-./0123456789:;<=>?@ABCDEFGHIJKLMNOPQRSTUVWXYZ[\\]^_`abcdefghijklmnopqrstuvwxyz{|}~"
def sg94 : List Nat := SG94.cps.toList
def S94 (c : Int) : Nat := sg94.getD (c % 94).toNat 0
theorem S94_ok (c : Int) : sgB (S94 c) = true := by
  have h : ∀ i, i < 94 → sgB (sg94.getD i 0) = true := by decide +kernel
  exact h _ (by omega)
theorem sign_is (c : Int) : sem__law_sign [.int c] = some (.ret (sgD (S94 c)) false []) := by
  refine sem_eq rfl ?_
  unfold g__law_sign
  refine rs_set (d := .str "ABCDEFGHIJKLMNOPQRSTUVWXYZ") rfl ?_
  refine rs_set (d := .str SG94) (by with_unfolding_all rfl) ?_
  refine run_ret (d := sgD (S94 c)) (op2_is (x := .str (txt sg94)) (y := .int (c % 94)) rfl rfl ?_) (ret_ok (Nat.le_of_ble_eq_true rfl) rfl)
  have h5 : sg94.length = 94 := by decide +kernel
  have := ix_txt (cs := sg94) (k := (c % 94).toNat) (by omega) (by omega)
  rw [Int.toNat_of_nonneg (by omega)] at this
  exact this
/-! deeds as they are drawn -/
def Fit (cs : List Nat) : Prop := cs.length ≤ 1000 ∧ ∀ c ∈ cs, sgB c = true
def Dd.ok : Dd → Prop
  | .put _ s => sgB s = true
  | .change _ s => sgB s = true
  | _ => True
def Dd.word : Dd → Str
  | .put _ _ => "put"
  | .keep _ => "keep"
  | .change _ _ => "change"
  | .cut _ => "cut"
theorem tx_word (x : Dd) : TxOk x.word := by
  cases x
  · exact tx_put
  · exact tx_keep
  · exact tx_change
  · exact tx_cut
/-- what is no deed, wherever it is told -/
structure Bad (d : D) : Prop where
  prog : ∀ p : Nat, sem_is_deed [d, .int (p : Nat)] = some (.ret (.bool false) false [])
  law : ∀ (p : Nat) (cs : List Nat), cs.length ≤ 1000 → sem__law_step [d, .int (p : Nat), .str (txt cs)] = some (.ret .none false [])
  self : selfOk 20 d = true
theorem is_deed_ok (x : Dd) (hx : x.ok) (p : Nat) : sem_is_deed [x.d, .int (p : Nat)] = some (.ret (.bool (decide (x.at = p))) false []) := by
  refine sem_eq rfl ?_
  unfold g_is_deed
  have key : ∀ (w : Str) (q : Nat) (rest : List D), TxOk w → (rest = [] ∧ (w = "keep" ∨ w = "cut") ∨ ∃ s, rest = [sgD s] ∧ sgB s = true ∧ (w = "put" ∨ w = "change")) → Run (g_is_deed (shs [.tuple (.str w :: .int (q : Nat) :: rest), .int (p : Nat)] 0)) (Ret 2 false (· = .bool (decide (q = p)))) := by
    intro w q rest hw hr
    unfold g_is_deed
    have hqp : decide ((q : Int) = (p : Int)) = decide (q = p) := by
      by_cases h : q = p
      · rw [decide_eq_true h, decide_eq_true (by omega)]
      · rw [decide_eq_false h, decide_eq_false (by omega)]
    rcases hr with ⟨rfl, hq⟩ | ⟨s, rfl, hs, hq⟩
    · refine rs_if (b := false) (orT_of (a := false) (b := false) (by simp [op2, opT, nmP, nmW, cons2, Cell.got, callD, lenD, mkT, mkL, addD, addI, subD, modD, fdivD, eqD_int, neD_int, ltD, leD, gtD, geD, asB, truD, notV, andV, orV, notT, orT, andT, shs, negV, negD, isD, isntD, isNone, isiB, toTu, toCons, toNil, toNm, ixD, atI, ixN, asL, asTu, min2D, max2D, intD]) fun _ => opT_is (x := .int 2) (y := .tuple [.int 2, .int 3]) (by simp [op2, opT, nmP, nmW, cons2, Cell.got, callD, lenD, mkT, mkL, addD, addI, subD, modD, fdivD, eqD_int, neD_int, ltD, leD, gtD, geD, asB, truD, notV, andV, orV, notT, orT, andT, shs, negV, negD, isD, isntD, isNone, isiB, toTu, toCons, toNil, toNm, ixD, atI, ixN, asL, asTu, min2D, max2D, intD]) rfl (by rw [in23]; rfl)) (fun z => by cases z) fun _ => ?_
      refine rs_if (b := !decide (q = p)) (orT_of (a := false) (b := !decide (q = p)) (by simp [op2, opT, nmP, nmW, cons2, Cell.got, callD, lenD, mkT, mkL, addD, addI, subD, modD, fdivD, eqD_int, neD_int, ltD, leD, gtD, geD, asB, truD, notV, andV, orV, notT, orT, andT, shs, negV, negD, isD, isntD, isNone, isiB, toTu, toCons, toNil, toNm, ixD, atI, ixN, asL, asTu, min2D, max2D, intD]) fun _ => orT_of (a := false) (b := !decide (q = p)) (notT_of (a := true) (trT_of (d := .bool true) (callS_of (ds := [.int (q : Nat)]) (by simp [op2, opT, nmP, nmW, cons2, Cell.got, callD, lenD, mkT, mkL, addD, addI, subD, modD, fdivD, eqD_int, neD_int, ltD, leD, gtD, geD, asB, truD, notV, andV, orV, notT, orT, andT, shs, negV, negD, isD, isntD, isNone, isiB, toTu, toCons, toNil, toNm, ixD, atI, ixN, asL, asTu, min2D, max2D, intD]) (is_place_is q)) rfl)) fun _ => opT_is (x := .int (q : Nat)) (y := .int (p : Nat)) (by simp [op2, opT, nmP, nmW, cons2, Cell.got, callD, lenD, mkT, mkL, addD, addI, subD, modD, fdivD, eqD_int, neD_int, ltD, leD, gtD, geD, asB, truD, notV, andV, orV, notT, orT, andT, shs, negV, negD, isD, isntD, isNone, isiB, toTu, toCons, toNil, toNm, ixD, atI, ixN, asL, asTu, min2D, max2D, intD]) (by simp [op2, opT, nmP, nmW, cons2, Cell.got, callD, lenD, mkT, mkL, addD, addI, subD, modD, fdivD, eqD_int, neD_int, ltD, leD, gtD, geD, asB, truD, notV, andV, orV, notT, orT, andT, shs, negV, negD, isD, isntD, isNone, isiB, toTu, toCons, toNil, toNm, ixD, atI, ixN, asL, asTu, min2D, max2D, intD]) (by rw [neD_int, hqp])) (fun z => ?_) fun z => ?_
      · have z1 : decide (q = p) = false := by simpa using z
        rw [z1]
        exact run_ret rfl (thn_rt (ret_ok (Nat.le_of_ble_eq_true rfl) rfl))
      · have z1 : decide (q = p) = true := by simpa using z
        rw [z1]
        refine rs_if (b := true) (by simp [op2, opT, nmP, nmW, cons2, Cell.got, callD, lenD, mkT, mkL, addD, addI, subD, modD, fdivD, eqD_int, neD_int, ltD, leD, gtD, geD, asB, truD, notV, andV, orV, notT, orT, andT, shs, negV, negD, isD, isntD, isNone, isiB, toTu, toCons, toNil, toNm, ixD, atI, ixN, asL, asTu, min2D, max2D, intD]) (fun _ => ?_) fun z => by cases z
        refine run_ret (d := .bool true) ?_ (thn_rt (ret_ok (Nat.le_of_ble_eq_true rfl) rfl))
        refine op2_is (x := .str w) (y := .tuple [.str "keep", .str "cut"]) (by simp [op2, opT, nmP, nmW, cons2, Cell.got, callD, lenD, mkT, mkL, addD, addI, subD, modD, fdivD, eqD_int, neD_int, ltD, leD, gtD, geD, asB, truD, notV, andV, orV, notT, orT, andT, shs, negV, negD, isD, isntD, isNone, isiB, toTu, toCons, toNil, toNm, ixD, atI, ixN, asL, asTu, min2D, max2D, intD]) rfl ?_
        rw [in2 hw tx_keep tx_cut]
        rcases hq with rfl | rfl <;> rfl
    · refine rs_if (b := false) (orT_of (a := false) (b := false) (by simp [op2, opT, nmP, nmW, cons2, Cell.got, callD, lenD, mkT, mkL, addD, addI, subD, modD, fdivD, eqD_int, neD_int, ltD, leD, gtD, geD, asB, truD, notV, andV, orV, notT, orT, andT, shs, negV, negD, isD, isntD, isNone, isiB, toTu, toCons, toNil, toNm, ixD, atI, ixN, asL, asTu, min2D, max2D, intD]) fun _ => opT_is (x := .int 3) (y := .tuple [.int 2, .int 3]) (by simp [op2, opT, nmP, nmW, cons2, Cell.got, callD, lenD, mkT, mkL, addD, addI, subD, modD, fdivD, eqD_int, neD_int, ltD, leD, gtD, geD, asB, truD, notV, andV, orV, notT, orT, andT, shs, negV, negD, isD, isntD, isNone, isiB, toTu, toCons, toNil, toNm, ixD, atI, ixN, asL, asTu, min2D, max2D, intD]) rfl (by rw [in23]; rfl)) (fun z => by cases z) fun _ => ?_
      refine rs_if (b := !decide (q = p)) (orT_of (a := false) (b := !decide (q = p)) (by simp [op2, opT, nmP, nmW, cons2, Cell.got, callD, lenD, mkT, mkL, addD, addI, subD, modD, fdivD, eqD_int, neD_int, ltD, leD, gtD, geD, asB, truD, notV, andV, orV, notT, orT, andT, shs, negV, negD, isD, isntD, isNone, isiB, toTu, toCons, toNil, toNm, ixD, atI, ixN, asL, asTu, min2D, max2D, intD]) fun _ => orT_of (a := false) (b := !decide (q = p)) (notT_of (a := true) (trT_of (d := .bool true) (callS_of (ds := [.int (q : Nat)]) (by simp [op2, opT, nmP, nmW, cons2, Cell.got, callD, lenD, mkT, mkL, addD, addI, subD, modD, fdivD, eqD_int, neD_int, ltD, leD, gtD, geD, asB, truD, notV, andV, orV, notT, orT, andT, shs, negV, negD, isD, isntD, isNone, isiB, toTu, toCons, toNil, toNm, ixD, atI, ixN, asL, asTu, min2D, max2D, intD]) (is_place_is q)) rfl)) fun _ => opT_is (x := .int (q : Nat)) (y := .int (p : Nat)) (by simp [op2, opT, nmP, nmW, cons2, Cell.got, callD, lenD, mkT, mkL, addD, addI, subD, modD, fdivD, eqD_int, neD_int, ltD, leD, gtD, geD, asB, truD, notV, andV, orV, notT, orT, andT, shs, negV, negD, isD, isntD, isNone, isiB, toTu, toCons, toNil, toNm, ixD, atI, ixN, asL, asTu, min2D, max2D, intD]) (by simp [op2, opT, nmP, nmW, cons2, Cell.got, callD, lenD, mkT, mkL, addD, addI, subD, modD, fdivD, eqD_int, neD_int, ltD, leD, gtD, geD, asB, truD, notV, andV, orV, notT, orT, andT, shs, negV, negD, isD, isntD, isNone, isiB, toTu, toCons, toNil, toNm, ixD, atI, ixN, asL, asTu, min2D, max2D, intD]) (by rw [neD_int, hqp])) (fun z => ?_) fun z => ?_
      · have z1 : decide (q = p) = false := by simpa using z
        rw [z1]
        exact run_ret rfl (thn_rt (ret_ok (Nat.le_of_ble_eq_true rfl) rfl))
      · have z1 : decide (q = p) = true := by simpa using z
        rw [z1]
        refine rs_if (b := false) (by simp [op2, opT, nmP, nmW, cons2, Cell.got, callD, lenD, mkT, mkL, addD, addI, subD, modD, fdivD, eqD_int, neD_int, ltD, leD, gtD, geD, asB, truD, notV, andV, orV, notT, orT, andT, shs, negV, negD, isD, isntD, isNone, isiB, toTu, toCons, toNil, toNm, ixD, atI, ixN, asL, asTu, min2D, max2D, intD]) (fun z => by cases z) fun _ => ?_
        refine run_ret (d := .bool true) ?_ (ret_ok (Nat.le_of_ble_eq_true rfl) rfl)
        refine andV_of (a := true) (b := true) ?_ fun _ => ?_
        · refine op2_is (x := .str w) (y := .tuple [.str "put", .str "change"]) (by simp [op2, opT, nmP, nmW, cons2, Cell.got, callD, lenD, mkT, mkL, addD, addI, subD, modD, fdivD, eqD_int, neD_int, ltD, leD, gtD, geD, asB, truD, notV, andV, orV, notT, orT, andT, shs, negV, negD, isD, isntD, isNone, isiB, toTu, toCons, toNil, toNm, ixD, atI, ixN, asL, asTu, min2D, max2D, intD]) rfl ?_
          rw [in2 hw tx_put tx_change]
          rcases hq with rfl | rfl <;> rfl
        · have := is_sign_sg s
          rw [hs] at this
          exact callS_of (ds := [sgD s]) (by simp [op2, opT, nmP, nmW, cons2, Cell.got, callD, lenD, mkT, mkL, addD, addI, subD, modD, fdivD, eqD_int, neD_int, ltD, leD, gtD, geD, asB, truD, notV, andV, orV, notT, orT, andT, shs, negV, negD, isD, isntD, isNone, isiB, toTu, toCons, toNil, toNm, ixD, atI, ixN, asL, asTu, min2D, max2D, intD]) this
  cases x with
  | put q s => exact key "put" q [sgD s] tx_put (.inr ⟨s, rfl, hx, .inl rfl⟩)
  | keep q => exact key "keep" q [] tx_keep (.inl ⟨rfl, .inl rfl⟩)
  | change q s => exact key "change" q [sgD s] tx_change (.inr ⟨s, rfl, hx, .inr rfl⟩)
  | cut q => exact key "cut" q [] tx_cut (.inl ⟨rfl, .inr rfl⟩)
end K5

namespace K5
open PySem L2 DS
theorem neR_int (i j : Int) : neRD (.int i) (.int j) = some (.bool (!decide (i = j))) := by
  unfold neRD
  rw [if_pos ⟨shaped_int, shaped_int⟩, eqv_int]
theorem eqX_str {x y : Str} (h1 : TxOk x) (h2 : TxOk y) : eqXD (.str x) (.str y) = some (.bool (decide (x = y))) := by
  unfold eqXD
  rw [if_pos ⟨h1.shaped, h2.shaped⟩, eqv_str]
theorem ninR_str {x a b : Str} (hx : TxOk x) (ha : TxOk a) (hb : TxOk b) : ninRD (.str x) (.tuple [.str a, .str b]) = some (.bool (!(decide (a = x) || decide (b = x)))) := by
  unfold ninRD inR
  dsimp only
  rw [if_pos (shaped_fine (n := 1) (by show List.all _ (fine 0) = true; simp [ha.fine, hb.fine]) (by decide))]
  simp [anyR, eqR, ha.shaped, hb.shaped, hx.shaped, eqv_str]
theorem tx_nl : TxOk "\n" := tx_of "\n"
theorem xw_put_put : eqXD (.str "put") (.str "put") = some (.bool true) := by rw [eqX_str tx_put tx_put]; rfl
theorem xw_change_put : eqXD (.str "change") (.str "put") = some (.bool false) := by rw [eqX_str tx_change tx_put]; rfl
theorem xw_change_change : eqXD (.str "change") (.str "change") = some (.bool true) := by rw [eqX_str tx_change tx_change]; rfl
theorem xw_keep_put : eqXD (.str "keep") (.str "put") = some (.bool false) := by rw [eqX_str tx_keep tx_put]; rfl
theorem xw_keep_change : eqXD (.str "keep") (.str "change") = some (.bool false) := by rw [eqX_str tx_keep tx_change]; rfl
theorem xw_keep_keep : eqXD (.str "keep") (.str "keep") = some (.bool true) := by rw [eqX_str tx_keep tx_keep]; rfl
theorem xw_cut_put : eqXD (.str "cut") (.str "put") = some (.bool false) := by rw [eqX_str tx_cut tx_put]; rfl
theorem xw_cut_change : eqXD (.str "cut") (.str "change") = some (.bool false) := by rw [eqX_str tx_cut tx_change]; rfl
theorem xw_cut_keep : eqXD (.str "cut") (.str "keep") = some (.bool false) := by rw [eqX_str tx_cut tx_keep]; rfl
theorem nl_sg {s : Nat} (h : sgB s = true) : eqXD (sgD s) (.str "\n") = some (.bool false) := by
  unfold sgD
  rw [eqX_str (sg_ok (sgB_ok h)) tx_nl]
  have : ¬ ((⟨#[s]⟩ : Str) = "\n") := fun z => by
    have e0 : ("\n" : Str) = ⟨#[10]⟩ := by decide +kernel
    have e : s = 10 := sg_inj.mp (z.trans e0)
    subst e
    cases h
  rw [decide_eq_false this]
theorem dec_nat (q p : Nat) : decide ((q : Int) = (p : Int)) = decide (q = p) := by
  by_cases h : q = p
  · rw [decide_eq_true h, decide_eq_true (by omega)]
  · rw [decide_eq_false h, decide_eq_false (by omega)]
def stepD : Option (Nat × List Nat) → D
  | none => .none
  | some (p, o) => .tuple [.str (txt o), .int (p : Nat)]
/-! the walk's step: how it begins -/
theorem step_go {d : D} {p : Nat} {cs : List Nat} {w c : D} {rest : List D} {q : Nat} {ψ : D → Prop} (hd : d = .tuple (w :: .int (q : Nat) :: rest)) (hr : rest = [] ∨ ∃ x, rest = [x])
    (h1 : q ≠ p → ψ .none)
    (h2 : q = p → Run (seqS (ifS (orT (opT eqXD (op2 ixD (nmW 0) (fun _ => some (.int 0))) (fun _ => some (.str "put"))) (opT eqXD (op2 ixD (nmW 0) (fun _ => some (.int 0))) (fun _ => some (.str "change"))))
      (seqS (ifS (orT (opT neRD (callD lenD (cons2 (nmW 0) (fun _ => some []))) (fun _ => some (.int 3))) (orT (notT (fun ρ => ((fun ρ => ((op2 ixD (nmW 0) (fun _ => some (.int 2))) ρ).map fun d => .bool (isiB "str" d)) ρ).bind truD)) (orT (opT neRD (callD lenD (cons2 (op2 ixD (nmW 0) (fun _ => some (.int 2))) (fun _ => some []))) (fun _ => some (.int 1))) (opT eqXD (op2 ixD (nmW 0) (fun _ => some (.int 2))) (fun _ => some (.str "\n"))))))
      (fun ρ => ((fun _ => some .none) ρ).map fun d => .rt d false ρ)
      (fun ρ => some (.nx ρ)))
    (seqS (ifS (opT eqXD (op2 ixD (nmW 0) (fun _ => some (.int 0))) (fun _ => some (.str "put")))
      (fun ρ => ((mkT (cons2 (op2 ixD (nmW 0) (fun _ => some (.int 2))) (cons2 (nmP 1) (fun _ => some [])))) ρ).map fun d => .rt d false ρ)
      (fun ρ => some (.nx ρ)))
    (seqS (ifS (opT ltD (nmW 1) (callD lenD (cons2 (nmW 2) (fun _ => some []))))
      (fun ρ => ((mkT (cons2 (op2 ixD (nmW 0) (fun _ => some (.int 2))) (cons2 (op2 addD (nmW 1) (fun _ => some (.int 1))) (fun _ => some [])))) ρ).map fun d => .rt d false ρ)
      (fun ρ => some (.nx ρ)))
    (fun ρ => ((fun _ => some .none) ρ).map fun d => .rt d false ρ))))
      (fun ρ => some (.nx ρ)))
    (seqS (ifS (orT (opT neRD (callD lenD (cons2 (nmW 0) (fun _ => some []))) (fun _ => some (.int 2))) (orT (opT geD (nmW 1) (callD lenD (cons2 (nmW 2) (fun _ => some [])))) (opT ninRD (op2 ixD (nmW 0) (fun _ => some (.int 0))) (mkT (cons2 (fun _ => some (.str "keep")) (cons2 (fun _ => some (.str "cut")) (fun _ => some [])))))))
      (fun ρ => ((fun _ => some .none) ρ).map fun d => .rt d false ρ)
      (fun ρ => some (.nx ρ)))
    (fun ρ => ((mkT (cons2 (op2 mulSD (op2 ixD (nmW 2) (nmW 1)) (callD intD (cons2 (op2 eqXD (op2 ixD (nmW 0) (fun _ => some (.int 0))) (fun _ => some (.str "keep"))) (fun _ => some [])))) (cons2 (op2 addD (nmW 1) (fun _ => some (.int 1))) (fun _ => some [])))) ρ).map fun d => .rt d false ρ))
      (shs [d, .int (p : Nat), .str (txt cs)] 0)) (Ret 3 false ψ)) :
    Run (g__law_step (shs [d, .int (p : Nat), .str (txt cs)] 0)) (Ret 3 false ψ) := by
  subst hd
  unfold g__law_step
  rcases hr with rfl | ⟨x, rfl⟩
  · refine rs_if (b := false) (by simp [op2, opT, nmP, nmW, cons2, Cell.got, callD, lenD, mkT, mkL, addD, addI, subD, modD, fdivD, eqD_int, neD_int, ltD, leD, gtD, geD, asB, truD, notV, andV, orV, notT, orT, andT, shs, negV, negD, isD, isntD, isNone, isiB, toTu, toCons, toNil, toNm, ixD, atI, ixN, asL, asTu, min2D, max2D, intD]) (fun z => by cases z) fun _ => ?_
    refine rs_if (b := !decide (q = p)) (orT_of (a := false) (b := !decide (q = p)) (by simp [op2, opT, nmP, nmW, cons2, Cell.got, callD, lenD, mkT, mkL, addD, addI, subD, modD, fdivD, eqD_int, neD_int, ltD, leD, gtD, geD, asB, truD, notV, andV, orV, notT, orT, andT, shs, negV, negD, isD, isntD, isNone, isiB, toTu, toCons, toNil, toNm, ixD, atI, ixN, asL, asTu, min2D, max2D, intD]) fun _ => orT_of (a := false) (b := !decide (q = p)) (by simp [op2, opT, nmP, nmW, cons2, Cell.got, callD, lenD, mkT, mkL, addD, addI, subD, modD, fdivD, eqD_int, neD_int, ltD, leD, gtD, geD, asB, truD, notV, andV, orV, notT, orT, andT, shs, negV, negD, isD, isntD, isNone, isiB, toTu, toCons, toNil, toNm, ixD, atI, ixN, asL, asTu, min2D, max2D, intD]) fun _ => opT_is (x := .int (q : Nat)) (y := .int (p : Nat)) (by simp [op2, opT, nmP, nmW, cons2, Cell.got, callD, lenD, mkT, mkL, addD, addI, subD, modD, fdivD, eqD_int, neD_int, ltD, leD, gtD, geD, asB, truD, notV, andV, orV, notT, orT, andT, shs, negV, negD, isD, isntD, isNone, isiB, toTu, toCons, toNil, toNm, ixD, atI, ixN, asL, asTu, min2D, max2D, intD]) (by simp [op2, opT, nmP, nmW, cons2, Cell.got, callD, lenD, mkT, mkL, addD, addI, subD, modD, fdivD, eqD_int, neD_int, ltD, leD, gtD, geD, asB, truD, notV, andV, orV, notT, orT, andT, shs, negV, negD, isD, isntD, isNone, isiB, toTu, toCons, toNil, toNm, ixD, atI, ixN, asL, asTu, min2D, max2D, intD]) (by rw [neR_int, dec_nat])) (fun z => ?_) fun z => ?_
    · exact run_ret rfl (thn_rt (ret_ok (Nat.le_of_ble_eq_true rfl) (h1 (by simpa using z))))
    · exact h2 (by simpa using z)
  · refine rs_if (b := false) (by simp [op2, opT, nmP, nmW, cons2, Cell.got, callD, lenD, mkT, mkL, addD, addI, subD, modD, fdivD, eqD_int, neD_int, ltD, leD, gtD, geD, asB, truD, notV, andV, orV, notT, orT, andT, shs, negV, negD, isD, isntD, isNone, isiB, toTu, toCons, toNil, toNm, ixD, atI, ixN, asL, asTu, min2D, max2D, intD]) (fun z => by cases z) fun _ => ?_
    refine rs_if (b := !decide (q = p)) (orT_of (a := false) (b := !decide (q = p)) (by simp [op2, opT, nmP, nmW, cons2, Cell.got, callD, lenD, mkT, mkL, addD, addI, subD, modD, fdivD, eqD_int, neD_int, ltD, leD, gtD, geD, asB, truD, notV, andV, orV, notT, orT, andT, shs, negV, negD, isD, isntD, isNone, isiB, toTu, toCons, toNil, toNm, ixD, atI, ixN, asL, asTu, min2D, max2D, intD]) fun _ => orT_of (a := false) (b := !decide (q = p)) (by simp [op2, opT, nmP, nmW, cons2, Cell.got, callD, lenD, mkT, mkL, addD, addI, subD, modD, fdivD, eqD_int, neD_int, ltD, leD, gtD, geD, asB, truD, notV, andV, orV, notT, orT, andT, shs, negV, negD, isD, isntD, isNone, isiB, toTu, toCons, toNil, toNm, ixD, atI, ixN, asL, asTu, min2D, max2D, intD]) fun _ => opT_is (x := .int (q : Nat)) (y := .int (p : Nat)) (by simp [op2, opT, nmP, nmW, cons2, Cell.got, callD, lenD, mkT, mkL, addD, addI, subD, modD, fdivD, eqD_int, neD_int, ltD, leD, gtD, geD, asB, truD, notV, andV, orV, notT, orT, andT, shs, negV, negD, isD, isntD, isNone, isiB, toTu, toCons, toNil, toNm, ixD, atI, ixN, asL, asTu, min2D, max2D, intD]) (by simp [op2, opT, nmP, nmW, cons2, Cell.got, callD, lenD, mkT, mkL, addD, addI, subD, modD, fdivD, eqD_int, neD_int, ltD, leD, gtD, geD, asB, truD, notV, andV, orV, notT, orT, andT, shs, negV, negD, isD, isntD, isNone, isiB, toTu, toCons, toNil, toNm, ixD, atI, ixN, asL, asTu, min2D, max2D, intD]) (by rw [neR_int, dec_nat])) (fun z => ?_) fun z => ?_
    · exact run_ret rfl (thn_rt (ret_ok (Nat.le_of_ble_eq_true rfl) (h1 (by simpa using z))))
    · exact h2 (by simpa using z)
theorem law_step_ok (x : Dd) (hx : x.ok) (p : Nat) {cs : List Nat} (hl : cs.length ≤ 1000) : sem__law_step [x.d, .int (p : Nat), .str (txt cs)] = some (.ret (stepD (x.step cs p)) false []) := by
  refine sem_eq rfl ?_
  have ht : (txt cs).length = cs.length := rfl
  have hle : (cs.length : Int) ≤ 100000 := by omega
  have hln : cs.length ≤ 100000 := by omega
  have elt : decide ((p : Int) < (cs.length : Int)) = decide (p < cs.length) := by
    by_cases h : p < cs.length
    · rw [decide_eq_true h, decide_eq_true (by omega)]
    · rw [decide_eq_false h, decide_eq_false (by omega)]
  have ege : decide ((cs.length : Int) ≤ (p : Int)) = !decide (p < cs.length) := by
    by_cases h : p < cs.length
    · rw [decide_eq_true h, decide_eq_false (by omega)]; rfl
    · rw [decide_eq_false h, decide_eq_true (by omega)]; rfl
  have egn : decide (cs.length ≤ p) = !decide (p < cs.length) := by
    by_cases h : p < cs.length
    · rw [decide_eq_true h, decide_eq_false (by omega)]; rfl
    · rw [decide_eq_false h, decide_eq_true (by omega)]; rfl
  have l1 : ∀ s : Nat, (⟨#[s]⟩ : Str).length = 1 := fun _ => rfl
  cases x with
  | put q s =>
    have hx : sgB s = true := hx
    refine step_go (w := .str "put") (q := q) (rest := [sgD s]) (c := .none) rfl (.inr ⟨_, rfl⟩) (fun h => ?_) fun h => ?_
    · rw [Dd.step, if_neg (fun z => h z.1)]
      rfl
    · rw [Dd.step, if_pos ⟨h, hx⟩]
      refine rs_if (b := true) (orT_of (a := true) (b := true) (by simp [op2, opT, nmP, nmW, cons2, Cell.got, callD, lenD, mkT, mkL, addD, addI, subD, modD, fdivD, eqD_int, neD_int, ltD, leD, gtD, geD, asB, truD, notV, andV, orV, notT, orT, andT, shs, negV, negD, isD, isntD, isNone, isiB, toTu, toCons, toNil, toNm, ixD, atI, ixN, asL, asTu, min2D, max2D, intD, Dd.d, xw_put_put]) fun z => by cases z) (fun _ => ?_) fun z => by cases z
      refine rs_if (b := false) (orT_of (a := false) (b := false) (by simp [op2, opT, nmP, nmW, cons2, Cell.got, callD, lenD, mkT, mkL, addD, addI, subD, modD, fdivD, eqD_int, neD_int, ltD, leD, gtD, geD, asB, truD, notV, andV, orV, notT, orT, andT, shs, negV, negD, isD, isntD, isNone, isiB, toTu, toCons, toNil, toNm, ixD, atI, ixN, asL, asTu, min2D, max2D, intD, Dd.d, neR_int]) fun _ => orT_of (a := false) (b := false) (by simp [op2, opT, nmP, nmW, cons2, Cell.got, callD, lenD, mkT, mkL, addD, addI, subD, modD, fdivD, eqD_int, neD_int, ltD, leD, gtD, geD, asB, truD, notV, andV, orV, notT, orT, andT, shs, negV, negD, isD, isntD, isNone, isiB, toTu, toCons, toNil, toNm, ixD, atI, ixN, asL, asTu, min2D, max2D, intD, Dd.d, sgD]) fun _ => orT_of (a := false) (b := false) (by simp [op2, opT, nmP, nmW, cons2, Cell.got, callD, lenD, mkT, mkL, addD, addI, subD, modD, fdivD, eqD_int, neD_int, ltD, leD, gtD, geD, asB, truD, notV, andV, orV, notT, orT, andT, shs, negV, negD, isD, isntD, isNone, isiB, toTu, toCons, toNil, toNm, ixD, atI, ixN, asL, asTu, min2D, max2D, intD, Dd.d, sgD, neR_int, l1]) fun _ => opT_is (x := sgD s) (y := .str "\n") (by simp [op2, opT, nmP, nmW, cons2, Cell.got, callD, lenD, mkT, mkL, addD, addI, subD, modD, fdivD, eqD_int, neD_int, ltD, leD, gtD, geD, asB, truD, notV, andV, orV, notT, orT, andT, shs, negV, negD, isD, isntD, isNone, isiB, toTu, toCons, toNil, toNm, ixD, atI, ixN, asL, asTu, min2D, max2D, intD, Dd.d]) rfl (nl_sg hx)) (fun z => by cases z) fun _ => ?_
      refine rs_if (b := true) (by simp [op2, opT, nmP, nmW, cons2, Cell.got, callD, lenD, mkT, mkL, addD, addI, subD, modD, fdivD, eqD_int, neD_int, ltD, leD, gtD, geD, asB, truD, notV, andV, orV, notT, orT, andT, shs, negV, negD, isD, isntD, isNone, isiB, toTu, toCons, toNil, toNm, ixD, atI, ixN, asL, asTu, min2D, max2D, intD, Dd.d, xw_put_put]) (fun _ => ?_) fun z => by cases z
      exact run_ret (mkT_of (xs := [sgD s, .int (p : Nat)]) (by simp [op2, opT, nmP, nmW, cons2, Cell.got, callD, lenD, mkT, mkL, addD, addI, subD, modD, fdivD, eqD_int, neD_int, ltD, leD, gtD, geD, asB, truD, notV, andV, orV, notT, orT, andT, shs, negV, negD, isD, isntD, isNone, isiB, toTu, toCons, toNil, toNm, ixD, atI, ixN, asL, asTu, min2D, max2D, intD, Dd.d])) (thn_rt (thn_rt (ret_ok (Nat.le_of_ble_eq_true rfl) rfl)))
  | change q s =>
    have hx : sgB s = true := hx
    refine step_go (w := .str "change") (q := q) (rest := [sgD s]) (c := .none) rfl (.inr ⟨_, rfl⟩) (fun h => ?_) fun h => ?_
    · rw [Dd.step, if_neg (fun z => h z.1)]
      rfl
    · refine rs_if (b := true) (orT_of (a := false) (b := true) (by simp [op2, opT, nmP, nmW, cons2, Cell.got, callD, lenD, mkT, mkL, addD, addI, subD, modD, fdivD, eqD_int, neD_int, ltD, leD, gtD, geD, asB, truD, notV, andV, orV, notT, orT, andT, shs, negV, negD, isD, isntD, isNone, isiB, toTu, toCons, toNil, toNm, ixD, atI, ixN, asL, asTu, min2D, max2D, intD, Dd.d, xw_change_put]) fun _ => by simp [op2, opT, nmP, nmW, cons2, Cell.got, callD, lenD, mkT, mkL, addD, addI, subD, modD, fdivD, eqD_int, neD_int, ltD, leD, gtD, geD, asB, truD, notV, andV, orV, notT, orT, andT, shs, negV, negD, isD, isntD, isNone, isiB, toTu, toCons, toNil, toNm, ixD, atI, ixN, asL, asTu, min2D, max2D, intD, Dd.d, xw_change_change]) (fun _ => ?_) fun z => by cases z
      refine rs_if (b := false) (orT_of (a := false) (b := false) (by simp [op2, opT, nmP, nmW, cons2, Cell.got, callD, lenD, mkT, mkL, addD, addI, subD, modD, fdivD, eqD_int, neD_int, ltD, leD, gtD, geD, asB, truD, notV, andV, orV, notT, orT, andT, shs, negV, negD, isD, isntD, isNone, isiB, toTu, toCons, toNil, toNm, ixD, atI, ixN, asL, asTu, min2D, max2D, intD, Dd.d, neR_int]) fun _ => orT_of (a := false) (b := false) (by simp [op2, opT, nmP, nmW, cons2, Cell.got, callD, lenD, mkT, mkL, addD, addI, subD, modD, fdivD, eqD_int, neD_int, ltD, leD, gtD, geD, asB, truD, notV, andV, orV, notT, orT, andT, shs, negV, negD, isD, isntD, isNone, isiB, toTu, toCons, toNil, toNm, ixD, atI, ixN, asL, asTu, min2D, max2D, intD, Dd.d, sgD]) fun _ => orT_of (a := false) (b := false) (by simp [op2, opT, nmP, nmW, cons2, Cell.got, callD, lenD, mkT, mkL, addD, addI, subD, modD, fdivD, eqD_int, neD_int, ltD, leD, gtD, geD, asB, truD, notV, andV, orV, notT, orT, andT, shs, negV, negD, isD, isntD, isNone, isiB, toTu, toCons, toNil, toNm, ixD, atI, ixN, asL, asTu, min2D, max2D, intD, Dd.d, sgD, neR_int, l1]) fun _ => opT_is (x := sgD s) (y := .str "\n") (by simp [op2, opT, nmP, nmW, cons2, Cell.got, callD, lenD, mkT, mkL, addD, addI, subD, modD, fdivD, eqD_int, neD_int, ltD, leD, gtD, geD, asB, truD, notV, andV, orV, notT, orT, andT, shs, negV, negD, isD, isntD, isNone, isiB, toTu, toCons, toNil, toNm, ixD, atI, ixN, asL, asTu, min2D, max2D, intD, Dd.d]) rfl (nl_sg hx)) (fun z => by cases z) fun _ => ?_
      refine rs_if (b := false) (by simp [op2, opT, nmP, nmW, cons2, Cell.got, callD, lenD, mkT, mkL, addD, addI, subD, modD, fdivD, eqD_int, neD_int, ltD, leD, gtD, geD, asB, truD, notV, andV, orV, notT, orT, andT, shs, negV, negD, isD, isntD, isNone, isiB, toTu, toCons, toNil, toNm, ixD, atI, ixN, asL, asTu, min2D, max2D, intD, Dd.d, xw_change_put]) (fun z => by cases z) fun _ => ?_
      refine rs_if (b := decide (p < cs.length)) (by simp [op2, opT, nmP, nmW, cons2, Cell.got, callD, lenD, mkT, mkL, addD, addI, subD, modD, fdivD, eqD_int, neD_int, ltD, leD, gtD, geD, asB, truD, notV, andV, orV, notT, orT, andT, shs, negV, negD, isD, isntD, isNone, isiB, toTu, toCons, toNil, toNm, ixD, atI, ixN, asL, asTu, min2D, max2D, intD, hle, ht, hln]) (fun z => ?_) fun z => ?_
      · rw [Dd.step, if_pos ⟨h, of_decide_eq_true z, hx⟩]
        exact run_ret (mkT_of (xs := [sgD s, .int ((p : Int) + 1)]) (by simp [op2, opT, nmP, nmW, cons2, Cell.got, callD, lenD, mkT, mkL, addD, addI, subD, modD, fdivD, eqD_int, neD_int, ltD, leD, gtD, geD, asB, truD, notV, andV, orV, notT, orT, andT, shs, negV, negD, isD, isntD, isNone, isiB, toTu, toCons, toNil, toNm, ixD, atI, ixN, asL, asTu, min2D, max2D, intD, Dd.d])) (thn_rt (thn_rt (ret_ok (Nat.le_of_ble_eq_true rfl) (by show _ = PyData.tuple [_, .int ((p + 1 : Nat) : Int)]; rw [Int.natCast_succ]; try rfl))))
      · rw [Dd.step, if_neg (fun y => of_decide_eq_false z y.2.1)]
        exact run_ret rfl (thn_rt (ret_ok (Nat.le_of_ble_eq_true rfl) rfl))
  | keep q =>
    refine step_go (w := .str "keep") (q := q) (rest := []) (c := .none) rfl (.inl rfl) (fun h => ?_) fun h => ?_
    · rw [Dd.step, if_neg (fun z => h z.1)]
      rfl
    · refine rs_if (b := false) (orT_of (a := false) (b := false) (by simp [op2, opT, nmP, nmW, cons2, Cell.got, callD, lenD, mkT, mkL, addD, addI, subD, modD, fdivD, eqD_int, neD_int, ltD, leD, gtD, geD, asB, truD, notV, andV, orV, notT, orT, andT, shs, negV, negD, isD, isntD, isNone, isiB, toTu, toCons, toNil, toNm, ixD, atI, ixN, asL, asTu, min2D, max2D, intD, Dd.d, xw_keep_put]) fun _ => by simp [op2, opT, nmP, nmW, cons2, Cell.got, callD, lenD, mkT, mkL, addD, addI, subD, modD, fdivD, eqD_int, neD_int, ltD, leD, gtD, geD, asB, truD, notV, andV, orV, notT, orT, andT, shs, negV, negD, isD, isntD, isNone, isiB, toTu, toCons, toNil, toNm, ixD, atI, ixN, asL, asTu, min2D, max2D, intD, Dd.d, xw_keep_change]) (fun z => by cases z) fun _ => ?_
      refine rs_if (b := !decide (p < cs.length)) (orT_of (a := false) (b := !decide (p < cs.length)) (by simp [op2, opT, nmP, nmW, cons2, Cell.got, callD, lenD, mkT, mkL, addD, addI, subD, modD, fdivD, eqD_int, neD_int, ltD, leD, gtD, geD, asB, truD, notV, andV, orV, notT, orT, andT, shs, negV, negD, isD, isntD, isNone, isiB, toTu, toCons, toNil, toNm, ixD, atI, ixN, asL, asTu, min2D, max2D, intD, Dd.d, neR_int]) fun _ => ?_) (fun z => ?_) fun z => ?_
      · have : (!decide (p < cs.length)) = ((!decide (p < cs.length)) || false) := by simp
        rw [this]
        refine orT_of (by simp [op2, opT, nmP, nmW, cons2, Cell.got, callD, lenD, mkT, mkL, addD, addI, subD, modD, fdivD, eqD_int, neD_int, ltD, leD, gtD, geD, asB, truD, notV, andV, orV, notT, orT, andT, shs, negV, negD, isD, isntD, isNone, isiB, toTu, toCons, toNil, toNm, ixD, atI, ixN, asL, asTu, min2D, max2D, intD, hle, ht, hln, egn]) fun _ => opT_is (x := .str "keep") (y := .tuple [.str "keep", .str "cut"]) (by simp [op2, opT, nmP, nmW, cons2, Cell.got, callD, lenD, mkT, mkL, addD, addI, subD, modD, fdivD, eqD_int, neD_int, ltD, leD, gtD, geD, asB, truD, notV, andV, orV, notT, orT, andT, shs, negV, negD, isD, isntD, isNone, isiB, toTu, toCons, toNil, toNm, ixD, atI, ixN, asL, asTu, min2D, max2D, intD, Dd.d]) rfl ?_
        rw [ninR_str tx_keep tx_keep tx_cut]
        rfl
      · rw [Dd.step, if_neg (fun y => by have := y.2; simp [this] at z)]
        exact run_ret rfl (thn_rt (ret_ok (Nat.le_of_ble_eq_true rfl) rfl))
      · have hp : p < cs.length := by simpa using z
        rw [Dd.step, if_pos ⟨h, hp⟩]
        refine run_ret (mkT_of (xs := [sgD (cs.getD p 0), .int ((p : Int) + 1)]) (cons2_is (op2_is (x := sgD (cs.getD p 0)) (y := .int 1) (op2_is (x := .str (txt cs)) (y := .int (p : Nat)) rfl rfl (ix_txt hp (by omega))) (by simp [op2, opT, nmP, nmW, cons2, Cell.got, callD, lenD, mkT, mkL, addD, addI, subD, modD, fdivD, eqD_int, neD_int, ltD, leD, gtD, geD, asB, truD, notV, andV, orV, notT, orT, andT, shs, negV, negD, isD, isntD, isNone, isiB, toTu, toCons, toNil, toNm, ixD, atI, ixN, asL, asTu, min2D, max2D, intD, Dd.d, xw_keep_keep]) rfl) (cons2_is (d := .int ((p : Int) + 1)) (by simp [op2, opT, nmP, nmW, cons2, Cell.got, callD, lenD, mkT, mkL, addD, addI, subD, modD, fdivD, eqD_int, neD_int, ltD, leD, gtD, geD, asB, truD, notV, andV, orV, notT, orT, andT, shs, negV, negD, isD, isntD, isNone, isiB, toTu, toCons, toNil, toNm, ixD, atI, ixN, asL, asTu, min2D, max2D, intD]) rfl))) (ret_ok (Nat.le_of_ble_eq_true rfl) (by show _ = PyData.tuple [_, .int ((p + 1 : Nat) : Int)]; rw [Int.natCast_succ]; try rfl))
  | cut q =>
    refine step_go (w := .str "cut") (q := q) (rest := []) (c := .none) rfl (.inl rfl) (fun h => ?_) fun h => ?_
    · rw [Dd.step, if_neg (fun z => h z.1)]
      rfl
    · refine rs_if (b := false) (orT_of (a := false) (b := false) (by simp [op2, opT, nmP, nmW, cons2, Cell.got, callD, lenD, mkT, mkL, addD, addI, subD, modD, fdivD, eqD_int, neD_int, ltD, leD, gtD, geD, asB, truD, notV, andV, orV, notT, orT, andT, shs, negV, negD, isD, isntD, isNone, isiB, toTu, toCons, toNil, toNm, ixD, atI, ixN, asL, asTu, min2D, max2D, intD, Dd.d, xw_cut_put]) fun _ => by simp [op2, opT, nmP, nmW, cons2, Cell.got, callD, lenD, mkT, mkL, addD, addI, subD, modD, fdivD, eqD_int, neD_int, ltD, leD, gtD, geD, asB, truD, notV, andV, orV, notT, orT, andT, shs, negV, negD, isD, isntD, isNone, isiB, toTu, toCons, toNil, toNm, ixD, atI, ixN, asL, asTu, min2D, max2D, intD, Dd.d, xw_cut_change]) (fun z => by cases z) fun _ => ?_
      refine rs_if (b := !decide (p < cs.length)) (orT_of (a := false) (b := !decide (p < cs.length)) (by simp [op2, opT, nmP, nmW, cons2, Cell.got, callD, lenD, mkT, mkL, addD, addI, subD, modD, fdivD, eqD_int, neD_int, ltD, leD, gtD, geD, asB, truD, notV, andV, orV, notT, orT, andT, shs, negV, negD, isD, isntD, isNone, isiB, toTu, toCons, toNil, toNm, ixD, atI, ixN, asL, asTu, min2D, max2D, intD, Dd.d, neR_int]) fun _ => ?_) (fun z => ?_) fun z => ?_
      · have : (!decide (p < cs.length)) = ((!decide (p < cs.length)) || false) := by simp
        rw [this]
        refine orT_of (by simp [op2, opT, nmP, nmW, cons2, Cell.got, callD, lenD, mkT, mkL, addD, addI, subD, modD, fdivD, eqD_int, neD_int, ltD, leD, gtD, geD, asB, truD, notV, andV, orV, notT, orT, andT, shs, negV, negD, isD, isntD, isNone, isiB, toTu, toCons, toNil, toNm, ixD, atI, ixN, asL, asTu, min2D, max2D, intD, hle, ht, hln, egn]) fun _ => opT_is (x := .str "cut") (y := .tuple [.str "keep", .str "cut"]) (by simp [op2, opT, nmP, nmW, cons2, Cell.got, callD, lenD, mkT, mkL, addD, addI, subD, modD, fdivD, eqD_int, neD_int, ltD, leD, gtD, geD, asB, truD, notV, andV, orV, notT, orT, andT, shs, negV, negD, isD, isntD, isNone, isiB, toTu, toCons, toNil, toNm, ixD, atI, ixN, asL, asTu, min2D, max2D, intD, Dd.d]) rfl ?_
        rw [ninR_str tx_cut tx_keep tx_cut]
        rfl
      · rw [Dd.step, if_neg (fun y => by have := y.2; simp [this] at z)]
        exact run_ret rfl (thn_rt (ret_ok (Nat.le_of_ble_eq_true rfl) rfl))
      · have hp : p < cs.length := by simpa using z
        rw [Dd.step, if_pos ⟨h, hp⟩]
        refine run_ret (mkT_of (xs := [.str (txt []), .int ((p : Int) + 1)]) (cons2_is (op2_is (x := sgD (cs.getD p 0)) (y := .int 0) (op2_is (x := .str (txt cs)) (y := .int (p : Nat)) rfl rfl (ix_txt hp (by omega))) (by simp [op2, opT, nmP, nmW, cons2, Cell.got, callD, lenD, mkT, mkL, addD, addI, subD, modD, fdivD, eqD_int, neD_int, ltD, leD, gtD, geD, asB, truD, notV, andV, orV, notT, orT, andT, shs, negV, negD, isD, isntD, isNone, isiB, toTu, toCons, toNil, toNm, ixD, atI, ixN, asL, asTu, min2D, max2D, intD, Dd.d, xw_cut_keep]) rfl) (cons2_is (d := .int ((p : Int) + 1)) (by simp [op2, opT, nmP, nmW, cons2, Cell.got, callD, lenD, mkT, mkL, addD, addI, subD, modD, fdivD, eqD_int, neD_int, ltD, leD, gtD, geD, asB, truD, notV, andV, orV, notT, orT, andT, shs, negV, negD, isD, isntD, isNone, isiB, toTu, toCons, toNil, toNm, ixD, atI, ixN, asL, asTu, min2D, max2D, intD]) rfl))) (ret_ok (Nat.le_of_ble_eq_true rfl) (by show _ = PyData.tuple [_, .int ((p + 1 : Nat) : Int)]; rw [Int.natCast_succ]; try rfl))
end K5

namespace K5
open PySem L2 DS
theorem rok {k : Nat} {d : D} {ρ : Nv} (h : k ≤ ρ.length) : Ret k false (· = d) (.rt d false ρ) := ret_ok h rfl
theorem bad_list (xs : List D) (hs : selfOk 20 (.list xs) = true) : Bad (.list xs) := by
  refine ⟨fun p => sem_eq rfl ?_, fun p cs hl => sem_eq rfl ?_, hs⟩
  · unfold g_is_deed
    exact rs_if (b := true) (orT_of (a := true) (b := true) (by simp [op2, opT, nmP, nmW, cons2, Cell.got, callD, lenD, mkT, mkL, addD, addI, subD, modD, fdivD, eqD_int, neD_int, ltD, leD, gtD, geD, asB, truD, notV, andV, orV, notT, orT, andT, shs, negV, negD, isD, isntD, isNone, isiB, toTu, toCons, toNil, toNm, ixD, atI, ixN, asL, asTu, min2D, max2D, intD]) fun z => by cases z) (fun _ => run_ret rfl (thn_rt (rok (Nat.le_of_ble_eq_true rfl)))) fun z => by cases z
  · unfold g__law_step
    exact rs_if (b := true) (orT_of (a := true) (b := true) (by simp [op2, opT, nmP, nmW, cons2, Cell.got, callD, lenD, mkT, mkL, addD, addI, subD, modD, fdivD, eqD_int, neD_int, ltD, leD, gtD, geD, asB, truD, notV, andV, orV, notT, orT, andT, shs, negV, negD, isD, isntD, isNone, isiB, toTu, toCons, toNil, toNm, ixD, atI, ixN, asL, asTu, min2D, max2D, intD]) fun z => by cases z) (fun _ => run_ret rfl (thn_rt (rok (Nat.le_of_ble_eq_true rfl)))) fun z => by cases z
theorem bad_none : Bad .none := by
  refine ⟨fun p => sem_eq rfl ?_, fun p cs hl => sem_eq rfl ?_, rfl⟩
  · unfold g_is_deed
    exact rs_if (b := true) (orT_of (a := true) (b := true) (by simp [op2, opT, nmP, nmW, cons2, Cell.got, callD, lenD, mkT, mkL, addD, addI, subD, modD, fdivD, eqD_int, neD_int, ltD, leD, gtD, geD, asB, truD, notV, andV, orV, notT, orT, andT, shs, negV, negD, isD, isntD, isNone, isiB, toTu, toCons, toNil, toNm, ixD, atI, ixN, asL, asTu, min2D, max2D, intD]) fun z => by cases z) (fun _ => run_ret rfl (thn_rt (rok (Nat.le_of_ble_eq_true rfl)))) fun z => by cases z
  · unfold g__law_step
    exact rs_if (b := true) (orT_of (a := true) (b := true) (by simp [op2, opT, nmP, nmW, cons2, Cell.got, callD, lenD, mkT, mkL, addD, addI, subD, modD, fdivD, eqD_int, neD_int, ltD, leD, gtD, geD, asB, truD, notV, andV, orV, notT, orT, andT, shs, negV, negD, isD, isntD, isNone, isiB, toTu, toCons, toNil, toNm, ixD, atI, ixN, asL, asTu, min2D, max2D, intD]) fun z => by cases z) (fun _ => run_ret rfl (thn_rt (rok (Nat.le_of_ble_eq_true rfl)))) fun z => by cases z
theorem bad_nil : Bad (.tuple []) := by
  refine ⟨fun p => sem_eq rfl ?_, fun p cs hl => sem_eq rfl ?_, rfl⟩
  · unfold g_is_deed
    exact rs_if (b := true) (orT_of (a := false) (b := true) (by simp [op2, opT, nmP, nmW, cons2, Cell.got, callD, lenD, mkT, mkL, addD, addI, subD, modD, fdivD, eqD_int, neD_int, ltD, leD, gtD, geD, asB, truD, notV, andV, orV, notT, orT, andT, shs, negV, negD, isD, isntD, isNone, isiB, toTu, toCons, toNil, toNm, ixD, atI, ixN, asL, asTu, min2D, max2D, intD]) fun _ => opT_is (x := .int 0) (y := .tuple [.int 2, .int 3]) (by simp [op2, opT, nmP, nmW, cons2, Cell.got, callD, lenD, mkT, mkL, addD, addI, subD, modD, fdivD, eqD_int, neD_int, ltD, leD, gtD, geD, asB, truD, notV, andV, orV, notT, orT, andT, shs, negV, negD, isD, isntD, isNone, isiB, toTu, toCons, toNil, toNm, ixD, atI, ixN, asL, asTu, min2D, max2D, intD]) rfl (by rw [in23]; rfl)) (fun _ => run_ret rfl (thn_rt (rok (Nat.le_of_ble_eq_true rfl)))) fun z => by cases z
  · unfold g__law_step
    exact rs_if (b := true) (orT_of (a := false) (b := true) (by simp [op2, opT, nmP, nmW, cons2, Cell.got, callD, lenD, mkT, mkL, addD, addI, subD, modD, fdivD, eqD_int, neD_int, ltD, leD, gtD, geD, asB, truD, notV, andV, orV, notT, orT, andT, shs, negV, negD, isD, isntD, isNone, isiB, toTu, toCons, toNil, toNm, ixD, atI, ixN, asL, asTu, min2D, max2D, intD]) fun _ => by simp [op2, opT, nmP, nmW, cons2, Cell.got, callD, lenD, mkT, mkL, addD, addI, subD, modD, fdivD, eqD_int, neD_int, ltD, leD, gtD, geD, asB, truD, notV, andV, orV, notT, orT, andT, shs, negV, negD, isD, isntD, isNone, isiB, toTu, toCons, toNil, toNm, ixD, atI, ixN, asL, asTu, min2D, max2D, intD]) (fun _ => run_ret rfl (thn_rt (rok (Nat.le_of_ble_eq_true rfl)))) fun z => by cases z
theorem bad_one (d : D) (hs : selfOk 20 (.tuple [d]) = true) : Bad (.tuple [d]) := by
  refine ⟨fun p => sem_eq rfl ?_, fun p cs hl => sem_eq rfl ?_, hs⟩
  · unfold g_is_deed
    exact rs_if (b := true) (orT_of (a := false) (b := true) (by simp [op2, opT, nmP, nmW, cons2, Cell.got, callD, lenD, mkT, mkL, addD, addI, subD, modD, fdivD, eqD_int, neD_int, ltD, leD, gtD, geD, asB, truD, notV, andV, orV, notT, orT, andT, shs, negV, negD, isD, isntD, isNone, isiB, toTu, toCons, toNil, toNm, ixD, atI, ixN, asL, asTu, min2D, max2D, intD]) fun _ => opT_is (x := .int 1) (y := .tuple [.int 2, .int 3]) (by simp [op2, opT, nmP, nmW, cons2, Cell.got, callD, lenD, mkT, mkL, addD, addI, subD, modD, fdivD, eqD_int, neD_int, ltD, leD, gtD, geD, asB, truD, notV, andV, orV, notT, orT, andT, shs, negV, negD, isD, isntD, isNone, isiB, toTu, toCons, toNil, toNm, ixD, atI, ixN, asL, asTu, min2D, max2D, intD]) rfl (by rw [in23]; rfl)) (fun _ => run_ret rfl (thn_rt (rok (Nat.le_of_ble_eq_true rfl)))) fun z => by cases z
  · unfold g__law_step
    exact rs_if (b := true) (orT_of (a := false) (b := true) (by simp [op2, opT, nmP, nmW, cons2, Cell.got, callD, lenD, mkT, mkL, addD, addI, subD, modD, fdivD, eqD_int, neD_int, ltD, leD, gtD, geD, asB, truD, notV, andV, orV, notT, orT, andT, shs, negV, negD, isD, isntD, isNone, isiB, toTu, toCons, toNil, toNm, ixD, atI, ixN, asL, asTu, min2D, max2D, intD]) fun _ => by simp [op2, opT, nmP, nmW, cons2, Cell.got, callD, lenD, mkT, mkL, addD, addI, subD, modD, fdivD, eqD_int, neD_int, ltD, leD, gtD, geD, asB, truD, notV, andV, orV, notT, orT, andT, shs, negV, negD, isD, isntD, isNone, isiB, toTu, toCons, toNil, toNm, ixD, atI, ixN, asL, asTu, min2D, max2D, intD]) (fun _ => run_ret rfl (thn_rt (rok (Nat.le_of_ble_eq_true rfl)))) fun z => by cases z
/-! two or three parts, the place none -/
theorem not_place (c : D) (h : (isiB "int" c && !isiB "bool" c) = false) : sem_is_place [c] = some (.ret (.bool false) false []) := by
  refine sem_eq rfl ?_
  unfold g_is_place
  refine run_ret (d := .bool false) ?_ (rok (Nat.le_of_ble_eq_true rfl))
  rw [← h]
  refine andV_of (a := isiB "int" c) (b := !isiB "bool" c) rfl fun _ => ?_
  cases c <;> rfl
theorem isi_of {f : Nv → Option D} {ρ : Nv} {t : String} {c : D} (h : f ρ = some c) : (fun ρ => ((fun ρ => (f ρ).map fun d => PyData.bool (isiB t d)) ρ).bind truD) ρ = some (isiB t c) := by
  show Option.bind (Option.map _ (f ρ)) _ = _
  rw [h]
  rfl
theorem bad_place (w : Str) (c : D) (rest : List D) (hr : rest = [] ∨ ∃ x, rest = [x]) (h : (isiB "int" c && !isiB "bool" c) = false) (hs : selfOk 20 (.tuple (.str w :: c :: rest)) = true) : Bad (.tuple (.str w :: c :: rest)) := by
  refine ⟨fun p => sem_eq rfl ?_, fun p cs hl => sem_eq rfl ?_, hs⟩
  · unfold g_is_deed
    rcases hr with rfl | ⟨x, rfl⟩
    · refine rs_if (b := false) (orT_of (a := false) (b := false) (by simp [op2, opT, nmP, nmW, cons2, Cell.got, callD, lenD, mkT, mkL, addD, addI, subD, modD, fdivD, eqD_int, neD_int, ltD, leD, gtD, geD, asB, truD, notV, andV, orV, notT, orT, andT, shs, negV, negD, isD, isntD, isNone, isiB, toTu, toCons, toNil, toNm, ixD, atI, ixN, asL, asTu, min2D, max2D, intD]) fun _ => opT_is (x := .int 2) (y := .tuple [.int 2, .int 3]) (by simp [op2, opT, nmP, nmW, cons2, Cell.got, callD, lenD, mkT, mkL, addD, addI, subD, modD, fdivD, eqD_int, neD_int, ltD, leD, gtD, geD, asB, truD, notV, andV, orV, notT, orT, andT, shs, negV, negD, isD, isntD, isNone, isiB, toTu, toCons, toNil, toNm, ixD, atI, ixN, asL, asTu, min2D, max2D, intD]) rfl (by rw [in23]; rfl)) (fun z => by cases z) fun _ => ?_
      exact rs_if (b := true) (orT_of (a := false) (b := true) (by simp [op2, opT, nmP, nmW, cons2, Cell.got, callD, lenD, mkT, mkL, addD, addI, subD, modD, fdivD, eqD_int, neD_int, ltD, leD, gtD, geD, asB, truD, notV, andV, orV, notT, orT, andT, shs, negV, negD, isD, isntD, isNone, isiB, toTu, toCons, toNil, toNm, ixD, atI, ixN, asL, asTu, min2D, max2D, intD]) fun _ => orT_of (a := true) (b := true) (notT_of (a := false) (trT_of (d := .bool false) (callS_of (ds := [c]) (by simp [op2, opT, nmP, nmW, cons2, Cell.got, callD, lenD, mkT, mkL, addD, addI, subD, modD, fdivD, eqD_int, neD_int, ltD, leD, gtD, geD, asB, truD, notV, andV, orV, notT, orT, andT, shs, negV, negD, isD, isntD, isNone, isiB, toTu, toCons, toNil, toNm, ixD, atI, ixN, asL, asTu, min2D, max2D, intD]) (not_place c h)) rfl)) fun z => by cases z) (fun _ => run_ret rfl (thn_rt (rok (Nat.le_of_ble_eq_true rfl)))) fun z => by cases z
    · refine rs_if (b := false) (orT_of (a := false) (b := false) (by simp [op2, opT, nmP, nmW, cons2, Cell.got, callD, lenD, mkT, mkL, addD, addI, subD, modD, fdivD, eqD_int, neD_int, ltD, leD, gtD, geD, asB, truD, notV, andV, orV, notT, orT, andT, shs, negV, negD, isD, isntD, isNone, isiB, toTu, toCons, toNil, toNm, ixD, atI, ixN, asL, asTu, min2D, max2D, intD]) fun _ => opT_is (x := .int 3) (y := .tuple [.int 2, .int 3]) (by simp [op2, opT, nmP, nmW, cons2, Cell.got, callD, lenD, mkT, mkL, addD, addI, subD, modD, fdivD, eqD_int, neD_int, ltD, leD, gtD, geD, asB, truD, notV, andV, orV, notT, orT, andT, shs, negV, negD, isD, isntD, isNone, isiB, toTu, toCons, toNil, toNm, ixD, atI, ixN, asL, asTu, min2D, max2D, intD]) rfl (by rw [in23]; rfl)) (fun z => by cases z) fun _ => ?_
      exact rs_if (b := true) (orT_of (a := false) (b := true) (by simp [op2, opT, nmP, nmW, cons2, Cell.got, callD, lenD, mkT, mkL, addD, addI, subD, modD, fdivD, eqD_int, neD_int, ltD, leD, gtD, geD, asB, truD, notV, andV, orV, notT, orT, andT, shs, negV, negD, isD, isntD, isNone, isiB, toTu, toCons, toNil, toNm, ixD, atI, ixN, asL, asTu, min2D, max2D, intD]) fun _ => orT_of (a := true) (b := true) (notT_of (a := false) (trT_of (d := .bool false) (callS_of (ds := [c]) (by simp [op2, opT, nmP, nmW, cons2, Cell.got, callD, lenD, mkT, mkL, addD, addI, subD, modD, fdivD, eqD_int, neD_int, ltD, leD, gtD, geD, asB, truD, notV, andV, orV, notT, orT, andT, shs, negV, negD, isD, isntD, isNone, isiB, toTu, toCons, toNil, toNm, ixD, atI, ixN, asL, asTu, min2D, max2D, intD]) (not_place c h)) rfl)) fun z => by cases z) (fun _ => run_ret rfl (thn_rt (rok (Nat.le_of_ble_eq_true rfl)))) fun z => by cases z
  · unfold g__law_step
    have t2 : orT (notT (fun ρ => ((fun ρ => ((op2 ixD (nmW 0) (fun _ => some (.int 1))) ρ).map fun d => .bool (isiB "int" d)) ρ).bind truD)) (orT (fun ρ => ((fun ρ => ((op2 ixD (nmW 0) (fun _ => some (.int 1))) ρ).map fun d => .bool (isiB "bool" d)) ρ).bind truD) (opT neRD (op2 ixD (nmW 0) (fun _ => some (.int 1))) (nmW 1))) (shs [.tuple (.str w :: c :: rest), .int (p : Nat), .str (txt cs)] 0) = some true := by
      have e1 : op2 ixD (nmW 0) (fun _ => some (.int 1)) (shs [.tuple (.str w :: c :: rest), .int (p : Nat), .str (txt cs)] 0) = some c := by
        rcases hr with rfl | ⟨x, rfl⟩ <;> simp [op2, opT, nmP, nmW, cons2, Cell.got, callD, lenD, mkT, mkL, addD, addI, subD, modD, fdivD, eqD_int, neD_int, ltD, leD, gtD, geD, asB, truD, notV, andV, orV, notT, orT, andT, shs, negV, negD, isD, isntD, isNone, isiB, toTu, toCons, toNil, toNm, ixD, atI, ixN, asL, asTu, min2D, max2D, intD]
      refine Eq.trans (orT_of (a := !isiB "int" c) (b := isiB "bool" c || true) (notT_of (isi_of e1)) fun h1 => orT_of (a := isiB "bool" c) (b := true) (isi_of e1) fun h2 => ?_) (by simp)
      rw [h2] at h
      have h1' : isiB "int" c = true := by simpa using h1
      rw [h1'] at h
      cases h
    rcases hr with rfl | ⟨x, rfl⟩
    · refine rs_if (b := false) (by simp [op2, opT, nmP, nmW, cons2, Cell.got, callD, lenD, mkT, mkL, addD, addI, subD, modD, fdivD, eqD_int, neD_int, ltD, leD, gtD, geD, asB, truD, notV, andV, orV, notT, orT, andT, shs, negV, negD, isD, isntD, isNone, isiB, toTu, toCons, toNil, toNm, ixD, atI, ixN, asL, asTu, min2D, max2D, intD]) (fun z => by cases z) fun _ => ?_
      exact rs_if (b := true) t2 (fun _ => run_ret rfl (thn_rt (rok (Nat.le_of_ble_eq_true rfl)))) fun z => by cases z
    · refine rs_if (b := false) (by simp [op2, opT, nmP, nmW, cons2, Cell.got, callD, lenD, mkT, mkL, addD, addI, subD, modD, fdivD, eqD_int, neD_int, ltD, leD, gtD, geD, asB, truD, notV, andV, orV, notT, orT, andT, shs, negV, negD, isD, isntD, isNone, isiB, toTu, toCons, toNil, toNm, ixD, atI, ixN, asL, asTu, min2D, max2D, intD]) (fun z => by cases z) fun _ => ?_
      exact rs_if (b := true) t2 (fun _ => run_ret rfl (thn_rt (rok (Nat.le_of_ble_eq_true rfl)))) fun z => by cases z
theorem bad_neg : Bad (.tuple [.str "keep", .int (-1)]) := by
  refine ⟨fun p => sem_eq rfl ?_, fun p cs hl => sem_eq rfl ?_, by decide +kernel⟩
  · unfold g_is_deed
    refine rs_if (b := false) (orT_of (a := false) (b := false) (by simp [op2, opT, nmP, nmW, cons2, Cell.got, callD, lenD, mkT, mkL, addD, addI, subD, modD, fdivD, eqD_int, neD_int, ltD, leD, gtD, geD, asB, truD, notV, andV, orV, notT, orT, andT, shs, negV, negD, isD, isntD, isNone, isiB, toTu, toCons, toNil, toNm, ixD, atI, ixN, asL, asTu, min2D, max2D, intD]) fun _ => opT_is (x := .int 2) (y := .tuple [.int 2, .int 3]) (by simp [op2, opT, nmP, nmW, cons2, Cell.got, callD, lenD, mkT, mkL, addD, addI, subD, modD, fdivD, eqD_int, neD_int, ltD, leD, gtD, geD, asB, truD, notV, andV, orV, notT, orT, andT, shs, negV, negD, isD, isntD, isNone, isiB, toTu, toCons, toNil, toNm, ixD, atI, ixN, asL, asTu, min2D, max2D, intD]) rfl (by rw [in23]; rfl)) (fun z => by cases z) fun _ => ?_
    have pl : sem_is_place [.int (-1)] = some (.ret (.bool true) false []) := by
      refine sem_eq rfl ?_
      unfold g_is_place
      exact run_ret (d := .bool true) (by simp [op2, opT, nmP, nmW, cons2, Cell.got, callD, lenD, mkT, mkL, addD, addI, subD, modD, fdivD, eqD_int, neD_int, ltD, leD, gtD, geD, asB, truD, notV, andV, orV, notT, orT, andT, shs, negV, negD, isD, isntD, isNone, isiB, toTu, toCons, toNil, toNm, ixD, atI, ixN, asL, asTu, min2D, max2D, intD]) (ret_ok (Nat.le_of_ble_eq_true rfl) rfl)
    exact rs_if (b := true) (orT_of (a := false) (b := true) (by simp [op2, opT, nmP, nmW, cons2, Cell.got, callD, lenD, mkT, mkL, addD, addI, subD, modD, fdivD, eqD_int, neD_int, ltD, leD, gtD, geD, asB, truD, notV, andV, orV, notT, orT, andT, shs, negV, negD, isD, isntD, isNone, isiB, toTu, toCons, toNil, toNm, ixD, atI, ixN, asL, asTu, min2D, max2D, intD]) fun _ => orT_of (a := false) (b := true) (notT_of (a := true) (trT_of (d := .bool true) (callS_of (ds := [.int (-1)]) (by simp [op2, opT, nmP, nmW, cons2, Cell.got, callD, lenD, mkT, mkL, addD, addI, subD, modD, fdivD, eqD_int, neD_int, ltD, leD, gtD, geD, asB, truD, notV, andV, orV, notT, orT, andT, shs, negV, negD, isD, isntD, isNone, isiB, toTu, toCons, toNil, toNm, ixD, atI, ixN, asL, asTu, min2D, max2D, intD]) pl) rfl)) fun _ => opT_is (x := .int (-1)) (y := .int (p : Nat)) (by simp [op2, opT, nmP, nmW, cons2, Cell.got, callD, lenD, mkT, mkL, addD, addI, subD, modD, fdivD, eqD_int, neD_int, ltD, leD, gtD, geD, asB, truD, notV, andV, orV, notT, orT, andT, shs, negV, negD, isD, isntD, isNone, isiB, toTu, toCons, toNil, toNm, ixD, atI, ixN, asL, asTu, min2D, max2D, intD]) (by simp [op2, opT, nmP, nmW, cons2, Cell.got, callD, lenD, mkT, mkL, addD, addI, subD, modD, fdivD, eqD_int, neD_int, ltD, leD, gtD, geD, asB, truD, notV, andV, orV, notT, orT, andT, shs, negV, negD, isD, isntD, isNone, isiB, toTu, toCons, toNil, toNm, ixD, atI, ixN, asL, asTu, min2D, max2D, intD]) (by rw [neD_int, decide_eq_false (by omega)]; rfl)) (fun _ => run_ret rfl (thn_rt (rok (Nat.le_of_ble_eq_true rfl)))) fun z => by cases z
  · unfold g__law_step
    refine rs_if (b := false) (by simp [op2, opT, nmP, nmW, cons2, Cell.got, callD, lenD, mkT, mkL, addD, addI, subD, modD, fdivD, eqD_int, neD_int, ltD, leD, gtD, geD, asB, truD, notV, andV, orV, notT, orT, andT, shs, negV, negD, isD, isntD, isNone, isiB, toTu, toCons, toNil, toNm, ixD, atI, ixN, asL, asTu, min2D, max2D, intD]) (fun z => by cases z) fun _ => ?_
    exact rs_if (b := true) (orT_of (a := false) (b := true) (by simp [op2, opT, nmP, nmW, cons2, Cell.got, callD, lenD, mkT, mkL, addD, addI, subD, modD, fdivD, eqD_int, neD_int, ltD, leD, gtD, geD, asB, truD, notV, andV, orV, notT, orT, andT, shs, negV, negD, isD, isntD, isNone, isiB, toTu, toCons, toNil, toNm, ixD, atI, ixN, asL, asTu, min2D, max2D, intD]) fun _ => orT_of (a := false) (b := true) (by simp [op2, opT, nmP, nmW, cons2, Cell.got, callD, lenD, mkT, mkL, addD, addI, subD, modD, fdivD, eqD_int, neD_int, ltD, leD, gtD, geD, asB, truD, notV, andV, orV, notT, orT, andT, shs, negV, negD, isD, isntD, isNone, isiB, toTu, toCons, toNil, toNm, ixD, atI, ixN, asL, asTu, min2D, max2D, intD]) fun _ => opT_is (x := .int (-1)) (y := .int (p : Nat)) (by simp [op2, opT, nmP, nmW, cons2, Cell.got, callD, lenD, mkT, mkL, addD, addI, subD, modD, fdivD, eqD_int, neD_int, ltD, leD, gtD, geD, asB, truD, notV, andV, orV, notT, orT, andT, shs, negV, negD, isD, isntD, isNone, isiB, toTu, toCons, toNil, toNm, ixD, atI, ixN, asL, asTu, min2D, max2D, intD]) (by simp [op2, opT, nmP, nmW, cons2, Cell.got, callD, lenD, mkT, mkL, addD, addI, subD, modD, fdivD, eqD_int, neD_int, ltD, leD, gtD, geD, asB, truD, notV, andV, orV, notT, orT, andT, shs, negV, negD, isD, isntD, isNone, isiB, toTu, toCons, toNil, toNm, ixD, atI, ixN, asL, asTu, min2D, max2D, intD]) (by rw [neR_int, decide_eq_false (by omega)]; rfl)) (fun _ => run_ret rfl (thn_rt (rok (Nat.le_of_ble_eq_true rfl)))) fun z => by cases z
/-! the word or the third part none -/
theorem deed_go {w : Str} {q p : Nat} {rest : List D} {ψ : D → Prop} (hr : rest = [] ∨ ∃ x, rest = [x]) (h1 : q ≠ p → ψ (.bool false))
    (h2 : q = p → Run (seqS (ifS (opT eqD (callD lenD (cons2 (nmW 0) (fun _ => some []))) (fun _ => some (.int 2)))
      (fun ρ => ((op2 inTD' (op2 ixD (nmW 0) (fun _ => some (.int 0))) (mkT (cons2 (fun _ => some (.str "keep")) (cons2 (fun _ => some (.str "cut")) (fun _ => some []))))) ρ).map fun d => .rt d false ρ)
      (fun ρ => some (.nx ρ)))
    (fun ρ => ((andV (op2 inTD' (op2 ixD (nmW 0) (fun _ => some (.int 0))) (mkT (cons2 (fun _ => some (.str "put")) (cons2 (fun _ => some (.str "change")) (fun _ => some []))))) (callS 1 sem_is_sign (cons2 (op2 ixD (nmW 0) (fun _ => some (.int 2))) (fun _ => some [])))) ρ).map fun d => .rt d false ρ) (shs [.tuple (.str w :: .int (q : Nat) :: rest), .int (p : Nat)] 0)) (Ret 2 false ψ)) :
    Run (g_is_deed (shs [.tuple (.str w :: .int (q : Nat) :: rest), .int (p : Nat)] 0)) (Ret 2 false ψ) := by
  unfold g_is_deed
  have fin : ∀ n : Nat, (n = 2 ∨ n = 3) → True := fun _ _ => trivial
  rcases hr with rfl | ⟨x, rfl⟩
  · refine rs_if (b := false) (orT_of (a := false) (b := false) (by simp [op2, opT, nmP, nmW, cons2, Cell.got, callD, lenD, mkT, mkL, addD, addI, subD, modD, fdivD, eqD_int, neD_int, ltD, leD, gtD, geD, asB, truD, notV, andV, orV, notT, orT, andT, shs, negV, negD, isD, isntD, isNone, isiB, toTu, toCons, toNil, toNm, ixD, atI, ixN, asL, asTu, min2D, max2D, intD]) fun _ => opT_is (x := .int 2) (y := .tuple [.int 2, .int 3]) (by simp [op2, opT, nmP, nmW, cons2, Cell.got, callD, lenD, mkT, mkL, addD, addI, subD, modD, fdivD, eqD_int, neD_int, ltD, leD, gtD, geD, asB, truD, notV, andV, orV, notT, orT, andT, shs, negV, negD, isD, isntD, isNone, isiB, toTu, toCons, toNil, toNm, ixD, atI, ixN, asL, asTu, min2D, max2D, intD]) rfl (by rw [in23]; rfl)) (fun z => by cases z) fun _ => ?_
    refine rs_if (b := !decide (q = p)) (orT_of (a := false) (b := !decide (q = p)) (by simp [op2, opT, nmP, nmW, cons2, Cell.got, callD, lenD, mkT, mkL, addD, addI, subD, modD, fdivD, eqD_int, neD_int, ltD, leD, gtD, geD, asB, truD, notV, andV, orV, notT, orT, andT, shs, negV, negD, isD, isntD, isNone, isiB, toTu, toCons, toNil, toNm, ixD, atI, ixN, asL, asTu, min2D, max2D, intD]) fun _ => orT_of (a := false) (b := !decide (q = p)) (notT_of (a := true) (trT_of (d := .bool true) (callS_of (ds := [.int (q : Nat)]) (by simp [op2, opT, nmP, nmW, cons2, Cell.got, callD, lenD, mkT, mkL, addD, addI, subD, modD, fdivD, eqD_int, neD_int, ltD, leD, gtD, geD, asB, truD, notV, andV, orV, notT, orT, andT, shs, negV, negD, isD, isntD, isNone, isiB, toTu, toCons, toNil, toNm, ixD, atI, ixN, asL, asTu, min2D, max2D, intD]) (is_place_is q)) rfl)) fun _ => opT_is (x := .int (q : Nat)) (y := .int (p : Nat)) (by simp [op2, opT, nmP, nmW, cons2, Cell.got, callD, lenD, mkT, mkL, addD, addI, subD, modD, fdivD, eqD_int, neD_int, ltD, leD, gtD, geD, asB, truD, notV, andV, orV, notT, orT, andT, shs, negV, negD, isD, isntD, isNone, isiB, toTu, toCons, toNil, toNm, ixD, atI, ixN, asL, asTu, min2D, max2D, intD]) (by simp [op2, opT, nmP, nmW, cons2, Cell.got, callD, lenD, mkT, mkL, addD, addI, subD, modD, fdivD, eqD_int, neD_int, ltD, leD, gtD, geD, asB, truD, notV, andV, orV, notT, orT, andT, shs, negV, negD, isD, isntD, isNone, isiB, toTu, toCons, toNil, toNm, ixD, atI, ixN, asL, asTu, min2D, max2D, intD]) (by rw [neD_int, dec_nat])) (fun z => ?_) fun z => ?_
    · exact run_ret rfl (thn_rt (ret_ok (Nat.le_of_ble_eq_true rfl) (h1 (by simpa using z))))
    · exact h2 (by simpa using z)
  · refine rs_if (b := false) (orT_of (a := false) (b := false) (by simp [op2, opT, nmP, nmW, cons2, Cell.got, callD, lenD, mkT, mkL, addD, addI, subD, modD, fdivD, eqD_int, neD_int, ltD, leD, gtD, geD, asB, truD, notV, andV, orV, notT, orT, andT, shs, negV, negD, isD, isntD, isNone, isiB, toTu, toCons, toNil, toNm, ixD, atI, ixN, asL, asTu, min2D, max2D, intD]) fun _ => opT_is (x := .int 3) (y := .tuple [.int 2, .int 3]) (by simp [op2, opT, nmP, nmW, cons2, Cell.got, callD, lenD, mkT, mkL, addD, addI, subD, modD, fdivD, eqD_int, neD_int, ltD, leD, gtD, geD, asB, truD, notV, andV, orV, notT, orT, andT, shs, negV, negD, isD, isntD, isNone, isiB, toTu, toCons, toNil, toNm, ixD, atI, ixN, asL, asTu, min2D, max2D, intD]) rfl (by rw [in23]; rfl)) (fun z => by cases z) fun _ => ?_
    refine rs_if (b := !decide (q = p)) (orT_of (a := false) (b := !decide (q = p)) (by simp [op2, opT, nmP, nmW, cons2, Cell.got, callD, lenD, mkT, mkL, addD, addI, subD, modD, fdivD, eqD_int, neD_int, ltD, leD, gtD, geD, asB, truD, notV, andV, orV, notT, orT, andT, shs, negV, negD, isD, isntD, isNone, isiB, toTu, toCons, toNil, toNm, ixD, atI, ixN, asL, asTu, min2D, max2D, intD]) fun _ => orT_of (a := false) (b := !decide (q = p)) (notT_of (a := true) (trT_of (d := .bool true) (callS_of (ds := [.int (q : Nat)]) (by simp [op2, opT, nmP, nmW, cons2, Cell.got, callD, lenD, mkT, mkL, addD, addI, subD, modD, fdivD, eqD_int, neD_int, ltD, leD, gtD, geD, asB, truD, notV, andV, orV, notT, orT, andT, shs, negV, negD, isD, isntD, isNone, isiB, toTu, toCons, toNil, toNm, ixD, atI, ixN, asL, asTu, min2D, max2D, intD]) (is_place_is q)) rfl)) fun _ => opT_is (x := .int (q : Nat)) (y := .int (p : Nat)) (by simp [op2, opT, nmP, nmW, cons2, Cell.got, callD, lenD, mkT, mkL, addD, addI, subD, modD, fdivD, eqD_int, neD_int, ltD, leD, gtD, geD, asB, truD, notV, andV, orV, notT, orT, andT, shs, negV, negD, isD, isntD, isNone, isiB, toTu, toCons, toNil, toNm, ixD, atI, ixN, asL, asTu, min2D, max2D, intD]) (by simp [op2, opT, nmP, nmW, cons2, Cell.got, callD, lenD, mkT, mkL, addD, addI, subD, modD, fdivD, eqD_int, neD_int, ltD, leD, gtD, geD, asB, truD, notV, andV, orV, notT, orT, andT, shs, negV, negD, isD, isntD, isNone, isiB, toTu, toCons, toNil, toNm, ixD, atI, ixN, asL, asTu, min2D, max2D, intD]) (by rw [neD_int, dec_nat])) (fun z => ?_) fun z => ?_
    · exact run_ret rfl (thn_rt (ret_ok (Nat.le_of_ble_eq_true rfl) (h1 (by simpa using z))))
    · exact h2 (by simpa using z)
theorem bad_word2 (w : Str) (hw : TxOk w) (h1 : w ≠ "keep") (h2 : w ≠ "cut") (q : Nat) : Bad (.tuple [.str w, .int (q : Nat)]) := by
  refine ⟨fun p => sem_eq rfl (deed_go (.inl rfl) (fun _ => rfl) fun _ => ?_), fun p cs hl => sem_eq rfl (step_go (w := .str w) (q := q) (rest := []) (c := .none) rfl (.inl rfl) (fun _ => rfl) fun _ => ?_), by simp [selfOk, hw.2]⟩
  · refine rs_if (b := true) (by simp [op2, opT, nmP, nmW, cons2, Cell.got, callD, lenD, mkT, mkL, addD, addI, subD, modD, fdivD, eqD_int, neD_int, ltD, leD, gtD, geD, asB, truD, notV, andV, orV, notT, orT, andT, shs, negV, negD, isD, isntD, isNone, isiB, toTu, toCons, toNil, toNm, ixD, atI, ixN, asL, asTu, min2D, max2D, intD]) (fun _ => ?_) fun z => by cases z
    refine run_ret (d := .bool false) (op2_is (x := .str w) (y := .tuple [.str "keep", .str "cut"]) (by simp [op2, opT, nmP, nmW, cons2, Cell.got, callD, lenD, mkT, mkL, addD, addI, subD, modD, fdivD, eqD_int, neD_int, ltD, leD, gtD, geD, asB, truD, notV, andV, orV, notT, orT, andT, shs, negV, negD, isD, isntD, isNone, isiB, toTu, toCons, toNil, toNm, ixD, atI, ixN, asL, asTu, min2D, max2D, intD]) rfl ?_) (thn_rt (rok (Nat.le_of_ble_eq_true rfl)))
    rw [in2 hw tx_keep tx_cut, decide_eq_false (fun z => h1 z.symm), decide_eq_false (fun z => h2 z.symm)]
    rfl
  · refine rs_if (b := decide (w = "put") || decide (w = "change")) (orT_of (by simp [op2, opT, nmP, nmW, cons2, Cell.got, callD, lenD, mkT, mkL, addD, addI, subD, modD, fdivD, eqD_int, neD_int, ltD, leD, gtD, geD, asB, truD, notV, andV, orV, notT, orT, andT, shs, negV, negD, isD, isntD, isNone, isiB, toTu, toCons, toNil, toNm, ixD, atI, ixN, asL, asTu, min2D, max2D, intD, eqX_str hw tx_put]) fun _ => by simp [op2, opT, nmP, nmW, cons2, Cell.got, callD, lenD, mkT, mkL, addD, addI, subD, modD, fdivD, eqD_int, neD_int, ltD, leD, gtD, geD, asB, truD, notV, andV, orV, notT, orT, andT, shs, negV, negD, isD, isntD, isNone, isiB, toTu, toCons, toNil, toNm, ixD, atI, ixN, asL, asTu, min2D, max2D, intD, eqX_str hw tx_change]) (fun _ => ?_) fun _ => ?_
    · exact rs_if (b := true) (orT_of (a := true) (b := true) (by simp [op2, opT, nmP, nmW, cons2, Cell.got, callD, lenD, mkT, mkL, addD, addI, subD, modD, fdivD, eqD_int, neD_int, ltD, leD, gtD, geD, asB, truD, notV, andV, orV, notT, orT, andT, shs, negV, negD, isD, isntD, isNone, isiB, toTu, toCons, toNil, toNm, ixD, atI, ixN, asL, asTu, min2D, max2D, intD, neR_int]) fun z => by cases z) (fun _ => run_ret rfl (thn_rt (thn_rt (rok (Nat.le_of_ble_eq_true rfl))))) fun z => by cases z
    · have ht : (txt cs).length = cs.length := rfl
      have hle : (cs.length : Int) ≤ 100000 := by omega
      have hln : cs.length ≤ 100000 := by omega
      refine rs_if (b := false || (decide (cs.length ≤ p) || true)) (orT_of (by simp [op2, opT, nmP, nmW, cons2, Cell.got, callD, lenD, mkT, mkL, addD, addI, subD, modD, fdivD, eqD_int, neD_int, ltD, leD, gtD, geD, asB, truD, notV, andV, orV, notT, orT, andT, shs, negV, negD, isD, isntD, isNone, isiB, toTu, toCons, toNil, toNm, ixD, atI, ixN, asL, asTu, min2D, max2D, intD, neR_int]) fun _ => orT_of (by simp [op2, opT, nmP, nmW, cons2, Cell.got, callD, lenD, mkT, mkL, addD, addI, subD, modD, fdivD, eqD_int, neD_int, ltD, leD, gtD, geD, asB, truD, notV, andV, orV, notT, orT, andT, shs, negV, negD, isD, isntD, isNone, isiB, toTu, toCons, toNil, toNm, ixD, atI, ixN, asL, asTu, min2D, max2D, intD, hle, ht, hln]) fun _ => opT_is (x := .str w) (y := .tuple [.str "keep", .str "cut"]) (by simp [op2, opT, nmP, nmW, cons2, Cell.got, callD, lenD, mkT, mkL, addD, addI, subD, modD, fdivD, eqD_int, neD_int, ltD, leD, gtD, geD, asB, truD, notV, andV, orV, notT, orT, andT, shs, negV, negD, isD, isntD, isNone, isiB, toTu, toCons, toNil, toNm, ixD, atI, ixN, asL, asTu, min2D, max2D, intD]) rfl ?_) (fun _ => run_ret rfl (thn_rt (rok (Nat.le_of_ble_eq_true rfl)))) fun z => by simp at z
      rw [ninR_str hw tx_keep tx_cut, decide_eq_false (fun z => h1 z.symm), decide_eq_false (fun z => h2 z.symm)]
      rfl
theorem bad_cut3 (q : Nat) : Bad (.tuple [.str "cut", .int (q : Nat), .str "a"]) := by
  refine ⟨fun p => sem_eq rfl (deed_go (.inr ⟨_, rfl⟩) (fun _ => rfl) fun _ => ?_), fun p cs hl => sem_eq rfl (step_go (w := .str "cut") (q := q) (rest := [.str "a"]) (c := .none) rfl (.inr ⟨_, rfl⟩) (fun _ => rfl) fun _ => ?_), by simp [selfOk]; decide +kernel⟩
  · refine rs_if (b := false) (by simp [op2, opT, nmP, nmW, cons2, Cell.got, callD, lenD, mkT, mkL, addD, addI, subD, modD, fdivD, eqD_int, neD_int, ltD, leD, gtD, geD, asB, truD, notV, andV, orV, notT, orT, andT, shs, negV, negD, isD, isntD, isNone, isiB, toTu, toCons, toNil, toNm, ixD, atI, ixN, asL, asTu, min2D, max2D, intD]) (fun z => by cases z) fun _ => ?_
    refine run_ret (d := .bool false) (andV_of (a := false) (b := false) (op2_is (x := .str "cut") (y := .tuple [.str "put", .str "change"]) (by simp [op2, opT, nmP, nmW, cons2, Cell.got, callD, lenD, mkT, mkL, addD, addI, subD, modD, fdivD, eqD_int, neD_int, ltD, leD, gtD, geD, asB, truD, notV, andV, orV, notT, orT, andT, shs, negV, negD, isD, isntD, isNone, isiB, toTu, toCons, toNil, toNm, ixD, atI, ixN, asL, asTu, min2D, max2D, intD]) rfl ?_) fun z => by cases z) (rok (Nat.le_of_ble_eq_true rfl))
    rw [in2 tx_cut tx_put tx_change]
    rfl
  · refine rs_if (b := false) (orT_of (a := false) (b := false) (by simp [op2, opT, nmP, nmW, cons2, Cell.got, callD, lenD, mkT, mkL, addD, addI, subD, modD, fdivD, eqD_int, neD_int, ltD, leD, gtD, geD, asB, truD, notV, andV, orV, notT, orT, andT, shs, negV, negD, isD, isntD, isNone, isiB, toTu, toCons, toNil, toNm, ixD, atI, ixN, asL, asTu, min2D, max2D, intD, xw_cut_put]) fun _ => by simp [op2, opT, nmP, nmW, cons2, Cell.got, callD, lenD, mkT, mkL, addD, addI, subD, modD, fdivD, eqD_int, neD_int, ltD, leD, gtD, geD, asB, truD, notV, andV, orV, notT, orT, andT, shs, negV, negD, isD, isntD, isNone, isiB, toTu, toCons, toNil, toNm, ixD, atI, ixN, asL, asTu, min2D, max2D, intD, xw_cut_change]) (fun z => by cases z) fun _ => ?_
    exact rs_if (b := true) (orT_of (a := true) (b := true) (by simp [op2, opT, nmP, nmW, cons2, Cell.got, callD, lenD, mkT, mkL, addD, addI, subD, modD, fdivD, eqD_int, neD_int, ltD, leD, gtD, geD, asB, truD, notV, andV, orV, notT, orT, andT, shs, negV, negD, isD, isntD, isNone, isiB, toTu, toCons, toNil, toNm, ixD, atI, ixN, asL, asTu, min2D, max2D, intD, neR_int]) fun z => by cases z) (fun _ => run_ret rfl (thn_rt (rok (Nat.le_of_ble_eq_true rfl)))) fun z => by cases z
/-- what is no sign -/
inductive NoSg : D → Prop
  | len (z : Str) : z.length ≤ 1000 → z.length ≠ 1 → NoSg (.str z)
  | nl : NoSg (.str "\n")
  | none : NoSg .none
  | lst (xs : List D) : NoSg (.list xs)
  | dct : NoSg (.dict [])
theorem noSg_is {x : D} (h : NoSg x) : sem_is_sign [x] = some (.ret (.bool false) false []) := by
  refine sem_eq rfl ?_
  unfold g_is_sign
  cases h with
  | len z h1 h2 =>
    have h3 : z.length ≤ 100000 := by omega
    have h4 : ¬ ((z.length : Int) = 1) := by omega
    exact rs_if (b := true) (orT_of (a := false) (b := true) (by simp [op2, opT, nmP, nmW, cons2, Cell.got, callD, lenD, mkT, mkL, addD, addI, subD, modD, fdivD, eqD_int, neD_int, ltD, leD, gtD, geD, asB, truD, notV, andV, orV, notT, orT, andT, shs, negV, negD, isD, isntD, isNone, isiB, toTu, toCons, toNil, toNm, ixD, atI, ixN, asL, asTu, min2D, max2D, intD]) fun _ => by simp [op2, opT, nmP, nmW, cons2, Cell.got, callD, lenD, mkT, mkL, addD, addI, subD, modD, fdivD, eqD_int, neD_int, ltD, leD, gtD, geD, asB, truD, notV, andV, orV, notT, orT, andT, shs, negV, negD, isD, isntD, isNone, isiB, toTu, toCons, toNil, toNm, ixD, atI, ixN, asL, asTu, min2D, max2D, intD, h3, h4, h2]) (fun _ => run_ret rfl (thn_rt (rok (Nat.le_of_ble_eq_true rfl)))) fun z => by cases z
  | nl =>
    refine rs_if (b := false) (orT_of (a := false) (b := false) (by simp [op2, opT, nmP, nmW, cons2, Cell.got, callD, lenD, mkT, mkL, addD, addI, subD, modD, fdivD, eqD_int, neD_int, ltD, leD, gtD, geD, asB, truD, notV, andV, orV, notT, orT, andT, shs, negV, negD, isD, isntD, isNone, isiB, toTu, toCons, toNil, toNm, ixD, atI, ixN, asL, asTu, min2D, max2D, intD]) fun _ => by rfl) (fun z => by cases z) fun _ => ?_
    refine rs_set (d := .int 10) (by rfl) ?_
    exact run_ret (d := .bool false) (by rfl) (rok (Nat.le_of_ble_eq_true rfl))
  | none => exact rs_if (b := true) (orT_of (a := true) (b := true) (by simp [op2, opT, nmP, nmW, cons2, Cell.got, callD, lenD, mkT, mkL, addD, addI, subD, modD, fdivD, eqD_int, neD_int, ltD, leD, gtD, geD, asB, truD, notV, andV, orV, notT, orT, andT, shs, negV, negD, isD, isntD, isNone, isiB, toTu, toCons, toNil, toNm, ixD, atI, ixN, asL, asTu, min2D, max2D, intD]) fun z => by cases z) (fun _ => run_ret rfl (thn_rt (rok (Nat.le_of_ble_eq_true rfl)))) fun z => by cases z
  | lst xs => exact rs_if (b := true) (orT_of (a := true) (b := true) (by simp [op2, opT, nmP, nmW, cons2, Cell.got, callD, lenD, mkT, mkL, addD, addI, subD, modD, fdivD, eqD_int, neD_int, ltD, leD, gtD, geD, asB, truD, notV, andV, orV, notT, orT, andT, shs, negV, negD, isD, isntD, isNone, isiB, toTu, toCons, toNil, toNm, ixD, atI, ixN, asL, asTu, min2D, max2D, intD]) fun z => by cases z) (fun _ => run_ret rfl (thn_rt (rok (Nat.le_of_ble_eq_true rfl)))) fun z => by cases z
  | dct => exact rs_if (b := true) (orT_of (a := true) (b := true) (by simp [op2, opT, nmP, nmW, cons2, Cell.got, callD, lenD, mkT, mkL, addD, addI, subD, modD, fdivD, eqD_int, neD_int, ltD, leD, gtD, geD, asB, truD, notV, andV, orV, notT, orT, andT, shs, negV, negD, isD, isntD, isNone, isiB, toTu, toCons, toNil, toNm, ixD, atI, ixN, asL, asTu, min2D, max2D, intD]) fun z => by cases z) (fun _ => run_ret rfl (thn_rt (rok (Nat.le_of_ble_eq_true rfl)))) fun z => by cases z
theorem bad_sign (w : Str) (hw : w = "put" ∨ w = "change") (q : Nat) (x : D) (hx : NoSg x) (hs : selfOk 19 x = true) : Bad (.tuple [.str w, .int (q : Nat), x]) := by
  have tw : TxOk w := by rcases hw with rfl | rfl; exact tx_put; exact tx_change
  refine ⟨fun p => sem_eq rfl (deed_go (.inr ⟨_, rfl⟩) (fun _ => rfl) fun _ => ?_), fun p cs hl => sem_eq rfl (step_go (w := .str w) (q := q) (rest := [x]) (c := .none) rfl (.inr ⟨_, rfl⟩) (fun _ => rfl) fun _ => ?_), by simp [selfOk, tw.2, hs]⟩
  · refine rs_if (b := false) (by simp [op2, opT, nmP, nmW, cons2, Cell.got, callD, lenD, mkT, mkL, addD, addI, subD, modD, fdivD, eqD_int, neD_int, ltD, leD, gtD, geD, asB, truD, notV, andV, orV, notT, orT, andT, shs, negV, negD, isD, isntD, isNone, isiB, toTu, toCons, toNil, toNm, ixD, atI, ixN, asL, asTu, min2D, max2D, intD]) (fun z => by cases z) fun _ => ?_
    refine run_ret (d := .bool (true && false)) (andV_of (op2_is (x := .str w) (y := .tuple [.str "put", .str "change"]) (by simp [op2, opT, nmP, nmW, cons2, Cell.got, callD, lenD, mkT, mkL, addD, addI, subD, modD, fdivD, eqD_int, neD_int, ltD, leD, gtD, geD, asB, truD, notV, andV, orV, notT, orT, andT, shs, negV, negD, isD, isntD, isNone, isiB, toTu, toCons, toNil, toNm, ixD, atI, ixN, asL, asTu, min2D, max2D, intD]) rfl ?_) fun _ => callS_of (ds := [x]) (by simp [op2, opT, nmP, nmW, cons2, Cell.got, callD, lenD, mkT, mkL, addD, addI, subD, modD, fdivD, eqD_int, neD_int, ltD, leD, gtD, geD, asB, truD, notV, andV, orV, notT, orT, andT, shs, negV, negD, isD, isntD, isNone, isiB, toTu, toCons, toNil, toNm, ixD, atI, ixN, asL, asTu, min2D, max2D, intD]) (noSg_is hx)) (rok (Nat.le_of_ble_eq_true rfl))
    rw [in2 tw tx_put tx_change]
    rcases hw with rfl | rfl <;> rfl
  · refine rs_if (b := true) ?_ (fun _ => ?_) fun z => by cases z
    · rcases hw with rfl | rfl
      · exact orT_of (a := true) (b := true) (by simp [op2, opT, nmP, nmW, cons2, Cell.got, callD, lenD, mkT, mkL, addD, addI, subD, modD, fdivD, eqD_int, neD_int, ltD, leD, gtD, geD, asB, truD, notV, andV, orV, notT, orT, andT, shs, negV, negD, isD, isntD, isNone, isiB, toTu, toCons, toNil, toNm, ixD, atI, ixN, asL, asTu, min2D, max2D, intD, xw_put_put]) fun z => by cases z
      · exact orT_of (a := false) (b := true) (by simp [op2, opT, nmP, nmW, cons2, Cell.got, callD, lenD, mkT, mkL, addD, addI, subD, modD, fdivD, eqD_int, neD_int, ltD, leD, gtD, geD, asB, truD, notV, andV, orV, notT, orT, andT, shs, negV, negD, isD, isntD, isNone, isiB, toTu, toCons, toNil, toNm, ixD, atI, ixN, asL, asTu, min2D, max2D, intD, xw_change_put]) fun _ => by simp [op2, opT, nmP, nmW, cons2, Cell.got, callD, lenD, mkT, mkL, addD, addI, subD, modD, fdivD, eqD_int, neD_int, ltD, leD, gtD, geD, asB, truD, notV, andV, orV, notT, orT, andT, shs, negV, negD, isD, isntD, isNone, isiB, toTu, toCons, toNil, toNm, ixD, atI, ixN, asL, asTu, min2D, max2D, intD, xw_change_change]
    · refine rs_if (b := true) (orT_of (a := false) (b := true) (by simp [op2, opT, nmP, nmW, cons2, Cell.got, callD, lenD, mkT, mkL, addD, addI, subD, modD, fdivD, eqD_int, neD_int, ltD, leD, gtD, geD, asB, truD, notV, andV, orV, notT, orT, andT, shs, negV, negD, isD, isntD, isNone, isiB, toTu, toCons, toNil, toNm, ixD, atI, ixN, asL, asTu, min2D, max2D, intD, neR_int]) fun _ => ?_) (fun _ => run_ret rfl (thn_rt (thn_rt (rok (Nat.le_of_ble_eq_true rfl))))) fun z => by cases z
      cases hx with
      | len z h1 h2 =>
        have h3 : z.length ≤ 100000 := by omega
        have h4 : ¬ ((z.length : Int) = 1) := by omega
        exact orT_of (a := false) (b := true) (by simp [op2, opT, nmP, nmW, cons2, Cell.got, callD, lenD, mkT, mkL, addD, addI, subD, modD, fdivD, eqD_int, neD_int, ltD, leD, gtD, geD, asB, truD, notV, andV, orV, notT, orT, andT, shs, negV, negD, isD, isntD, isNone, isiB, toTu, toCons, toNil, toNm, ixD, atI, ixN, asL, asTu, min2D, max2D, intD]) fun _ => orT_of (a := true) (b := true) (by simp [op2, opT, nmP, nmW, cons2, Cell.got, callD, lenD, mkT, mkL, addD, addI, subD, modD, fdivD, eqD_int, neD_int, ltD, leD, gtD, geD, asB, truD, notV, andV, orV, notT, orT, andT, shs, negV, negD, isD, isntD, isNone, isiB, toTu, toCons, toNil, toNm, ixD, atI, ixN, asL, asTu, min2D, max2D, intD, h3, h4, h2, neR_int]) fun z => by cases z
      | nl => exact orT_of (a := false) (b := true) (by simp [op2, opT, nmP, nmW, cons2, Cell.got, callD, lenD, mkT, mkL, addD, addI, subD, modD, fdivD, eqD_int, neD_int, ltD, leD, gtD, geD, asB, truD, notV, andV, orV, notT, orT, andT, shs, negV, negD, isD, isntD, isNone, isiB, toTu, toCons, toNil, toNm, ixD, atI, ixN, asL, asTu, min2D, max2D, intD]) fun _ => orT_of (a := false) (b := true) (opT_is (x := .int 1) (y := .int 1) (by rfl) rfl (by rw [neR_int]; rfl)) fun _ => opT_is (x := .str "\n") (y := .str "\n") (by simp [op2, opT, nmP, nmW, cons2, Cell.got, callD, lenD, mkT, mkL, addD, addI, subD, modD, fdivD, eqD_int, neD_int, ltD, leD, gtD, geD, asB, truD, notV, andV, orV, notT, orT, andT, shs, negV, negD, isD, isntD, isNone, isiB, toTu, toCons, toNil, toNm, ixD, atI, ixN, asL, asTu, min2D, max2D, intD]) rfl (by rw [eqX_str tx_nl tx_nl]; rfl)
      | none => exact orT_of (a := true) (b := true) (by simp [op2, opT, nmP, nmW, cons2, Cell.got, callD, lenD, mkT, mkL, addD, addI, subD, modD, fdivD, eqD_int, neD_int, ltD, leD, gtD, geD, asB, truD, notV, andV, orV, notT, orT, andT, shs, negV, negD, isD, isntD, isNone, isiB, toTu, toCons, toNil, toNm, ixD, atI, ixN, asL, asTu, min2D, max2D, intD]) fun z => by cases z
      | lst xs => exact orT_of (a := true) (b := true) (by simp [op2, opT, nmP, nmW, cons2, Cell.got, callD, lenD, mkT, mkL, addD, addI, subD, modD, fdivD, eqD_int, neD_int, ltD, leD, gtD, geD, asB, truD, notV, andV, orV, notT, orT, andT, shs, negV, negD, isD, isntD, isNone, isiB, toTu, toCons, toNil, toNm, ixD, atI, ixN, asL, asTu, min2D, max2D, intD]) fun z => by cases z
      | dct => exact orT_of (a := true) (b := true) (by simp [op2, opT, nmP, nmW, cons2, Cell.got, callD, lenD, mkT, mkL, addD, addI, subD, modD, fdivD, eqD_int, neD_int, ltD, leD, gtD, geD, asB, truD, notV, andV, orV, notT, orT, andT, shs, negV, negD, isD, isntD, isNone, isiB, toTu, toCons, toNil, toNm, ixD, atI, ixN, asL, asTu, min2D, max2D, intD]) fun z => by cases z
/-- the word is no text -/
theorem bad_wordD (w : D) (hw : (∃ z, TxOk z ∧ w = .list [.str z]) ∨ w = .dict []) (q : Nat) : Bad (.tuple [w, .int (q : Nat)]) := by
  have x1 : ∀ c : Str, TxOk c → eqXD w (.str c) = some (.bool false) := by
    intro c hc
    rcases hw with ⟨z, hz, rfl⟩ | rfl
    · unfold eqXD
      rw [if_pos ⟨shaped_fine (n := 1) (by show List.all _ (fine 0) = true; simp [hz.fine]) (by decide), hc.shaped⟩]
      rw [PyData.eqv]
    · unfold eqXD
      rw [if_neg (fun z => by cases z.1)]
  have x2 : ninRD w (.tuple [.str "keep", .str "cut"]) = some (.bool true) := by
    unfold ninRD inR
    dsimp only
    rw [if_pos (shaped_fine (n := 1) (by show List.all _ (fine 0) = true; simp [tx_keep.fine, tx_cut.fine]) (by decide))]
    have e : ∀ c : Str, TxOk c → eqR (.str c) w = some false := by
      intro c hc
      rcases hw with ⟨z, hz, rfl⟩ | rfl
      · unfold eqR
        rw [if_pos ⟨hc.shaped, shaped_fine (n := 1) (by show List.all _ (fine 0) = true; simp [hz.fine]) (by decide)⟩]
        rw [PyData.eqv]
      · unfold eqR
        rw [if_neg (fun z => by cases z.2)]
    simp only [anyR]
    rw [e _ tx_keep, e _ tx_cut]
    rfl
  have x3 : isiB "str" w = false := by
    rcases hw with ⟨z, hz, rfl⟩ | rfl <;> rfl
  have x4 : selfOk 19 w = true := by
    rcases hw with ⟨z, hz, rfl⟩ | rfl
    · simp [selfOk, hz.2]
    · rfl
  refine ⟨fun p => sem_eq rfl ?_, fun p cs hl => sem_eq rfl (step_go (w := w) (q := q) (rest := []) (c := .none) rfl (.inl rfl) (fun _ => rfl) fun _ => ?_), by simp [selfOk, x4]⟩
  · unfold g_is_deed
    refine rs_if (b := false) (orT_of (a := false) (b := false) (by simp [op2, opT, nmP, nmW, cons2, Cell.got, callD, lenD, mkT, mkL, addD, addI, subD, modD, fdivD, eqD_int, neD_int, ltD, leD, gtD, geD, asB, truD, notV, andV, orV, notT, orT, andT, shs, negV, negD, isD, isntD, isNone, isiB, toTu, toCons, toNil, toNm, ixD, atI, ixN, asL, asTu, min2D, max2D, intD]) fun _ => opT_is (x := .int 2) (y := .tuple [.int 2, .int 3]) (by simp [op2, opT, nmP, nmW, cons2, Cell.got, callD, lenD, mkT, mkL, addD, addI, subD, modD, fdivD, eqD_int, neD_int, ltD, leD, gtD, geD, asB, truD, notV, andV, orV, notT, orT, andT, shs, negV, negD, isD, isntD, isNone, isiB, toTu, toCons, toNil, toNm, ixD, atI, ixN, asL, asTu, min2D, max2D, intD]) rfl (by rw [in23]; rfl)) (fun z => by cases z) fun _ => ?_
    refine rs_if (b := true) (orT_of (a := true) (b := true) (notT_of (a := false) (trT_of (d := .bool false) ?_ rfl)) fun z => by cases z) (fun _ => run_ret rfl (thn_rt (rok (Nat.le_of_ble_eq_true rfl)))) fun z => by cases z
    rw [← x3]
    rfl
  · refine rs_if (b := false) (orT_of (a := false) (b := false) (opT_is (x := w) (y := .str "put") (by simp [op2, opT, nmP, nmW, cons2, Cell.got, callD, lenD, mkT, mkL, addD, addI, subD, modD, fdivD, eqD_int, neD_int, ltD, leD, gtD, geD, asB, truD, notV, andV, orV, notT, orT, andT, shs, negV, negD, isD, isntD, isNone, isiB, toTu, toCons, toNil, toNm, ixD, atI, ixN, asL, asTu, min2D, max2D, intD]) rfl (x1 _ tx_put)) fun _ => opT_is (x := w) (y := .str "change") (by simp [op2, opT, nmP, nmW, cons2, Cell.got, callD, lenD, mkT, mkL, addD, addI, subD, modD, fdivD, eqD_int, neD_int, ltD, leD, gtD, geD, asB, truD, notV, andV, orV, notT, orT, andT, shs, negV, negD, isD, isntD, isNone, isiB, toTu, toCons, toNil, toNm, ixD, atI, ixN, asL, asTu, min2D, max2D, intD]) rfl (x1 _ tx_change)) (fun z => by cases z) fun _ => ?_
    have ht : (txt cs).length = cs.length := rfl
    have hle : (cs.length : Int) ≤ 100000 := by omega
    have hln : cs.length ≤ 100000 := by omega
    exact rs_if (b := false || (decide (cs.length ≤ p) || true)) (orT_of (by simp [op2, opT, nmP, nmW, cons2, Cell.got, callD, lenD, mkT, mkL, addD, addI, subD, modD, fdivD, eqD_int, neD_int, ltD, leD, gtD, geD, asB, truD, notV, andV, orV, notT, orT, andT, shs, negV, negD, isD, isntD, isNone, isiB, toTu, toCons, toNil, toNm, ixD, atI, ixN, asL, asTu, min2D, max2D, intD, neR_int]) fun _ => orT_of (by simp [op2, opT, nmP, nmW, cons2, Cell.got, callD, lenD, mkT, mkL, addD, addI, subD, modD, fdivD, eqD_int, neD_int, ltD, leD, gtD, geD, asB, truD, notV, andV, orV, notT, orT, andT, shs, negV, negD, isD, isntD, isNone, isiB, toTu, toCons, toNil, toNm, ixD, atI, ixN, asL, asTu, min2D, max2D, intD, hle, ht, hln]) fun _ => opT_is (x := w) (y := .tuple [.str "keep", .str "cut"]) (by simp [op2, opT, nmP, nmW, cons2, Cell.got, callD, lenD, mkT, mkL, addD, addI, subD, modD, fdivD, eqD_int, neD_int, ltD, leD, gtD, geD, asB, truD, notV, andV, orV, notT, orT, andT, shs, negV, negD, isD, isntD, isNone, isiB, toTu, toCons, toNil, toNm, ixD, atI, ixN, asL, asTu, min2D, max2D, intD]) rfl x2) (fun _ => run_ret rfl (thn_rt (rok (Nat.le_of_ble_eq_true rfl)))) fun z => by simp at z
end K5

namespace K5
open PySem L2 DS
inductive El where
  | ok (x : Dd)
  | bad (d : D)
def El.d : El → D
  | .ok x => x.d
  | .bad d => d
def El.good : El → Prop
  | .ok x => x.ok
  | .bad d => Bad d
def El.step (cs : List Nat) (p : Nat) : El → Option (Nat × List Nat)
  | .ok x => x.step cs p
  | .bad _ => none
def walkE (cs : List Nat) : List El → Nat → Option (Nat × List Nat)
  | [], p => some (p, [])
  | d :: r, p => (d.step cs p).bind fun x => (walkE cs r x.1).map fun y => (y.1, x.2 ++ y.2)
theorem walkE_app (cs : List Nat) : ∀ (xs ys : List El) (p : Nat), walkE cs (xs ++ ys) p = (walkE cs xs p).bind fun x => (walkE cs ys x.1).map fun y => (y.1, x.2 ++ y.2)
  | [], ys, p => by
    rw [List.nil_append, walkE, Option.bind_some]
    cases walkE cs ys p <;> rfl
  | d :: r, ys, p => by
    rw [List.cons_append, walkE, walkE]
    cases d.step cs p with
    | none => rfl
    | some x =>
      simp only [Option.bind_some]
      rw [walkE_app cs r ys x.1]
      cases walkE cs r x.1 with
      | none => rfl
      | some y =>
        simp only [Option.bind_some, Option.map_some]
        cases walkE cs ys y.1 with
        | none => rfl
        | some z => simp
theorem walkE_one {cs : List Nat} {ys : List El} {x : El} {p p' : Nat} {o o' : List Nat} (h : walkE cs ys 0 = some (p, o)) (hs : x.step cs p = some (p', o')) : walkE cs (ys ++ [x]) 0 = some (p', o ++ o') := by
  rw [walkE_app, h, Option.bind_some, walkE, hs]
  simp [walkE]
theorem walkE_stop {cs : List Nat} {ys r : List El} {x : El} {p : Nat} {o : List Nat} (h : walkE cs ys 0 = some (p, o)) (hs : x.step cs p = none) : walkE cs (ys ++ x :: r) 0 = none := by
  rw [walkE_app, h, Option.bind_some, walkE, hs]
  rfl
theorem step_eq {cs : List Nat} {x : Dd} (hx : x.ok) (p : Nat) : x.step cs p = if x.at = p ∧ (x.isP = true ∨ p < cs.length) then some (if x.isP = true then p else p + 1, (x.out cs).cps.toList) else none := by
  cases x with
  | put q s =>
    by_cases h : q = p
    · rw [Dd.step, if_pos ⟨h, hx⟩, if_pos ⟨h, .inl rfl⟩]
      rfl
    · rw [Dd.step, if_neg (fun z => h z.1), if_neg (fun z => h z.1)]
  | keep q =>
    by_cases h : q = p ∧ p < cs.length
    · rw [Dd.step, if_pos h, if_pos ⟨h.1, .inr h.2⟩, ← h.1]
      rfl
    · rw [Dd.step, if_neg h, if_neg (fun z => h ⟨z.1, z.2.resolve_left (fun z => by cases z)⟩)]
  | change q s =>
    by_cases h : q = p ∧ p < cs.length
    · rw [Dd.step, if_pos ⟨h.1, h.2, hx⟩, if_pos ⟨h.1, .inr h.2⟩]
      rfl
    · rw [Dd.step, if_neg (fun z => h ⟨z.1, z.2.1⟩), if_neg (fun z => h ⟨z.1, z.2.resolve_left (fun z => by cases z)⟩)]
  | cut q =>
    by_cases h : q = p ∧ p < cs.length
    · rw [Dd.step, if_pos h, if_pos ⟨h.1, .inr h.2⟩]
      rfl
    · rw [Dd.step, if_neg h, if_neg (fun z => h ⟨z.1, z.2.resolve_left (fun z => by cases z)⟩)]
theorem out_len (cs : List Nat) (x : Dd) : (x.out cs).cps.toList.length ≤ 1 := by
  cases x <;> simp [Dd.out]
theorem el_step_len {cs : List Nat} {e : El} (he : e.good) {p p' : Nat} {o : List Nat} (h : e.step cs p = some (p', o)) : o.length ≤ 1 ∧ p' ≤ p + 1 ∧ (p ≤ cs.length → p' ≤ cs.length) := by
  cases e with
  | bad d => cases h
  | ok x =>
    rw [El.step, step_eq he] at h
    split at h
    · rename_i hc
      cases h
      refine ⟨out_len cs x, by split <;> omega, fun hp => ?_⟩
      split
      · exact hp
      · rename_i hi
        have := hc.2.resolve_left hi
        omega
    · cases h
theorem el_law {cs : List Nat} {e : El} (he : e.good) (hl : cs.length ≤ 1000) (p : Nat) : sem__law_step [e.d, .int (p : Nat), .str (txt cs)] = some (.ret (stepD (e.step cs p)) false []) := by
  cases e with
  | ok x => exact law_step_ok x he p hl
  | bad d => exact he.law p cs hl
def dueD (cs : List Nat) (es : List El) : D := match walkE cs es 0 with
  | some (p, o) => if p = cs.length then .str (txt o) else .none
  | none => .none
theorem txt_app (a b : List Nat) : (txt a : Str) ++ txt b = txt (a ++ b) := by
  refine str_ext ?_
  show ((a.toArray ++ b.toArray)).toList = _
  simp [txt]
theorem due_is {cs : List Nat} (hl : cs.length ≤ 1000) (es : List El) (hg : ∀ e ∈ es, e.good) (hn : es.length ≤ 1000) : sem__law_due [.str (txt cs), .list (es.map El.d)] = some (.ret (dueD cs es) false []) := by
  refine sem_eq rfl ?_
  unfold g__law_due
  have ht : (txt cs).length = cs.length := rfl
  refine rs_set (d := .str (txt [])) rfl (rs_set (d := .int 0) rfl ?_)
  simp only [List.set_cons_zero, List.set_cons_succ, Cell.put]
  refine rs_forOf es El.d (fun ys ρ => ∃ (p : Nat) (o : List Nat) (x4 x5 : Option Cell), walkE cs ys 0 = some (p, o) ∧ o.length ≤ ys.length ∧ p ≤ ys.length ∧
    ρ = [some (.sh (.str (txt cs))), some (.sh (.list (es.map El.d))), some (.sh (.str (txt o))), some (.sh (.int (p : Nat))), x4, x5]) rfl ⟨0, [], none, none, rfl, Nat.le_refl _, Nat.le_refl _, rfl⟩ ?_ ?_
  · rintro ys e r ρ hes ⟨p, o, x4, x5, hw, ho, hp, rfl⟩
    have he : e.good := hg e (by rw [hes]; simp)
    have hyl : ys.length + 1 ≤ 1000 := by
      have := congrArg List.length hes
      simp at this
      omega
    refine ⟨_, rfl, ?_⟩
    simp only [List.set_cons_zero, List.set_cons_succ, Cell.put]
    refine rs_set (callS_of (ds := [e.d, .int (p : Nat), .str (txt cs)]) rfl (el_law he hl p)) ?_
    simp only [List.set_cons_zero, List.set_cons_succ, Cell.put]
    cases hs : e.step cs p with
    | none =>
      refine rs_if (b := true) (by simp [op2, opT, nmP, nmW, cons2, Cell.got, callD, lenD, mkT, mkL, addD, addI, subD, modD, fdivD, eqD_int, neD_int, ltD, leD, gtD, geD, asB, truD, notV, andV, orV, notT, orT, andT, shs, negV, negD, isD, isntD, isNone, isiB, toTu, toCons, toNil, toNm, ixD, atI, ixN, asL, asTu, min2D, max2D, intD, stepD]) (fun _ => ?_) fun z => by cases z
      refine run_ret rfl (thn_rt (turn_rt (thn_rt (ret_ok (Nat.le_of_ble_eq_true rfl) ?_))))
      unfold dueD
      rw [hes, walkE_stop hw hs]
    | some pr =>
      obtain ⟨p', o'⟩ := pr
      obtain ⟨q1, q2, q3⟩ := el_step_len he hs
      refine rs_if (b := false) (by simp [op2, opT, nmP, nmW, cons2, Cell.got, callD, lenD, mkT, mkL, addD, addI, subD, modD, fdivD, eqD_int, neD_int, ltD, leD, gtD, geD, asB, truD, notV, andV, orV, notT, orT, andT, shs, negV, negD, isD, isntD, isNone, isiB, toTu, toCons, toNil, toNm, ixD, atI, ixN, asL, asTu, min2D, max2D, intD, stepD]) (fun z => by cases z) fun _ => ?_
      refine rs_set (d := .str (txt (o ++ o'))) (op2_is (x := .str (txt o)) (y := .str (txt o')) rfl (by simp [op2, opT, nmP, nmW, cons2, Cell.got, callD, lenD, mkT, mkL, addD, addI, subD, modD, fdivD, eqD_int, neD_int, ltD, leD, gtD, geD, asB, truD, notV, andV, orV, notT, orT, andT, shs, negV, negD, isD, isntD, isNone, isiB, toTu, toCons, toNil, toNm, ixD, atI, ixN, asL, asTu, min2D, max2D, intD, stepD]) ?_) ?_
      · show (if _ then _ else _) = _
        rw [if_pos (show (txt o).length + (txt o').length ≤ 100000 from (by show o.length + o'.length ≤ 100000; omega)), txt_app]
      · simp only [List.set_cons_zero, List.set_cons_succ, Cell.put]
        refine run_set (d := .int (p' : Nat)) (by simp [op2, opT, nmP, nmW, cons2, Cell.got, callD, lenD, mkT, mkL, addD, addI, subD, modD, fdivD, eqD_int, neD_int, ltD, leD, gtD, geD, asB, truD, notV, andV, orV, notT, orT, andT, shs, negV, negD, isD, isntD, isNone, isiB, toTu, toCons, toNil, toNm, ixD, atI, ixN, asL, asTu, min2D, max2D, intD, stepD]) ?_
        simp only [List.set_cons_zero, List.set_cons_succ, Cell.put]
        exact ⟨p', o ++ o', _, _, walkE_one hw hs, by simp; omega, by simp; omega, rfl⟩
  · rintro ρ ⟨p, o, x4, x5, hw, ho, hp, rfl⟩
    have hle : (cs.length : Int) ≤ 100000 := by omega
    have hln : cs.length ≤ 100000 := by omega
    refine rs_if (b := !decide (p = cs.length)) (opT_is (x := .int (p : Nat)) (y := .int (cs.length : Nat)) rfl (by simp [op2, opT, nmP, nmW, cons2, Cell.got, callD, lenD, mkT, mkL, addD, addI, subD, modD, fdivD, eqD_int, neD_int, ltD, leD, gtD, geD, asB, truD, notV, andV, orV, notT, orT, andT, shs, negV, negD, isD, isntD, isNone, isiB, toTu, toCons, toNil, toNm, ixD, atI, ixN, asL, asTu, min2D, max2D, intD, hle, ht, hln]) (by rw [neD_int, dec_nat])) (fun z => ?_) fun z => ?_
    · refine run_ret rfl (thn_rt (ret_ok (Nat.le_of_ble_eq_true rfl) ?_))
      unfold dueD
      rw [hw]
      show _ = if _ then _ else _
      rw [if_neg (by simpa using z)]
    · refine run_ret rfl (ret_ok (Nat.le_of_ble_eq_true rfl) ?_)
      unfold dueD
      rw [hw]
      show _ = if _ then _ else _
      rw [if_pos (by simpa using z)]
/-! the program's walk -/
def OuIs (k : Nat) (o : Ou) : SR → Prop
  | .rt d own ρ => o = .ret d own [] ∧ k ≤ ρ.length
  | .exc c => o = .exc c
  | _ => False
theorem sem_ou {g : Nv → Option SR} {ds : List D} {k m : Nat} {o : Ou} (hk : ds.length = k) (h : Run (g (shs ds m)) (OuIs k o)) : semR k m g ds = some o := by
  obtain ⟨r, e, q⟩ := h
  unfold semR
  rw [if_pos hk, e]
  cases r with
  | rt d o' ρ =>
    obtain ⟨rfl, h1⟩ := q
    show (if _ then _ else _) = _
    rw [if_pos h1]
  | exc c =>
    cases q
    rfl
  | nx ρ => exact q.elim
  | bk ρ => exact q.elim
  | ct ρ => exact q.elim
theorem run_raise {c : Value} {fm : Nv → Option Unit} {ρ : Nv} {φ : SR → Prop} (h : fm ρ = some ()) (q : φ (.exc c)) : Run (raiseS c fm ρ) φ := ⟨_, by unfold raiseS; rw [h]; rfl, q⟩
theorem fmt_of {fa : Nv → Option D} {f : Nv → Option Unit} {ρ : Nv} {d : D} (h : fa ρ = some d) (hd : fOk d = true) (hf : f ρ = some ()) : fmtV fa f ρ = some () := by
  unfold fmtV
  rw [h]
  show (if _ then _ else _) = _
  rw [if_pos hd, hf]
theorem fok_nat {n : Nat} (h : n < 200) : fOk (.int (n : Nat)) = true := by
  show (decide ((0 : Int) ≤ n) && decide ((n : Int) < 200)) = true
  rw [decide_eq_true (by omega), decide_eq_true (by omega)]
  rfl
def badO : Ou := .exc (.type "BadDeeds")
def doneO (cs : List Nat) (es : List El) : Ou := match walkE cs es 0 with
  | some (p, o) => if p = cs.length then .ret (.str (txt o)) false [] else badO
  | none => badO
theorem done_is {cs : List Nat} (hc : ∀ c ∈ cs, SgOk c) (hl : cs.length ≤ 100) (es : List El) (hg : ∀ e ∈ es, e.good) (hn : es.length ≤ 100) : sem_done [.str (txt cs), .list (es.map El.d)] = some (doneO cs es) := by
  refine sem_ou rfl ?_
  unfold g_done
  refine rs_setN (d := .list []) rfl (rs_set (d := .int 0) rfl ?_)
  simp only [List.set_cons_zero, List.set_cons_succ, Cell.put]
  have ht : (txt cs).length = cs.length := rfl
  have hle : (cs.length : Int) ≤ 100000 := by omega
  have hln : cs.length ≤ 100000 := by omega
  refine rs_for (ds := enumD (es.map El.d)) (fun j ρ => ∃ (p : Nat) (o : List Nat) (xs : List Dd) (x4 x5 : Option Cell), walkE cs (es.take j) 0 = some (p, o) ∧ (xs.map (Dd.out cs)).flatMap (·.cps.toList) = o ∧ xs.length ≤ j ∧ p ≤ cs.length ∧
    ρ = [some (.sh (.str (txt cs))), some (.sh (.list (es.map El.d))), some (.ow (.list (xs.map fun x => PyData.str (x.out cs)))), some (.sh (.int (p : Nat))), x4, x5]) ?_ ⟨0, [], [], none, none, rfl, rfl, Nat.le_refl _, Nat.zero_le _, rfl⟩ ?_ ?_
  · show Option.bind (cons2 _ _ _) enumV = _
    rw [cons2_is (ds := []) (d := .list (es.map El.d)) rfl rfl, Option.bind_some]
    rfl
  · rintro j d ρ hj ⟨p, o, xs, x4, x5, hw, hf, hxl, hp, rfl⟩
    obtain ⟨y, hy, rfl⟩ := enum_get hj
    rw [List.getElem?_map] at hy
    obtain ⟨e, hx, rfl⟩ := Option.map_eq_some_iff.mp hy
    obtain ⟨hjl, hxe⟩ := List.getElem?_eq_some_iff.mp hx
    have etk : es.take (j + 1) = es.take j ++ [e] := by rw [List.take_add_one, hx]; rfl
    have ees : es = es.take j ++ e :: es.drop (j + 1) := by rw [← hxe, ← List.drop_eq_getElem_cons hjl, List.take_append_drop]
    have he : e.good := hg e (by rw [ees]; simp)
    have stop : e.step cs p = none → doneO cs es = badO := fun hs => by
      unfold doneO
      rw [ees, walkE_stop hw hs]
    refine ⟨_, rfl, ?_⟩
    simp only [List.set_cons_zero, List.set_cons_succ, Cell.put]
    have msg : fmtV (op2 addD (nmW 4) (fun _ => some (.int 1))) (fmtV (nmP 3) (fun _ => some ())) [some (.sh (.str (txt cs))), some (.sh (.list (es.map El.d))), some (.ow (.list (xs.map fun x => PyData.str (x.out cs)))), some (.sh (.int (p : Nat))), some (.sh (.int (j : Nat))), some (.sh e.d)] = some () :=
      fmt_of (d := .int ((j + 1 : Nat) : Int)) (by simp [op2, opT, nmP, nmW, cons2, Cell.got, callD, lenD, mkT, mkL, addD, addI, subD, modD, fdivD, eqD_int, neD_int, ltD, leD, gtD, geD, asB, truD, notV, andV, orV, notT, orT, andT, shs, negV, negD, isD, isntD, isNone, isiB, toTu, toCons, toNil, toNm, ixD, atI, ixN, asL, asTu, min2D, max2D, intD]) (fok_nat (by omega)) (fmt_of (d := .int (p : Nat)) rfl (fok_nat (by omega)) rfl)
    cases e with
    | bad d =>
      refine rs_if (b := true) (notT_of (a := false) (trT_of (d := .bool false) (callS_of (ds := [d, .int (p : Nat)]) rfl (he.prog p)) rfl)) (fun _ => ?_) fun z => by cases z
      refine run_raise msg ?_
      show doneO cs es = badO
      exact stop rfl
    | ok x =>
      refine rs_if (b := !decide (x.at = p)) (notT_of (a := decide (x.at = p)) (trT_of (callS_of (ds := [x.d, .int (p : Nat)]) rfl (is_deed_ok x he p)) rfl)) (fun z => ?_) fun z => ?_
      · refine run_raise msg ?_
        show doneO cs es = badO
        refine stop ?_
        rw [El.step, step_eq he, if_neg (fun y => by have := y.1; simp [this] at z)]
      · have hat : x.at = p := by simpa using z
        refine rs_if (b := (!x.isP) && decide (p = cs.length)) (andT_of (word_ne x) fun _ => opT_is (x := .int (p : Nat)) (y := .int (cs.length : Nat)) rfl (by simp [op2, opT, nmP, nmW, cons2, Cell.got, callD, lenD, mkT, mkL, addD, addI, subD, modD, fdivD, eqD_int, neD_int, ltD, leD, gtD, geD, asB, truD, notV, andV, orV, notT, orT, andT, shs, negV, negD, isD, isntD, isNone, isiB, toTu, toCons, toNil, toNm, ixD, atI, ixN, asL, asTu, min2D, max2D, intD, hle, ht, hln]) (by rw [eqD_int, dec_nat])) (fun z2 => ?_) fun z2 => ?_
        · refine run_raise (fmt_of (d := .int ((j + 1 : Nat) : Int)) (by simp [op2, opT, nmP, nmW, cons2, Cell.got, callD, lenD, mkT, mkL, addD, addI, subD, modD, fdivD, eqD_int, neD_int, ltD, leD, gtD, geD, asB, truD, notV, andV, orV, notT, orT, andT, shs, negV, negD, isD, isntD, isNone, isiB, toTu, toCons, toNil, toNm, ixD, atI, ixN, asL, asTu, min2D, max2D, intD]) (fok_nat (by omega)) rfl) ?_
          show doneO cs es = badO
          refine stop ?_
          simp only [Bool.and_eq_true, Bool.not_eq_true', decide_eq_true_eq] at z2
          rw [El.step, step_eq he, if_neg (fun y => by rcases y.2 with y | y; rw [z2.1] at y; cases y; omega)]
        · have hc2 : x.isP = true ∨ p < cs.length := by
            cases hi : x.isP with
            | true => exact .inl rfl
            | false =>
              rw [hi] at z2
              have : p ≠ cs.length := by simpa using z2
              exact .inr (by omega)
          have hs : (El.ok x).step cs p = some (if x.isP = true then p else p + 1, (x.out cs).cps.toList) := by rw [El.step, step_eq he, if_pos ⟨hat, hc2⟩]
          refine rs_app (xs := xs.map fun x => PyData.str (x.out cs)) (c := .ow (.list (xs.map fun x => PyData.str (x.out cs)))) (callS_of (ds := [x.d, .str (txt cs)]) rfl (behind_is (by omega) x fun hq => by rw [hat]; exact hc2.resolve_left (by rw [hq]; exact Bool.false_ne_true))) rfl rfl rfl (by rw [List.length_map]; omega) ?_
          simp only [List.set_cons_zero, List.set_cons_succ, Cell.put]
          have em : (xs.map fun x => PyData.str (x.out cs)) ++ [PyData.str (x.out cs)] = (xs ++ [x]).map fun x => PyData.str (x.out cs) := by rw [List.map_append]; rfl
          rw [em]
          have w2 := walkE_one hw hs
          rw [← etk] at w2
          have fl : ((xs ++ [x]).map (Dd.out cs)).flatMap (·.cps.toList) = o ++ (x.out cs).cps.toList := by rw [List.map_append, List.flatMap_append, hf]; simp
          refine run_if (word_ne x) (fun hi => ?_) fun hi => ?_
          · have hi' : x.isP = false := by simpa using hi
            rw [if_neg (by rw [hi']; exact Bool.false_ne_true)] at w2
            refine run_set (d := .int ((p + 1 : Nat) : Int)) (by simp [op2, opT, nmP, nmW, cons2, Cell.got, callD, lenD, mkT, mkL, addD, addI, subD, modD, fdivD, eqD_int, neD_int, ltD, leD, gtD, geD, asB, truD, notV, andV, orV, notT, orT, andT, shs, negV, negD, isD, isntD, isNone, isiB, toTu, toCons, toNil, toNm, ixD, atI, ixN, asL, asTu, min2D, max2D, intD]) ?_
            simp only [List.set_cons_zero, List.set_cons_succ, Cell.put]
            exact ⟨p + 1, _, xs ++ [x], _, _, w2, fl, by simp; omega, by have := hc2.resolve_left (by rw [hi']; exact Bool.false_ne_true); omega, rfl⟩
          · have hi' : x.isP = true := by simpa using hi
            rw [if_pos hi'] at w2
            exact run_nx ⟨p, _, xs ++ [x], _, _, w2, fl, by simp; omega, hp, rfl⟩
  · rintro ρ ⟨p, o, xs, x4, x5, hw, hf, hxl, hp, rfl⟩
    rw [enum_len, List.length_map, List.take_length] at hw
    rw [enum_len, List.length_map] at hxl
    have elt : decide ((p : Int) < (cs.length : Int)) = decide (p < cs.length) := by
      by_cases h : p < cs.length
      · rw [decide_eq_true h, decide_eq_true (by omega)]
      · rw [decide_eq_false h, decide_eq_false (by omega)]
    refine rs_if (b := decide (p < cs.length)) (by simp [op2, opT, nmP, nmW, cons2, Cell.got, callD, lenD, mkT, mkL, addD, addI, subD, modD, fdivD, eqD_int, neD_int, ltD, leD, gtD, geD, asB, truD, notV, andV, orV, notT, orT, andT, shs, negV, negD, isD, isntD, isNone, isiB, toTu, toCons, toNil, toNm, ixD, atI, ixN, asL, asTu, min2D, max2D, intD, hle, ht, hln, elt]) (fun z => ?_) fun z => ?_
    · have z := of_decide_eq_true z
      refine run_raise (fmt_of (d := .int (p : Nat)) rfl (fok_nat (by omega)) rfl) ?_
      show doneO cs es = badO
      unfold doneO
      rw [hw]
      show (if _ then _ else _) = _
      rw [if_neg (by omega)]
    · have z := of_decide_eq_false z
      have hpl : p = cs.length := by omega
      refine run_ret (d := .str (txt o)) (op2_is (x := .str ⟨#[]⟩) (y := .list (xs.map fun x => PyData.str (x.out cs))) rfl rfl ?_) ⟨?_, Nat.le_of_ble_eq_true rfl⟩
      · obtain ⟨t, e1, e2⟩ := joinD_of (xs.map (Dd.out cs)) (by
          rw [List.map_map]
          have : ∀ xs : List Dd, (xs.map ((·.length) ∘ Dd.out cs)).sum ≤ xs.length := fun xs => by
            induction xs with
            | nil => simp
            | cons a r ih =>
              have ha : (a.out cs).length ≤ 1 := by cases a <;> (show Array.size _ ≤ 1; simp [Dd.out])
              simp only [List.map_cons, List.sum_cons, Function.comp_apply, List.length_cons]
              omega
          have := this xs
          omega)
        rw [List.map_map] at e1
        rw [hf] at e2
        rw [← txt_of e2]
        exact e1
      · unfold doneO
        rw [hw]
        show (if _ then _ else _) = _
        rw [if_pos hpl]
end K5

namespace K5
open PySem L2 DS
theorem rng1_is (n : Nat) (h : n ≤ 100000) : rng1 [.int (n : Nat)] = some ((List.range n).map fun (k : Nat) => PyData.int (k : Nat)) := by
  unfold rng1
  show (if _ then _ else _) = _
  rw [if_pos (by omega)]
  unfold rngD
  simp
theorem mul_is {i j : Int} (h : -1000000 < j ∧ j < 1000000) : mulD (.int i) (.int j) = some (.int (i * j)) := by
  show (if _ then _ else _) = _
  rw [if_pos h]
theorem drawn_is (ns : List Int) {cs : List Nat} (hl : cs.length ≤ 20) : ∃ xs : List Dd, sem__law_deeds [.list (ns.map .int), .str (txt cs)] = some (.ret (.list (xs.map Dd.d)) true []) ∧ (∀ x ∈ xs, x.ok) ∧ xs.length ≤ 3 * (cs.length + 1) := by
  have ht : (txt cs).length = cs.length := rfl
  have hle : (cs.length : Int) ≤ 100000 := by omega
  have hln : cs.length ≤ 100000 := by omega
  have key : ∃ d, sem__law_deeds [.list (ns.map .int), .str (txt cs)] = some (.ret d true []) ∧ ∃ xs : List Dd, d = .list (xs.map Dd.d) ∧ (∀ x ∈ xs, x.ok) ∧ xs.length ≤ 3 * (cs.length + 1) := by
    refine sem_of rfl ?_
    unfold g__law_deeds
    simp only [shs, List.map_cons, List.map_nil, List.replicate_succ, List.replicate_zero, List.cons_append, List.nil_append]
    refine rs_setN (d := .list []) rfl ?_
    simp only [List.set_cons_zero, List.set_cons_succ, Cell.put]
    refine rs_forOf (List.range (cs.length + 1)) (fun (k : Nat) => PyData.int (k : Nat)) (fun ys ρ => ∃ (xs : List Dd) (x3 x4 x5 x6 : Option Cell), (∀ x ∈ xs, x.ok) ∧ xs.length ≤ 3 * ys.length ∧
      ρ = [some (.sh (.list (ns.map .int))), some (.sh (.str (txt cs))), some (.ow (.list (xs.map Dd.d))), x3, x4, x5, x6]) ?_ ⟨[], none, none, none, none, fun _ h => (by cases h), Nat.zero_le _, rfl⟩ ?_ ?_
    · show Option.bind (cons2 _ _ _) rng1 = _
      rw [cons2_is (ds := []) (d := .int ((cs.length + 1 : Nat) : Int)) (by simp [op2, opT, nmP, nmW, cons2, Cell.got, callD, lenD, mkT, mkL, addD, addI, subD, modD, fdivD, eqD_int, neD_int, ltD, leD, gtD, geD, asB, truD, notV, andV, orV, notT, orT, andT, shs, negV, negD, isD, isntD, isNone, isiB, toTu, toCons, toNil, toNm, ixD, atI, ixN, asL, asTu, min2D, max2D, intD, hle, ht, hln]) rfl, Option.bind_some]
      exact rng1_is _ (by omega)
    · rintro ys p r ρ hes ⟨xs, x3, x4, x5, x6, hok, hxl, rfl⟩
      have hpl : ys.length ≤ cs.length := by
        have := congrArg List.length hes
        simp at this
        omega
      refine ⟨_, rfl, ?_⟩
      simp only [List.set_cons_zero, List.set_cons_succ, Cell.put]
      refine rs_set (d := .int (AT ns (13 + (p : Int)))) (call_at rfl rfl (by omega)) ?_
      simp only [List.set_cons_zero, List.set_cons_succ, Cell.put]
      generalize AT ns (13 + (p : Int)) = cell
      obtain ⟨c, hc, hc2⟩ : ∃ c : Nat, cell % 5 / 3 + cell / 5 % 9 / 8 = (c : Nat) ∧ c ≤ 2 := ⟨(cell % 5 / 3 + cell / 5 % 9 / 8).toNat, by omega, by omega⟩
      refine rs_forOf (List.range c) (fun (k : Nat) => PyData.int (k : Nat)) (fun zs ρ => ∃ (us : List Dd) (x5 : Option Cell), (∀ x ∈ us, x.ok) ∧ us.length ≤ xs.length + zs.length ∧
        ρ = [some (.sh (.list (ns.map .int))), some (.sh (.str (txt cs))), some (.ow (.list (us.map Dd.d))), some (.sh (.int (p : Nat))), some (.sh (.int cell)), x5, x6]) ?_ ⟨xs, x5, hok, Nat.le_refl _, rfl⟩ ?_ ?_
      · show Option.bind (cons2 _ _ _) rng1 = _
        rw [cons2_is (ds := []) (d := .int (c : Nat)) (by rw [← hc]; simp [op2, opT, nmP, nmW, cons2, Cell.got, callD, lenD, mkT, mkL, addD, addI, subD, modD, fdivD, eqD_int, neD_int, ltD, leD, gtD, geD, asB, truD, notV, andV, orV, notT, orT, andT, shs, negV, negD, isD, isntD, isNone, isiB, toTu, toCons, toNil, toNm, ixD, atI, ixN, asL, asTu, min2D, max2D, intD]) rfl, Option.bind_some]
        exact rng1_is _ (by omega)
      · rintro zs k r2 ρ hzs ⟨us, x5, hok, hul, rfl⟩
        have hzl : zs.length ≤ 2 := by
          have := congrArg List.length hzs
          simp at this
          omega
        refine ⟨_, rfl, ?_⟩
        simp only [List.set_cons_zero, List.set_cons_succ, Cell.put]
        refine run_app (d := (Dd.put p (S94 (cell / 45 + 3 * (k : Int)))).d) (xs := us.map Dd.d) (c := .ow (.list (us.map Dd.d))) (mkT_of (cons2_is rfl (cons2_is rfl (cons2_is (callS_of (ds := [.int (cell / 45 + 3 * (k : Int))]) (cons2_is (op2_is (x := .int (cell / 45)) (y := .int (3 * (k : Int))) (by simp [op2, opT, nmP, nmW, cons2, Cell.got, callD, lenD, mkT, mkL, addD, addI, subD, modD, fdivD, eqD_int, neD_int, ltD, leD, gtD, geD, asB, truD, notV, andV, orV, notT, orT, andT, shs, negV, negD, isD, isntD, isNone, isiB, toTu, toCons, toNil, toNm, ixD, atI, ixN, asL, asTu, min2D, max2D, intD]) (op2_is (x := .int 3) (y := .int (k : Nat)) rfl rfl (mul_is ?_)) rfl) rfl) (sign_is _)) rfl)))) rfl rfl rfl (by rw [List.length_map]; omega) ?_
        · have : k ∈ List.range c := by rw [hzs]; simp
          rw [List.mem_range] at this
          omega
        · simp only [List.set_cons_zero, List.set_cons_succ, Cell.put]
          refine ⟨us ++ [Dd.put p (S94 (cell / 45 + 3 * (k : Int)))], _, fun x hx => ?_, by simp; omega, by rw [List.map_append]; rfl⟩
          rcases List.mem_append.mp hx with hx | hx
          · exact hok x hx
          · rw [List.mem_singleton] at hx
            rw [hx]
            exact S94_ok _
      · rintro ρ ⟨us, x5, hok, hul, rfl⟩
        rw [List.length_range] at hul
        have add : ∀ x : Dd, x.ok → ∃ (xs : List Dd) (y3 y4 y5 y6 : Option Cell), (∀ x ∈ xs, x.ok) ∧ xs.length ≤ 3 * (ys ++ [p]).length ∧ [some (Cell.sh (.list (ns.map .int))), some (.sh (.str (txt cs))), some (.ow (.list (us.map Dd.d ++ [x.d]))), some (.sh (.int (p : Nat))), some (.sh (.int cell)), x5, some (.sh (.int (cell / 5 % 3)))] = [some (.sh (.list (ns.map .int))), some (.sh (.str (txt cs))), some (.ow (.list (xs.map Dd.d))), y3, y4, y5, y6] := by
          intro x hx
          refine ⟨us ++ [x], _, _, _, _, fun y hy => ?_, by simp; omega, by rw [List.map_append]; rfl⟩
          rcases List.mem_append.mp hy with hy | hy
          · exact hok y hy
          · rw [List.mem_singleton] at hy
            rw [hy]
            exact hx
        refine run_if (b := decide ((p : Int) < (cs.length : Int))) (by simp [op2, opT, nmP, nmW, cons2, Cell.got, callD, lenD, mkT, mkL, addD, addI, subD, modD, fdivD, eqD_int, neD_int, ltD, leD, gtD, geD, asB, truD, notV, andV, orV, notT, orT, andT, shs, negV, negD, isD, isntD, isNone, isiB, toTu, toCons, toNil, toNm, ixD, atI, ixN, asL, asTu, min2D, max2D, intD, hle, ht, hln]) (fun z => ?_) fun z => run_nx ⟨us, _, _, _, _, hok, by simp; omega, rfl⟩
        refine rs_set (d := .int (cell / 5 % 3)) (by simp [op2, opT, nmP, nmW, cons2, Cell.got, callD, lenD, mkT, mkL, addD, addI, subD, modD, fdivD, eqD_int, neD_int, ltD, leD, gtD, geD, asB, truD, notV, andV, orV, notT, orT, andT, shs, negV, negD, isD, isntD, isNone, isiB, toTu, toCons, toNil, toNm, ixD, atI, ixN, asL, asTu, min2D, max2D, intD]) ?_
        simp only [List.set_cons_zero, List.set_cons_succ, Cell.put]
        refine run_if (b := decide (cell / 5 % 3 = 0)) (by simp [op2, opT, nmP, nmW, cons2, Cell.got, callD, lenD, mkT, mkL, addD, addI, subD, modD, fdivD, eqD_int, neD_int, ltD, leD, gtD, geD, asB, truD, notV, andV, orV, notT, orT, andT, shs, negV, negD, isD, isntD, isNone, isiB, toTu, toCons, toNil, toNm, ixD, atI, ixN, asL, asTu, min2D, max2D, intD]) (fun z => ?_) fun z => run_if (b := decide (cell / 5 % 3 = 1)) (by simp [op2, opT, nmP, nmW, cons2, Cell.got, callD, lenD, mkT, mkL, addD, addI, subD, modD, fdivD, eqD_int, neD_int, ltD, leD, gtD, geD, asB, truD, notV, andV, orV, notT, orT, andT, shs, negV, negD, isD, isntD, isNone, isiB, toTu, toCons, toNil, toNm, ixD, atI, ixN, asL, asTu, min2D, max2D, intD]) (fun z => ?_) fun z => ?_
        · refine run_app (d := (Dd.keep p).d) (xs := us.map Dd.d) (c := .ow (.list (us.map Dd.d))) (mkT_of rfl) rfl rfl rfl (by rw [List.length_map]; omega) ?_
          simp only [List.set_cons_zero, List.set_cons_succ, Cell.put]
          exact add (.keep p) trivial
        · refine run_app (d := (Dd.change p (S94 (cell / 45))).d) (xs := us.map Dd.d) (c := .ow (.list (us.map Dd.d))) (mkT_of (cons2_is rfl (cons2_is rfl (cons2_is (callS_of (ds := [.int (cell / 45)]) (by simp [op2, opT, nmP, nmW, cons2, Cell.got, callD, lenD, mkT, mkL, addD, addI, subD, modD, fdivD, eqD_int, neD_int, ltD, leD, gtD, geD, asB, truD, notV, andV, orV, notT, orT, andT, shs, negV, negD, isD, isntD, isNone, isiB, toTu, toCons, toNil, toNm, ixD, atI, ixN, asL, asTu, min2D, max2D, intD]) (sign_is _)) rfl)))) rfl rfl rfl (by rw [List.length_map]; omega) ?_
          simp only [List.set_cons_zero, List.set_cons_succ, Cell.put]
          exact add (.change p _) (S94_ok _)
        · refine run_app (d := (Dd.cut p).d) (xs := us.map Dd.d) (c := .ow (.list (us.map Dd.d))) (mkT_of rfl) rfl rfl rfl (by rw [List.length_map]; omega) ?_
          simp only [List.set_cons_zero, List.set_cons_succ, Cell.put]
          exact add (.cut p) trivial
    · rintro ρ ⟨xs, x3, x4, x5, x6, hok, hxl, rfl⟩
      rw [List.length_range] at hxl
      exact run_retNm rfl (ret_ok (Nat.le_of_ble_eq_true rfl) ⟨xs, rfl, hok, hxl⟩)
  obtain ⟨d, e1, xs, rfl, h⟩ := key
  exact ⟨xs, e1, h⟩
/-! one thing that is odd -/
theorem str_a : ("a" : Str) = ⟨#[97]⟩ := by decide +kernel
theorem strOk_of {s : Str} (h : TxOk s) : PyData.strOk s = true := h.2
def oddL (size p : Nat) : List D :=
  [.tuple [.str "keep", .int (-1)], .tuple [.str "put", .int ((size : Int) + 1), .str "a"], .tuple [.str "keep", .int (size : Nat)], .tuple [.str "cut", .int (size : Nat)], .tuple [.str "change", .int (size : Nat), .str "a"], .tuple [.str "Keep", .int (p : Nat)],
   .tuple [.str "cut", .int (p : Nat), .str "a"], .tuple [.str "put", .int (p : Nat)], .tuple [.str "put", .int (p : Nat), .str ""], .tuple [.str "put", .int (p : Nat), .str "ab"], .tuple [.str "put", .int (p : Nat), .none],
   .tuple [.str "put", .bool true, .str "a"], .list [.str "keep", .int (p : Nat)], .tuple [], .tuple [.str "keep"], .none, .tuple [.str "change", .int (p : Nat), .str "\n"], .tuple [.str "keep", .str "0"],
   .tuple [.list [.str "keep"], .int (p : Nat)], .tuple [.str "keep", .list [.int (p : Nat)]], .tuple [.str "put", .int (p : Nat), .list [.str "a"]], .tuple [.dict [], .int (p : Nat)], .tuple [.str "put", .int (p : Nat), .dict []]]
theorem tx_a : TxOk "a" := tx_of "a"
theorem oddL_good (size p : Nat) : ∀ d ∈ oddL size p, ∃ e : El, e.good ∧ e.d = d := by
  intro d hd
  have bad : ∀ d, Bad d → ∃ e : El, e.good ∧ e.d = d := fun d h => ⟨.bad d, h, rfl⟩
  unfold oddL at hd
  simp only [List.mem_cons, List.not_mem_nil, or_false] at hd
  rcases hd with rfl | rfl | rfl | rfl | rfl | rfl | rfl | rfl | rfl | rfl | rfl | rfl | rfl | rfl | rfl | rfl | rfl | rfl | rfl | rfl | rfl | rfl | rfl
  · exact bad _ bad_neg
  · exact ⟨.ok (.put (size + 1) 97), (by decide : sgB 97 = true), by rw [str_a]; rfl⟩
  · exact ⟨.ok (.keep size), trivial, rfl⟩
  · exact ⟨.ok (.cut size), trivial, rfl⟩
  · exact ⟨.ok (.change size 97), (by decide : sgB 97 = true), by rw [str_a]; rfl⟩
  · exact bad _ (bad_word2 "Keep" (tx_of "Keep") (by decide) (by decide) p)
  · exact bad _ (bad_cut3 p)
  · exact bad _ (bad_word2 "put" tx_put (by decide) (by decide) p)
  · exact bad _ (bad_sign "put" (.inl rfl) p _ (.len _ (by decide) (by decide)) (tx_of "").2)
  · exact bad _ (bad_sign "put" (.inl rfl) p _ (.len _ (by decide) (by decide)) (tx_of "ab").2)
  · exact bad _ (bad_sign "put" (.inl rfl) p _ .none rfl)
  · exact bad _ (bad_place "put" (.bool true) [.str "a"] (.inr ⟨_, rfl⟩) rfl (by simp [selfOk, tx_put.2, tx_a.2]))
  · exact bad _ (bad_list _ (by simp [selfOk, tx_keep.2]))
  · exact bad _ bad_nil
  · exact bad _ (bad_one _ (by simp [selfOk, tx_keep.2]))
  · exact bad _ bad_none
  · exact bad _ (bad_sign "change" (.inr rfl) p _ .nl tx_nl.2)
  · exact bad _ (bad_place "keep" (.str "0") [] (.inl rfl) rfl (by simp [selfOk, tx_keep.2, (tx_of "0").2]))
  · exact bad _ (bad_wordD _ (.inl ⟨"keep", tx_keep, rfl⟩) p)
  · exact bad _ (bad_place "keep" (.list [.int (p : Nat)]) [] (.inl rfl) rfl (by simp [selfOk, tx_keep.2]))
  · exact bad _ (bad_sign "put" (.inl rfl) p _ (.lst _) (by simp [selfOk, tx_a.2]))
  · exact bad _ (bad_wordD _ (.inr rfl) p)
  · exact bad _ (bad_sign "put" (.inl rfl) p _ .dct rfl)
theorem ix_lst {ds : List D} {i : Int} {d : D} (h0 : 0 ≤ i) (h : ds[i.toNat]? = some d) : ixD (.list ds) (.int i) = some d := by
  show atI ds i = _
  unfold atI ixN
  have hl := (List.getElem?_eq_some_iff.mp h).1
  rw [if_pos h0, if_pos (by omega)]
  exact h
theorem odd_is (cell : Int) (size place : Nat) : ∃ e : El, e.good ∧ sem__law_odd [.int cell, .int (size : Nat), .int (place : Nat)] = some (.ret e.d false []) := by
  have key : ∃ d, sem__law_odd [.int cell, .int (size : Nat), .int (place : Nat)] = some (.ret d false []) ∧ ∃ e : El, e.good ∧ e.d = d := by
    refine sem_of rfl ?_
    unfold g__law_odd
    simp only [shs, List.map_cons, List.map_nil, List.replicate_succ, List.replicate_zero, List.cons_append, List.nil_append]
    have rest : ∀ p : Nat, Run (seqS (setN 3 (mkL (cons2 (mkT (cons2 (fun _ => some (.str "keep")) (cons2 (negV (fun _ => some (.int 1))) (fun _ => some [])))) (cons2 (mkT (cons2 (fun _ => some (.str "put")) (cons2 (op2 addD (nmW 1) (fun _ => some (.int 1))) (cons2 (fun _ => some (.str "a")) (fun _ => some []))))) (cons2 (mkT (cons2 (fun _ => some (.str "keep")) (cons2 (nmP 1) (fun _ => some [])))) (cons2 (mkT (cons2 (fun _ => some (.str "cut")) (cons2 (nmP 1) (fun _ => some [])))) (cons2 (mkT (cons2 (fun _ => some (.str "change")) (cons2 (nmP 1) (cons2 (fun _ => some (.str "a")) (fun _ => some []))))) (cons2 (mkT (cons2 (fun _ => some (.str "Keep")) (cons2 (nmP 2) (fun _ => some [])))) (fun _ => some [])))))))))
    (seqS (setN 3 (op2 catD (nmW 3) (mkL (cons2 (mkT (cons2 (fun _ => some (.str "cut")) (cons2 (nmP 2) (cons2 (fun _ => some (.str "a")) (fun _ => some []))))) (cons2 (mkT (cons2 (fun _ => some (.str "put")) (cons2 (nmP 2) (fun _ => some [])))) (cons2 (mkT (cons2 (fun _ => some (.str "put")) (cons2 (nmP 2) (cons2 (fun _ => some (.str "")) (fun _ => some []))))) (cons2 (mkT (cons2 (fun _ => some (.str "put")) (cons2 (nmP 2) (cons2 (fun _ => some (.str "ab")) (fun _ => some []))))) (cons2 (mkT (cons2 (fun _ => some (.str "put")) (cons2 (nmP 2) (cons2 (fun _ => some .none) (fun _ => some []))))) (fun _ => some [])))))))))
    (seqS (setN 3 (op2 catD (nmW 3) (mkL (cons2 (mkT (cons2 (fun _ => some (.str "put")) (cons2 (fun _ => some (.bool true)) (cons2 (fun _ => some (.str "a")) (fun _ => some []))))) (cons2 (mkL (cons2 (fun _ => some (.str "keep")) (cons2 (nmP 2) (fun _ => some [])))) (cons2 (mkT (fun _ => some [])) (cons2 (mkT (cons2 (fun _ => some (.str "keep")) (fun _ => some []))) (cons2 (fun _ => some .none) (cons2 (mkT (cons2 (fun _ => some (.str "change")) (cons2 (nmP 2) (cons2 (fun _ => some (.str "\n")) (fun _ => some []))))) (cons2 (mkT (cons2 (fun _ => some (.str "keep")) (cons2 (fun _ => some (.str "0")) (fun _ => some [])))) (fun _ => some [])))))))))))
    (seqS (setN 3 (op2 catD (nmW 3) (mkL (cons2 (mkT (cons2 (mkL (cons2 (fun _ => some (.str "keep")) (fun _ => some []))) (cons2 (nmP 2) (fun _ => some [])))) (cons2 (mkT (cons2 (fun _ => some (.str "keep")) (cons2 (mkL (cons2 (nmP 2) (fun _ => some []))) (fun _ => some [])))) (cons2 (mkT (cons2 (fun _ => some (.str "put")) (cons2 (nmP 2) (cons2 (mkL (cons2 (fun _ => some (.str "a")) (fun _ => some []))) (fun _ => some []))))) (cons2 (mkT (cons2 (fun _ => some (.dict [])) (cons2 (nmP 2) (fun _ => some [])))) (cons2 (mkT (cons2 (fun _ => some (.str "put")) (cons2 (nmP 2) (cons2 (fun _ => some (.dict [])) (fun _ => some []))))) (fun _ => some [])))))))))
    (fun ρ => ((op2 ixD (nmW 3) (op2 modD (nmW 0) (fun _ => some (.int 23)))) ρ).map fun d => .rt d false ρ))))
      [some (.sh (.int cell)), some (.sh (.int (size : Nat))), some (.sh (.int (p : Nat))), none]) (Ret 3 false fun d => ∃ e : El, e.good ∧ e.d = d) := by
      intro p
      refine rs_setN (d := .list ((oddL size p).take 6)) (by rfl) ?_
      refine rs_setN (d := .list ((oddL size p).take 11)) (op2_is (x := .list ((oddL size p).take 6)) (y := .list (((oddL size p).drop 6).take 5)) rfl (by rfl) (by rfl)) ?_
      refine rs_setN (d := .list ((oddL size p).take 18)) (op2_is (x := .list ((oddL size p).take 11)) (y := .list (((oddL size p).drop 11).take 7)) rfl (by rfl) (by rfl)) ?_
      refine rs_setN (d := .list (oddL size p)) (op2_is (x := .list ((oddL size p).take 18)) (y := .list (((oddL size p).drop 18).take 5)) rfl (by rfl) (by rfl)) ?_
      simp only [List.set_cons_zero, List.set_cons_succ, Cell.put]
      have hlt : (cell % 23).toNat < (oddL size p).length := by
        show _ < 23
        omega
      refine run_ret (d := (oddL size p)[(cell % 23).toNat]) (op2_is (x := .list (oddL size p)) (y := .int (cell % 23)) rfl (by simp [op2, opT, nmP, nmW, cons2, Cell.got, callD, lenD, mkT, mkL, addD, addI, subD, modD, fdivD, eqD_int, neD_int, ltD, leD, gtD, geD, asB, truD, notV, andV, orV, notT, orT, andT, shs, negV, negD, isD, isntD, isNone, isiB, toTu, toCons, toNil, toNm, ixD, atI, ixN, asL, asTu, min2D, max2D, intD]) (ix_lst (by omega) (List.getElem?_eq_getElem hlt))) (ret_ok (Nat.le_of_ble_eq_true rfl) (oddL_good size p _ (List.getElem_mem hlt)))
    refine rs_if (b := decide (cell / 23 % 3 = 2)) (by simp [op2, opT, nmP, nmW, cons2, Cell.got, callD, lenD, mkT, mkL, addD, addI, subD, modD, fdivD, eqD_int, neD_int, ltD, leD, gtD, geD, asB, truD, notV, andV, orV, notT, orT, andT, shs, negV, negD, isD, isntD, isNone, isiB, toTu, toCons, toNil, toNm, ixD, atI, ixN, asL, asTu, min2D, max2D, intD]) (fun z => ?_) fun z => rest place
    have e : cell % ((size : Int) + 2) = ((cell % ((size : Int) + 2)).toNat : Nat) := by
      have := Int.emod_nonneg cell (b := (size : Int) + 2) (by omega)
      omega
    refine run_set (d := .int ((cell % ((size : Int) + 2)).toNat : Nat)) ?_ ?_
    · rw [← e]
      have h2 : (0 : Int) < (size : Int) + 2 := by omega
      simp [op2, opT, nmP, nmW, cons2, Cell.got, callD, lenD, mkT, mkL, addD, addI, subD, modD, fdivD, eqD_int, neD_int, ltD, leD, gtD, geD, asB, truD, notV, andV, orV, notT, orT, andT, shs, negV, negD, isD, isntD, isNone, isiB, toTu, toCons, toNil, toNm, ixD, atI, ixN, asL, asTu, min2D, max2D, intD, h2]
    · exact rest _
  obtain ⟨d, e1, e, e2, rfl⟩ := key
  exact ⟨e, e2, e1⟩
end K5

namespace K5
open PySem L2 DS
theorem run_ins {i : Nat} {fk f : Nv → Option D} {ρ : Nv} {c : Cell} {xs : List D} {x : D} {k : Nat} {φ : SR → Prop} (h0 : fk ρ = some (.int (k : Nat))) (h1 : f ρ = some x) (hc : ρ[i]? = some (some c)) (hm : c.mine = true) (hg : c.got = .list xs) (hk : k ≤ 1000) (hl : xs.length < 1000) (q : φ (.nx (ρ.set i (some (c.put (.list (xs.take k ++ x :: xs.drop k))))))) : Run (insS i fk f ρ) φ := by
  unfold insS
  rw [h0, Option.bind_some, h1, Option.bind_some]
  refine run_mut hc hm ?_ q
  rw [hg]
  show (if _ then _ else _) = _
  rw [if_pos ⟨by omega, by omega, by omega⟩]
  rfl
theorem run_popAt {i : Nat} {fk : Nv → Option D} {ρ : Nv} {c : Cell} {xs : List D} {k : Nat} {φ : SR → Prop} (h0 : fk ρ = some (.int (k : Nat))) (hc : ρ[i]? = some (some c)) (hm : c.mine = true) (hg : c.got = .list xs) (hk : k < xs.length) (hl : xs.length < 1000) (q : φ (.nx (ρ.set i (some (c.put (.list (xs.eraseIdx k))))))) : Run (popAtS i fk ρ) φ := by
  unfold popAtS
  rw [h0, Option.bind_some]
  refine run_mut hc hm ?_ q
  rw [hg]
  show (if _ then _ else _) = _
  rw [if_pos ⟨by omega, by omega, by omega⟩]
  rfl
def Dd.moved (q : Nat) : Dd → Dd
  | .put _ s => .put q s
  | .keep _ => .keep q
  | .change _ s => .change q s
  | .cut _ => .cut q
def Dd.rest : Dd → List D
  | .put _ s => [sgD s]
  | .change _ s => [sgD s]
  | _ => []
theorem erase_map {α β : Type} (f : α → β) : ∀ (xs : List α) (k : Nat), (xs.map f).eraseIdx k = (xs.eraseIdx k).map f
  | [], _ => rfl
  | _ :: _, 0 => rfl
  | x :: r, k + 1 => by
    show f x :: (r.map f).eraseIdx k = f x :: (r.eraseIdx k).map f
    rw [erase_map f r k]
theorem moved_ok {x : Dd} (h : x.ok) (q : Nat) : (x.moved q).ok := by cases x <;> exact h
theorem dd_at (x : Dd) : ixD x.d (.int 1) = some (.int (x.at : Nat)) := by cases x <;> rfl
theorem dd_word (x : Dd) : ixD x.d (.int 0) = some (.str x.word) := by cases x <;> rfl
theorem dd_moved (x : Dd) (q : Nat) : addTD (.tuple [.str x.word, .int (q : Nat)]) (.tuple x.rest) = some (x.moved q).d := by cases x <;> rfl
theorem dd_tail (x : Dd) {ρ : Nv} {f : Nv → Option D} (h : f ρ = some x.d) : slS f (fun ρ => ((fun _ => some (.int 2)) ρ).bind fun x => (asI x).map some) (fun _ => some none) ρ = some (.tuple x.rest) := by
  unfold slS
  rw [h]
  cases x <;> rfl
theorem changed_is (xs : List Dd) (hx : ∀ x ∈ xs, x.ok) (hn : xs.length ≤ 90) (cell cell2 : Int) (size : Nat) : ∃ es : List El, sem__law_changed [.list (xs.map Dd.d), .int cell, .int (size : Nat), .int cell2] = some (.ret (.list (es.map El.d)) true []) ∧ (∀ e ∈ es, e.good) ∧ es.length ≤ 91 := by
  have key : ∃ d, sem__law_changed [.list (xs.map Dd.d), .int cell, .int (size : Nat), .int cell2] = some (.ret d true []) ∧ ∃ es : List El, d = .list (es.map El.d) ∧ (∀ e ∈ es, e.good) ∧ es.length ≤ 91 := by
    refine sem_of rfl ?_
    unfold g__law_changed
    simp only [shs, List.map_cons, List.map_nil, List.replicate_succ, List.replicate_zero, List.cons_append, List.nil_append]
    refine rs_setN (d := .list (xs.map Dd.d)) rfl ?_
    simp only [List.set_cons_zero, List.set_cons_succ, Cell.put]
    obtain ⟨a, ha, ha2⟩ : ∃ a : Nat, cell / 6 % ((xs.length : Int) + 1) = (a : Nat) ∧ a ≤ xs.length := by
      have h1 := Int.emod_nonneg (cell / 6) (b := (xs.length : Int) + 1) (by omega)
      have h2 := Int.emod_lt_of_pos (cell / 6) (b := (xs.length : Int) + 1) (by omega)
      exact ⟨(cell / 6 % ((xs.length : Int) + 1)).toNat, by omega, by omega⟩
    have hp1 : (0 : Int) < (xs.length : Int) + 1 := by omega
    have hp2 : (xs.length : Int) + 1 < 1073741824 := by omega
    refine rs_set (d := .int (a : Nat)) (by rw [← ha]; simp [op2, opT, nmP, nmW, cons2, Cell.got, callD, lenD, mkT, mkL, addD, addI, subD, modD, fdivD, eqD_int, neD_int, ltD, leD, gtD, geD, asB, truD, notV, andV, orV, notT, orT, andT, shs, negV, negD, isD, isntD, isNone, isiB, toTu, toCons, toNil, toNm, ixD, atI, ixN, asL, asTu, min2D, max2D, intD, hp1]) (rs_set (d := .int (cell / 6 / ((xs.length : Int) + 1))) (by simp [op2, opT, nmP, nmW, cons2, Cell.got, callD, lenD, mkT, mkL, addD, addI, subD, modD, fdivD, eqD_int, neD_int, ltD, leD, gtD, geD, asB, truD, notV, andV, orV, notT, orT, andT, shs, negV, negD, isD, isntD, isNone, isiB, toTu, toCons, toNil, toNm, ixD, atI, ixN, asL, asTu, min2D, max2D, intD, hp1, hp2]) ?_)
    simp only [List.set_cons_zero, List.set_cons_succ, Cell.put]
    generalize cell / 6 / ((xs.length : Int) + 1) = more
    have t : ∀ (j : Int) (c0 : Option Cell) (r : Nv), opT eqD (op2 modD (nmW 1) (fun _ => some (.int 6))) (fun _ => some (.int j)) (c0 :: some (.sh (.int cell)) :: r) = some (decide (cell % 6 = j)) := fun j c0 r => by simp [op2, opT, nmP, nmW, cons2, Cell.got, callD, lenD, mkT, mkL, addD, addI, subD, modD, fdivD, eqD_int, neD_int, ltD, leD, gtD, geD, asB, truD, notV, andV, orV, notT, orT, andT, shs, negV, negD, isD, isntD, isNone, isiB, toTu, toCons, toNil, toNm, ixD, atI, ixN, asL, asTu, min2D, max2D, intD]
    have lt : ∀ (j : Int) (c2 c3 c5 c6 : Option Cell), andT (opT eqD (op2 modD (nmW 1) (fun _ => some (.int 6))) (fun _ => some (.int j))) (opT ltD (nmW 4) (callD lenD (cons2 (nmW 0) (fun _ => some [])))) [some (.ow (.list (xs.map Dd.d))), some (.sh (.int cell)), c2, c3, some (.sh (.int (a : Nat))), c5, c6] = some (decide (cell % 6 = j) && decide ((a : Int) < (xs.length : Int))) := fun j c2 c3 c5 c6 =>
      andT_of (t j _ _) fun _ => by simp [op2, opT, nmP, nmW, cons2, Cell.got, callD, lenD, mkT, mkL, addD, addI, subD, modD, fdivD, eqD_int, neD_int, ltD, leD, gtD, geD, asB, truD, notV, andV, orV, notT, orT, andT, shs, negV, negD, isD, isntD, isNone, isiB, toTu, toCons, toNil, toNm, ixD, atI, ixN, asL, asTu, min2D, max2D, intD]
    have lf : ∀ (j : Int) (h : cell % 6 ≠ j) (c0 : Option Cell) (r : Nv), andT (opT eqD (op2 modD (nmW 1) (fun _ => some (.int 6))) (fun _ => some (.int j))) (opT ltD (nmW 4) (callD lenD (cons2 (nmW 0) (fun _ => some [])))) (c0 :: some (.sh (.int cell)) :: r) = some false := fun j h c0 r => by
      have := andT_of (b := false) (gb := opT ltD (nmW 4) (callD lenD (cons2 (nmW 0) (fun _ => some [])))) (t j c0 r) fun z => absurd (of_decide_eq_true z) h
      rw [decide_eq_false h] at this
      exact this
    have good : ∀ (es : List El), (∀ e ∈ es, e.good) → es.length ≤ 91 → ∀ (c1 c2 c3 c4 c5 c6 : Option Cell), Run (retNm 0 [some (.ow (.list (es.map El.d))), c1, c2, c3, c4, c5, c6]) (Ret 4 true fun d => ∃ es : List El, d = .list (es.map El.d) ∧ (∀ e ∈ es, e.good) ∧ es.length ≤ 91) := fun es h1 h2 c1 c2 c3 c4 c5 c6 => run_retNm rfl (ret_ok (Nat.le_of_ble_eq_true rfl) ⟨es, rfl, h1, h2⟩)
    have goodX : ∀ (us : List Dd), (∀ e ∈ us, e.ok) → us.length ≤ 91 → ∀ (c1 c2 c3 c4 c5 c6 : Option Cell), Run (retNm 0 [some (.ow (.list (us.map Dd.d))), c1, c2, c3, c4, c5, c6]) (Ret 4 true fun d => ∃ es : List El, d = .list (es.map El.d) ∧ (∀ e ∈ es, e.good) ∧ es.length ≤ 91) := fun us h1 h2 c1 c2 c3 c4 c5 c6 => by
      have e : us.map Dd.d = (us.map El.ok).map El.d := by rw [List.map_map]; rfl
      rw [e]
      refine good _ (fun e he => ?_) (by simpa using h2) _ _ _ _ _ _
      obtain ⟨x, hx, rfl⟩ := List.mem_map.mp he
      exact h1 x hx
    have ml : (xs.map Dd.d).length = xs.length := List.length_map ..
    -- nothing left to do
    have tail3 : ∀ (us : List Dd), (∀ e ∈ us, e.ok) → us.length ≤ 91 → cell % 6 ≠ 3 → cell % 6 ≠ 4 → ∀ (c2 c3 c4 c5 c6 : Option Cell), Run ((seqS (ifS (opT eqD (op2 modD (nmW 1) (fun _ => some (.int 6))) (fun _ => some (.int 3)))
      (seqS (setS 6 (op2 ixD (op2 ixD (op2 catD (nmW 0) (mkL (cons2 (mkT (cons2 (fun _ => some (.str "end")) (cons2 (nmP 2) (fun _ => some [])))) (fun _ => some [])))) (nmW 4)) (fun _ => some (.int 1))))
    (insS 0 (nmP 4) (callS 3 sem__law_odd (cons2 (nmP 3) (cons2 (nmP 2) (cons2 (nmP 6) (fun _ => some [])))))))
      (fun ρ => some (.nx ρ)))
    (seqS (ifS (andT (opT eqD (op2 modD (nmW 1) (fun _ => some (.int 6))) (fun _ => some (.int 4))) (opT ltD (nmW 4) (callD lenD (cons2 (nmW 0) (fun _ => some [])))))
      (putLS 0 (nmW 4) (op2 addTD (mkT (cons2 (op2 ixD (op2 ixD (nmW 0) (nmW 4)) (fun _ => some (.int 0))) (cons2 (op2 modD (nmW 5) (op2 addD (nmW 2) (fun _ => some (.int 1)))) (fun _ => some [])))) (slS (op2 ixD (nmW 0) (nmW 4)) (fun ρ => ((fun _ => some (.int 2)) ρ).bind fun x => (asI x).map some) (fun _ => some none))))
      (fun ρ => some (.nx ρ)))
    (retNm 0))) [some (.ow (.list (us.map Dd.d))), some (.sh (.int cell)), c2, c3, c4, c5, c6]) (Ret 4 true fun d => ∃ es : List El, d = .list (es.map El.d) ∧ (∀ e ∈ es, e.good) ∧ es.length ≤ 91) := by
      intro us h1 h2 n3 n4 c2 c3 c4 c5 c6
      refine rs_if (b := false) ((t 3 _ _).trans (by rw [decide_eq_false n3])) (fun z => by cases z) fun _ => ?_
      refine rs_if (b := false) (lf 4 n4 _ _) (fun z => by cases z) fun _ => ?_
      exact goodX us h1 h2 _ _ _ _ _ _
    refine rs_if (lt 1 _ _ _ _) (fun z => ?_) fun z1 => ?_
    · simp only [Bool.and_eq_true, decide_eq_true_eq] at z
      have hal : a < xs.length := by omega
      refine run_popAt (k := a) (xs := xs.map Dd.d) rfl rfl rfl rfl (by omega) (by omega) ?_
      simp only [List.set_cons_zero, List.set_cons_succ, Cell.put]
      refine rs_if (b := false) (lf 2 (by omega) _ _) (fun z => by cases z) fun _ => ?_
      have em : (xs.map Dd.d).eraseIdx a = (xs.eraseIdx a).map Dd.d := erase_map Dd.d xs a
      rw [em]
      exact tail3 _ (fun x h => hx x (List.mem_of_mem_eraseIdx h)) (by rw [List.length_eraseIdx]; split <;> omega) (by omega) (by omega) _ _ _ _ _
    · refine rs_if (lt 2 _ _ _ _) (fun z => ?_) fun z2 => ?_
      · simp only [Bool.and_eq_true, decide_eq_true_eq] at z
        have hal : a < xs.length := by omega
        have gx : (xs.map Dd.d)[a]? = some (xs[a]).d := by rw [List.getElem?_map, List.getElem?_eq_getElem hal]; rfl
        refine run_ins (k := a) (x := (xs[a]).d) (xs := xs.map Dd.d) rfl (op2_is (x := .list (xs.map Dd.d)) (y := .int (a : Nat)) rfl rfl (ix_lst (by omega) (by rw [Int.toNat_natCast]; exact gx))) rfl rfl rfl (by omega) (by omega) ?_
        simp only [List.set_cons_zero, List.set_cons_succ, Cell.put]
        have em : (xs.map Dd.d).take a ++ (xs[a]).d :: (xs.map Dd.d).drop a = (xs.take a ++ xs[a] :: xs.drop a).map Dd.d := by simp [List.map_take, List.map_drop]
        rw [em]
        refine tail3 _ (fun x h => ?_) (by simp; omega) (by omega) (by omega) _ _ _ _ _
        rcases List.mem_append.mp h with h | h
        · exact hx x (List.mem_of_mem_take h)
        · rcases List.mem_cons.mp h with h | h
          · rw [h]
            exact hx _ (List.getElem_mem hal)
          · exact hx x (List.mem_of_mem_drop h)
      · refine rs_if (t 3 _ _) (fun z => ?_) fun z3 => ?_
        · have z := of_decide_eq_true z
          obtain ⟨pl, hpl⟩ : ∃ pl : Nat, op2 ixD (op2 ixD (op2 catD (nmW 0) (mkL (cons2 (mkT (cons2 (fun _ => some (.str "end")) (cons2 (nmP 2) (fun _ => some [])))) (fun _ => some [])))) (nmW 4)) (fun _ => some (.int 1)) [some (.ow (.list (xs.map Dd.d))), some (.sh (.int cell)), some (.sh (.int (size : Nat))), some (.sh (.int cell2)), some (.sh (.int (a : Nat))), some (.sh (.int more)), none] = some (.int (pl : Nat)) := by
            have cat : op2 catD (nmW 0) (mkL (cons2 (mkT (cons2 (fun _ => some (.str "end")) (cons2 (nmP 2) (fun _ => some [])))) (fun _ => some []))) [some (.ow (.list (xs.map Dd.d))), some (.sh (.int cell)), some (.sh (.int (size : Nat))), some (.sh (.int cell2)), some (.sh (.int (a : Nat))), some (.sh (.int more)), none] = some (.list (xs.map Dd.d ++ [.tuple [.str "end", .int (size : Nat)]])) := by
              refine op2_is (x := .list (xs.map Dd.d)) (y := .list [.tuple [.str "end", .int (size : Nat)]]) rfl rfl ?_
              show (if _ then _ else _) = _
              rw [if_pos (by rw [ml]; show _ + 1 ≤ _; omega)]
            by_cases hal : a < xs.length
            · refine ⟨(xs[a]).at, op2_is (x := (xs[a]).d) (y := .int 1) (op2_is (x := .list (xs.map Dd.d ++ [.tuple [.str "end", .int (size : Nat)]])) (y := .int (a : Nat)) cat rfl (ix_lst (by omega) ?_)) rfl (dd_at _)⟩
              rw [Int.toNat_natCast, List.getElem?_append_left (by omega), List.getElem?_map, List.getElem?_eq_getElem hal]
              rfl
            · refine ⟨size, op2_is (x := .tuple [.str "end", .int (size : Nat)]) (y := .int 1) (op2_is (x := .list (xs.map Dd.d ++ [.tuple [.str "end", .int (size : Nat)]])) (y := .int (a : Nat)) cat rfl (ix_lst (by omega) ?_)) rfl rfl⟩
              have : a = (xs.map Dd.d).length := by omega
              rw [Int.toNat_natCast, this, List.getElem?_append_right (Nat.le_refl _), Nat.sub_self]
              rfl
          refine rs_set hpl ?_
          simp only [List.set_cons_zero, List.set_cons_succ, Cell.put]
          obtain ⟨e, eg, eo⟩ := odd_is cell2 size pl
          refine run_ins (k := a) (x := e.d) (xs := xs.map Dd.d) rfl (callS_of (ds := [.int cell2, .int (size : Nat), .int (pl : Nat)]) rfl eo) rfl rfl rfl (by omega) (by omega) ?_
          simp only [List.set_cons_zero, List.set_cons_succ, Cell.put]
          refine rs_if (b := false) (lf 4 (by omega) _ _) (fun z => by cases z) fun _ => ?_
          have em : (xs.map Dd.d).take a ++ e.d :: (xs.map Dd.d).drop a = ((xs.take a).map El.ok ++ e :: (xs.drop a).map El.ok).map El.d := by
            rw [List.map_append, List.map_cons, List.map_map, List.map_map, List.map_take, List.map_drop]
            rfl
          rw [em]
          refine good _ (fun x h => ?_) (by simp; omega) _ _ _ _ _ _
          rcases List.mem_append.mp h with h | h
          · obtain ⟨y, hy, rfl⟩ := List.mem_map.mp h
            exact hx y (List.mem_of_mem_take hy)
          · rcases List.mem_cons.mp h with h | h
            · rw [h]
              exact eg
            · obtain ⟨y, hy, rfl⟩ := List.mem_map.mp h
              exact hx y (List.mem_of_mem_drop hy)
        · refine rs_if (lt 4 _ _ _ _) (fun z => ?_) fun z4 => goodX xs hx (by omega) _ _ _ _ _ _
          simp only [Bool.and_eq_true, decide_eq_true_eq] at z
          have hal : a < xs.length := by omega
          have gx : (xs.map Dd.d)[a]? = some (xs[a]).d := by rw [List.getElem?_map, List.getElem?_eq_getElem hal]; rfl
          obtain ⟨q, hq⟩ : ∃ q : Nat, more % ((size : Int) + 1) = (q : Nat) := ⟨(more % ((size : Int) + 1)).toNat, by have := Int.emod_nonneg more (b := (size : Int) + 1) (by omega); omega⟩
          have hs1 : (0 : Int) < (size : Int) + 1 := by omega
          have ixa : op2 ixD (nmW 0) (nmW 4) [some (Cell.ow (.list (xs.map Dd.d))), some (.sh (.int cell)), some (.sh (.int (size : Nat))), some (.sh (.int cell2)), some (.sh (.int (a : Nat))), some (.sh (.int more)), none] = some (xs[a]).d := op2_is (x := .list (xs.map Dd.d)) (y := .int (a : Nat)) rfl rfl (ix_lst (by omega) (by rw [Int.toNat_natCast]; exact gx))
          refine run_putL (c := .ow (.list (xs.map Dd.d))) (x := ((xs[a]).moved q).d) (y := .int (a : Nat)) (d := .list ((xs.map Dd.d).set a ((xs[a]).moved q).d)) ?_ rfl rfl rfl ?_ ?_
          · refine op2_is (mkT_of (cons2_is (op2_is (x := (xs[a]).d) (y := .int 0) ixa rfl (dd_word _)) (cons2_is (d := .int (q : Nat)) (by rw [← hq]; simp [op2, opT, nmP, nmW, cons2, Cell.got, callD, lenD, mkT, mkL, addD, addI, subD, modD, fdivD, eqD_int, neD_int, ltD, leD, gtD, geD, asB, truD, notV, andV, orV, notT, orT, andT, shs, negV, negD, isD, isntD, isNone, isiB, toTu, toCons, toNil, toNm, ixD, atI, ixN, asL, asTu, min2D, max2D, intD, hs1]) rfl))) (dd_tail _ ixa) (dd_moved _ q)
          · show Option.map _ (ixN (xs.map Dd.d).length (a : Nat)) = _
            unfold ixN
            rw [if_pos (by omega), if_pos (by omega)]
            rfl
          · simp only [List.set_cons_zero, List.set_cons_succ, Cell.put]
            have em : (xs.map Dd.d).set a ((xs[a]).moved q).d = (xs.set a ((xs[a]).moved q)).map Dd.d := by rw [List.map_set]
            rw [em]
            refine goodX _ (fun x h => ?_) (by simp; omega) _ _ _ _ _ _
            rcases List.mem_or_eq_of_mem_set h with h | h
            · exact hx x h
            · rw [h]
              exact moved_ok (hx _ (List.getElem_mem hal)) q
  obtain ⟨d, e1, es, rfl, h⟩ := key
  exact ⟨es, e1, h⟩
end K5

namespace K5
open PySem L2 DS
open Classical in
theorem eqX_self {xs : List D} (h : xs.all (selfOk 20) = true) : eqXD (.list xs) (.list xs) = some (.bool true) := by
  unfold eqXD
  split
  · rename_i hs
    rw [SeqAt.eqv_refl _ (shp hs.1)]
  · show (if _ then _ else _) = _
    rw [if_pos ⟨rfl, h⟩]
theorem self_dd {x : Dd} (h : x.ok) : selfOk 20 x.d = true := by
  cases x with
  | put q s => simp [Dd.d, selfOk, tx_put.2, sgD, (sg_ok (sgB_ok (show sgB s = true from h))).2]
  | keep q => simp [Dd.d, selfOk, tx_keep.2]
  | change q s => simp [Dd.d, selfOk, tx_change.2, sgD, (sg_ok (sgB_ok (show sgB s = true from h))).2]
  | cut q => simp [Dd.d, selfOk, tx_cut.2]
theorem self_els {es : List El} (h : ∀ e ∈ es, e.good) : (es.map El.d).all (selfOk 20) = true := by
  rw [List.all_map, List.all_eq_true]
  intro e he
  have := h e he
  cases e with
  | ok x => exact self_dd this
  | bad d => exact this.self
section
variable {nx : D → Nv → Nv} {n i : Nat} {Cs : List Value} {sem : List D → Option Ou} {fr : Nv → Option (List D)} {gs : Value → Nv → Option SR} {ρ : Nv} {ds os : List D} {d : D} {o : Bool} {c : Value} {φ : SR → Prop}
theorem run_try_ret (h : fr ρ = some ds) (hn : ds.length = n) (e : sem ds = some (.ret d o os)) (q : φ (.nx (nx d ρ))) : Run (tryV nx n i Cs sem fr gs ρ) φ := by
  unfold tryV
  rw [h]
  refine ⟨_, ?_, q⟩
  show (if _ then _ else _) = _
  rw [if_pos hn, e]
theorem run_try_exc (h : fr ρ = some ds) (hn : ds.length = n) (e : sem ds = some (.exc c)) (hc : c ∈ Cs) (hi : i < ρ.length) {ρ' : Nv} (hg : gs c (ρ.set i none) = some (.rt d o ρ')) (q : φ (.rt d o ρ')) : Run (tryV nx n i Cs sem fr gs ρ) φ := by
  unfold tryV
  rw [h]
  refine ⟨_, ?_, q⟩
  show (if _ then _ else _) = _
  rw [if_pos hn, e]
  show (if _ then _ else _) = _
  rw [if_pos ⟨hc, hi⟩, hg]
end
theorem tx_txt {cs : List Nat} (h : ∀ c ∈ cs, SgOk c) (hl : cs.length ≤ 100000) : TxOk (txt cs) := ⟨hl, strOk_all.mpr h⟩
theorem walkE_sg {cs : List Nat} (hc : ∀ c ∈ cs, SgOk c) : ∀ (es : List El) (p p' : Nat) (o : List Nat), (∀ e ∈ es, e.good) → walkE cs es p = some (p', o) → (∀ c ∈ o, SgOk c) ∧ o.length ≤ es.length
  | [], p, p', o, _, h => by
    cases h
    exact ⟨fun _ h => (by cases h), Nat.le_refl _⟩
  | e :: r, p, p', o, hg, h => by
    rw [walkE] at h
    obtain ⟨⟨p1, o1⟩, h1, h2⟩ := Option.bind_eq_some_iff.mp h
    obtain ⟨⟨p2, o2⟩, h3, h4⟩ := Option.map_eq_some_iff.mp h2
    cases h4
    obtain ⟨i1, i2⟩ := walkE_sg hc r p1 _ o2 (fun e he => hg e (List.mem_cons_of_mem _ he)) h3
    have he := hg e List.mem_cons_self
    obtain ⟨l1, _, _⟩ := el_step_len he h1
    refine ⟨fun c hcm => ?_, by simp; omega⟩
    rcases List.mem_append.mp hcm with hcm | hcm
    · cases e with
      | bad d => cases h1
      | ok x =>
        rw [El.step, step_eq he] at h1
        split at h1
        · rename_i hq
          cases h1
          cases x with
          | put q s =>
            have : c = s := by simpa [Dd.out] using hcm
            rw [this]
            exact sgB_ok he
          | change q s =>
            have : c = s := by simpa [Dd.out] using hcm
            rw [this]
            exact sgB_ok he
          | keep q =>
            have : c = cs.getD q 0 := by simpa [Dd.out] using hcm
            rw [this]
            have hq2 : q < cs.length := by
              have h1 := hq.1
              have h2 := hq.2.resolve_left (fun z => by cases z)
              show (Dd.keep q).at < _
              omega
            rw [List.getD_eq_getElem?_getD, List.getElem?_eq_getElem hq2]
            exact hc _ (List.getElem_mem hq2)
          | cut q => simp [Dd.out] at hcm
        · cases h1
    · exact i1 c hcm
theorem law_is (ns : List Int) : sem_law [.list (ns.map .int)] = some (.ret (.bool true) false []) := by
  refine sem_eq rfl ?_
  unfold g_law
  simp only [shs, List.map_cons, List.map_nil, List.replicate_succ, List.replicate_zero, List.cons_append, List.nil_append]
  obtain ⟨sz, hsz⟩ : ∃ sz : Nat, AT ns 0 % 10 = (sz : Nat) := ⟨(AT ns 0 % 10).toNat, by omega⟩
  have hsl : sz < 10 := by omega
  refine rs_set (d := .int (sz : Nat)) (op2_is (x := .int (AT ns 0)) (y := .int 10) (call_at rfl rfl (by decide)) rfl (by rw [← hsz]; rfl)) ?_
  simp only [List.set_cons_zero, List.set_cons_succ, Cell.put]
  obtain ⟨cs, hcs, hcl⟩ : ∃ cs : List Nat, cs = (List.range sz).map (fun (k : Nat) => S94 (AT ns (3 + (k : Int)))) ∧ cs.length = sz := ⟨_, rfl, by simp⟩
  have hsg : ∀ c ∈ cs, SgOk c := fun c hc => by
    rw [hcs] at hc
    obtain ⟨k, _, rfl⟩ := List.mem_map.mp hc
    exact sgB_ok (S94_ok _)
  refine rs_set (d := .str (txt cs)) (op2_is (x := .str ⟨#[]⟩) (y := .list (cs.map sgD)) rfl ?_ (join_txt cs (by omega))) ?_
  · rw [lcV_to (List.range sz) (fun (k : Nat) => PyData.int (k : Nat)) (fun (k : Nat) => sgD (S94 (AT ns (3 + (k : Int))))) ?_ rfl (by simp; omega) fun k _ => ?_]
    · rw [hcs, List.map_map]
      rfl
    · show Option.bind (cons2 _ _ _) rng1 = _
      rw [cons2_is (ds := []) (d := .int (sz : Nat)) rfl rfl, Option.bind_some]
      exact rng1_is sz (by omega)
    · exact callS_of (ds := [.int (AT ns (3 + (k : Int)))]) (cons2_is (call_at rfl rfl (by omega)) rfl) (sign_is _)
  · simp only [List.set_cons_zero, List.set_cons_succ, Cell.put]
    obtain ⟨xs, x1, x2, x3⟩ := drawn_is ns (cs := cs) (by omega)
    obtain ⟨es, e1, e2, e3⟩ := changed_is xs x2 (by omega) (AT ns 1) (AT ns 2 * 48271 % 10007) sz
    refine rs_set (d := .list (es.map El.d)) (callO_of (ds := [.list (xs.map Dd.d), .int (AT ns 1), .int (sz : Nat), .int (AT ns 2 * 48271 % 10007)]) (cons2_is (callO_of (ds := [.list (ns.map .int), .str (txt cs)]) rfl x1) (cons2_is (call_at rfl rfl (by decide)) (cons2_is rfl (cons2_is (op2_is (x := .int (AT ns 2 * 48271)) (y := .int 10007) (op2_is (x := .int (AT ns 2)) (y := .int 48271) (call_at rfl rfl (by decide)) rfl (mul_is (by omega))) rfl rfl) rfl)))) e1) ?_
    simp only [List.set_cons_zero, List.set_cons_succ, Cell.put]
    refine rs_set (callS_of (ds := [.str (txt cs), .list (es.map El.d)]) rfl (due_is (by omega) es e2 (by omega))) ?_
    simp only [List.set_cons_zero, List.set_cons_succ, Cell.put]
    refine rs_set (d := .list (es.map El.d)) rfl ?_
    simp only [List.set_cons_zero, List.set_cons_succ, Cell.put]
    have dn := done_is hsg (by omega) es e2 (by omega)
    have slf := eqX_self (self_els e2)
    have good : ∀ o, walkE cs es 0 = some (cs.length, o) → dueD cs es = .str (txt o) ∧ doneO cs es = .ret (.str (txt o)) false [] := fun o h => by
      unfold dueD doneO
      rw [h]
      exact ⟨if_pos rfl, if_pos rfl⟩
    have bad : (¬ ∃ o, walkE cs es 0 = some (cs.length, o)) → dueD cs es = .none ∧ doneO cs es = badO := fun h => by
      unfold dueD doneO
      cases hw : walkE cs es 0 with
      | none => exact ⟨rfl, rfl⟩
      | some r =>
        obtain ⟨p, o⟩ := r
        have hp : p ≠ cs.length := fun z => h ⟨o, by rw [hw, z]⟩
        exact ⟨if_neg hp, if_neg hp⟩
    refine run_seq ?_
    by_cases hw : ∃ o, walkE cs es 0 = some (cs.length, o)
    · obtain ⟨o, hw⟩ := hw
      obtain ⟨g1, g2⟩ := good o hw
      obtain ⟨w1, w2⟩ := walkE_sg hsg es 0 _ o e2 hw
      rw [g2] at dn
      rw [g1]
      refine run_try_ret (ds := [.str (txt cs), .list (es.map El.d)]) rfl rfl dn ?_
      simp only [List.set_cons_zero, List.set_cons_succ, Cell.put]
      have to : TxOk (txt o) := tx_txt w1 (by omega)
      refine run_ret (d := .bool (true && (true && (true && true)))) (andV_of (by simp [op2, opT, nmP, nmW, cons2, Cell.got, callD, lenD, mkT, mkL, addD, addI, subD, modD, fdivD, eqD_int, neD_int, ltD, leD, gtD, geD, asB, truD, notV, andV, orV, notT, orT, andT, shs, negV, negD, isD, isntD, isNone, isiB, toTu, toCons, toNil, toNm, ixD, atI, ixN, asL, asTu, min2D, max2D, intD]) fun _ => andV_of (by simp [op2, opT, nmP, nmW, cons2, Cell.got, callD, lenD, mkT, mkL, addD, addI, subD, modD, fdivD, eqD_int, neD_int, ltD, leD, gtD, geD, asB, truD, notV, andV, orV, notT, orT, andT, shs, negV, negD, isD, isntD, isNone, isiB, toTu, toCons, toNil, toNm, ixD, atI, ixN, asL, asTu, min2D, max2D, intD]) fun _ => andV_of (op2_is (x := .str (txt o)) (y := .str (txt o)) rfl rfl (by rw [eqX_str to to]; simp)) fun _ => op2_is rfl rfl slf) (ret_ok (Nat.le_of_ble_eq_true rfl) rfl)
    · obtain ⟨g1, g2⟩ := bad hw
      rw [g2] at dn
      rw [g1]
      refine run_try_exc (ds := [.str (txt cs), .list (es.map El.d)]) (d := .bool true) (o := false) (ρ' := [some (.sh (.list (ns.map .int))), some (.sh (.int (sz : Nat))), some (.sh (.str (txt cs))), none, some (.sh (.list (es.map El.d))), some (.sh .none), some (.sh (.list (es.map El.d))), none, none]) rfl rfl dn (by simp) (Nat.le_of_ble_eq_true rfl) ?_ (thn_rt (ret_ok (Nat.le_of_ble_eq_true rfl) rfl))
      simp only [List.set_cons_zero, List.set_cons_succ, Cell.put]
      unfold gsuite
      rw [andV_of (a := true) (b := true) (by simp [op2, opT, nmP, nmW, cons2, Cell.got, callD, lenD, mkT, mkL, addD, addI, subD, modD, fdivD, eqD_int, neD_int, ltD, leD, gtD, geD, asB, truD, notV, andV, orV, notT, orT, andT, shs, negV, negD, isD, isntD, isNone, isiB, toTu, toCons, toNil, toNm, ixD, atI, ixN, asL, asTu, min2D, max2D, intD]) fun _ => op2_is (x := .list (es.map El.d)) (y := .list (es.map El.d)) rfl rfl slf]
      rfl
end K5

namespace K5
open PySem L2 DS
theorem law_sem : ∀ ds o, semLaw 63 ds = some o → sem_law ds = some o := by
  intro ds o h
  unfold semLaw at h
  split at h
  · rename_i hx
    obtain ⟨ns, rfl, _⟩ := hx
    cases h
    exact law_is ns
  · cases h
theorem all_mk {l : PySem.W.OpenLaw} {w : World} {K : PySem.W.Frag} {h : Heap} {mg : Str → Option Value} {fa : Addr} {f_is_sign : Addr} {od_is_sign an_is_sign : Option Addr} {sl_is_sign : Array (Option Value)} {oc_is_sign kV_is_sign dc_is_sign pm_is_sign ct_is_sign : Value} {cd_is_sign : Value}
    {f_is_place : Addr} {od_is_place an_is_place : Option Addr} {sl_is_place : Array (Option Value)} {oc_is_place kV_is_place dc_is_place pm_is_place ct_is_place : Value} {cd_is_place : Value}
    {f_is_deed : Addr} {od_is_deed an_is_deed : Option Addr} {sl_is_deed : Array (Option Value)} {oc_is_deed kV_is_deed dc_is_deed pm_is_deed ct_is_deed : Value} {cd_is_deed : Value}
    {f_sign_behind : Addr} {od_sign_behind an_sign_behind : Option Addr} {sl_sign_behind : Array (Option Value)} {oc_sign_behind kV_sign_behind dc_sign_behind pm_sign_behind ct_sign_behind : Value} {cd_sign_behind : Value}
    {f_done : Addr} {od_done an_done : Option Addr} {sl_done : Array (Option Value)} {oc_done kV_done dc_done pm_done ct_done : Value} {cd_done : Value}
    {f__law_at : Addr} {od__law_at an__law_at : Option Addr} {sl__law_at : Array (Option Value)} {oc__law_at kV__law_at dc__law_at pm__law_at ct__law_at : Value} {cd__law_at : Value}
    {f__law_sign : Addr} {od__law_sign an__law_sign : Option Addr} {sl__law_sign : Array (Option Value)} {oc__law_sign kV__law_sign dc__law_sign pm__law_sign ct__law_sign : Value} {cd__law_sign : Value}
    {f__law_deeds : Addr} {od__law_deeds an__law_deeds : Option Addr} {sl__law_deeds : Array (Option Value)} {oc__law_deeds kV__law_deeds dc__law_deeds pm__law_deeds ct__law_deeds : Value} {cd__law_deeds : Value}
    {f__law_odd : Addr} {od__law_odd an__law_odd : Option Addr} {sl__law_odd : Array (Option Value)} {oc__law_odd kV__law_odd dc__law_odd pm__law_odd ct__law_odd : Value} {cd__law_odd : Value}
    {f__law_changed : Addr} {od__law_changed an__law_changed : Option Addr} {sl__law_changed : Array (Option Value)} {oc__law_changed kV__law_changed dc__law_changed pm__law_changed ct__law_changed : Value} {cd__law_changed : Value}
    {f__law_step : Addr} {od__law_step an__law_step : Option Addr} {sl__law_step : Array (Option Value)} {oc__law_step kV__law_step dc__law_step pm__law_step ct__law_step : Value} {cd__law_step : Value}
    {f__law_due : Addr} {od__law_due an__law_due : Option Addr} {sl__law_due : Array (Option Value)} {oc__law_due kV__law_due dc__law_due pm__law_due ct__law_due : Value} {cd__law_due : Value}
    {f_law : Addr} {od_law an_law : Option Addr} {sl_law : Array (Option Value)} {oc_law kV_law dc_law pm_law ct_law : Value} {cd_law : Value}
    {tk_BLANK : Tok} {tk_CHANGE : Tok} {tk_CUT : Tok} {tk_KEEP : Tok} {tk_PERCENT : Tok} {tk_PUT : Tok} {tk_TILDE : Tok}
    {C_MendError : Addr}
    {C_BadDeeds : Addr}
    {C_BadRule : Addr}
    {C_BadText : Addr}
    {C_Endless : Addr}
    {C_NoName : Addr}
    {gt_BadDeeds : Option Value}
    (X : K.In h) (G : h.Ns mainGlobals mg) (hfa : mg "law" = some (.ref fa)) (TF : ∀ (x : Str) (c P : Addr), x ∈ ([] : List Str) → PySem.W.tabIn K x = some (c, P) → PySem.W.CodeHd h c P ∧ h.get? P = some { cls := .none, data := .fields #[] })
    (a_is_sign : PySem.W.nsIn K mainGlobals "is_sign" = some (some (.ref f_is_sign))) (l_is_sign : K.lookup f_is_sign = some ⟨oc_is_sign, od_is_sign, .func (PySem.W.fnOf "is_sign" "is_sign" (defArgs s_is_sign) (defBody s_is_sign) (defScope s_is_sign) .none kV_is_sign dc_is_sign pm_is_sign an_is_sign cd_is_sign ct_is_sign), sl_is_sign⟩) (q_is_sign : PySem.W.codeIn K cd_is_sign "is_sign" = true) (k_is_sign : PySem.W.keepIn K (.ref f_is_sign) = true)
    (a_is_place : PySem.W.nsIn K mainGlobals "is_place" = some (some (.ref f_is_place))) (l_is_place : K.lookup f_is_place = some ⟨oc_is_place, od_is_place, .func (PySem.W.fnOf "is_place" "is_place" (defArgs s_is_place) (defBody s_is_place) (defScope s_is_place) .none kV_is_place dc_is_place pm_is_place an_is_place cd_is_place ct_is_place), sl_is_place⟩) (q_is_place : PySem.W.codeIn K cd_is_place "is_place" = true) (k_is_place : PySem.W.keepIn K (.ref f_is_place) = true)
    (a_is_deed : PySem.W.nsIn K mainGlobals "is_deed" = some (some (.ref f_is_deed))) (l_is_deed : K.lookup f_is_deed = some ⟨oc_is_deed, od_is_deed, .func (PySem.W.fnOf "is_deed" "is_deed" (defArgs s_is_deed) (defBody s_is_deed) (defScope s_is_deed) .none kV_is_deed dc_is_deed pm_is_deed an_is_deed cd_is_deed ct_is_deed), sl_is_deed⟩) (q_is_deed : PySem.W.codeIn K cd_is_deed "is_deed" = true) (k_is_deed : PySem.W.keepIn K (.ref f_is_deed) = true)
    (a_sign_behind : PySem.W.nsIn K mainGlobals "sign_behind" = some (some (.ref f_sign_behind))) (l_sign_behind : K.lookup f_sign_behind = some ⟨oc_sign_behind, od_sign_behind, .func (PySem.W.fnOf "sign_behind" "sign_behind" (defArgs s_sign_behind) (defBody s_sign_behind) (defScope s_sign_behind) .none kV_sign_behind dc_sign_behind pm_sign_behind an_sign_behind cd_sign_behind ct_sign_behind), sl_sign_behind⟩) (q_sign_behind : PySem.W.codeIn K cd_sign_behind "sign_behind" = true) (k_sign_behind : PySem.W.keepIn K (.ref f_sign_behind) = true)
    (a_done : PySem.W.nsIn K mainGlobals "done" = some (some (.ref f_done))) (l_done : K.lookup f_done = some ⟨oc_done, od_done, .func (PySem.W.fnOf "done" "done" (defArgs s_done) (defBody s_done) (defScope s_done) .none kV_done dc_done pm_done an_done cd_done ct_done), sl_done⟩) (q_done : PySem.W.codeIn K cd_done "done" = true) (k_done : PySem.W.keepIn K (.ref f_done) = true)
    (a__law_at : PySem.W.nsIn K mainGlobals "_law_at" = some (some (.ref f__law_at))) (l__law_at : K.lookup f__law_at = some ⟨oc__law_at, od__law_at, .func (PySem.W.fnOf "_law_at" "_law_at" (defArgs s__law_at) (defBody s__law_at) (defScope s__law_at) .none kV__law_at dc__law_at pm__law_at an__law_at cd__law_at ct__law_at), sl__law_at⟩) (q__law_at : PySem.W.codeIn K cd__law_at "_law_at" = true) (k__law_at : PySem.W.keepIn K (.ref f__law_at) = true)
    (a__law_sign : PySem.W.nsIn K mainGlobals "_law_sign" = some (some (.ref f__law_sign))) (l__law_sign : K.lookup f__law_sign = some ⟨oc__law_sign, od__law_sign, .func (PySem.W.fnOf "_law_sign" "_law_sign" (defArgs s__law_sign) (defBody s__law_sign) (defScope s__law_sign) .none kV__law_sign dc__law_sign pm__law_sign an__law_sign cd__law_sign ct__law_sign), sl__law_sign⟩) (q__law_sign : PySem.W.codeIn K cd__law_sign "_law_sign" = true) (k__law_sign : PySem.W.keepIn K (.ref f__law_sign) = true)
    (a__law_deeds : PySem.W.nsIn K mainGlobals "_law_deeds" = some (some (.ref f__law_deeds))) (l__law_deeds : K.lookup f__law_deeds = some ⟨oc__law_deeds, od__law_deeds, .func (PySem.W.fnOf "_law_deeds" "_law_deeds" (defArgs s__law_deeds) (defBody s__law_deeds) (defScope s__law_deeds) .none kV__law_deeds dc__law_deeds pm__law_deeds an__law_deeds cd__law_deeds ct__law_deeds), sl__law_deeds⟩) (q__law_deeds : PySem.W.codeIn K cd__law_deeds "_law_deeds" = true) (k__law_deeds : PySem.W.keepIn K (.ref f__law_deeds) = true)
    (a__law_odd : PySem.W.nsIn K mainGlobals "_law_odd" = some (some (.ref f__law_odd))) (l__law_odd : K.lookup f__law_odd = some ⟨oc__law_odd, od__law_odd, .func (PySem.W.fnOf "_law_odd" "_law_odd" (defArgs s__law_odd) (defBody s__law_odd) (defScope s__law_odd) .none kV__law_odd dc__law_odd pm__law_odd an__law_odd cd__law_odd ct__law_odd), sl__law_odd⟩) (q__law_odd : PySem.W.codeIn K cd__law_odd "_law_odd" = true) (k__law_odd : PySem.W.keepIn K (.ref f__law_odd) = true)
    (a__law_changed : PySem.W.nsIn K mainGlobals "_law_changed" = some (some (.ref f__law_changed))) (l__law_changed : K.lookup f__law_changed = some ⟨oc__law_changed, od__law_changed, .func (PySem.W.fnOf "_law_changed" "_law_changed" (defArgs s__law_changed) (defBody s__law_changed) (defScope s__law_changed) .none kV__law_changed dc__law_changed pm__law_changed an__law_changed cd__law_changed ct__law_changed), sl__law_changed⟩) (q__law_changed : PySem.W.codeIn K cd__law_changed "_law_changed" = true) (k__law_changed : PySem.W.keepIn K (.ref f__law_changed) = true)
    (a__law_step : PySem.W.nsIn K mainGlobals "_law_step" = some (some (.ref f__law_step))) (l__law_step : K.lookup f__law_step = some ⟨oc__law_step, od__law_step, .func (PySem.W.fnOf "_law_step" "_law_step" (defArgs s__law_step) (defBody s__law_step) (defScope s__law_step) .none kV__law_step dc__law_step pm__law_step an__law_step cd__law_step ct__law_step), sl__law_step⟩) (q__law_step : PySem.W.codeIn K cd__law_step "_law_step" = true) (k__law_step : PySem.W.keepIn K (.ref f__law_step) = true)
    (a__law_due : PySem.W.nsIn K mainGlobals "_law_due" = some (some (.ref f__law_due))) (l__law_due : K.lookup f__law_due = some ⟨oc__law_due, od__law_due, .func (PySem.W.fnOf "_law_due" "_law_due" (defArgs s__law_due) (defBody s__law_due) (defScope s__law_due) .none kV__law_due dc__law_due pm__law_due an__law_due cd__law_due ct__law_due), sl__law_due⟩) (q__law_due : PySem.W.codeIn K cd__law_due "_law_due" = true) (k__law_due : PySem.W.keepIn K (.ref f__law_due) = true)
    (a_law : PySem.W.nsIn K mainGlobals "law" = some (some (.ref f_law))) (l_law : K.lookup f_law = some ⟨oc_law, od_law, .func (PySem.W.fnOf "law" "law" (defArgs s_law) (defBody s_law) (defScope s_law) .none kV_law dc_law pm_law an_law cd_law ct_law), sl_law⟩) (q_law : PySem.W.codeIn K cd_law "law" = true) (k_law : PySem.W.keepIn K (.ref f_law) = true)
    (z_ValueError : PySem.W.nsIn K mainGlobals "ValueError" = some none) (z_bool : PySem.W.nsIn K mainGlobals "bool" = some none) (z_enumerate : PySem.W.nsIn K mainGlobals "enumerate" = some none) (z_int : PySem.W.nsIn K mainGlobals "int" = some none) (z_isinstance : PySem.W.nsIn K mainGlobals "isinstance" = some none) (z_len : PySem.W.nsIn K mainGlobals "len" = some none) (z_list : PySem.W.nsIn K mainGlobals "list" = some none) (z_ord : PySem.W.nsIn K mainGlobals "ord" = some none) (z_range : PySem.W.nsIn K mainGlobals "range" = some none) (z_str : PySem.W.nsIn K mainGlobals "str" = some none) (z_tuple : PySem.W.nsIn K mainGlobals "tuple" = some none)
    (i_BLANK : PySem.W.nsIn K mainGlobals "BLANK" = some (some (.int 32 tk_BLANK))) (i_CHANGE : PySem.W.nsIn K mainGlobals "CHANGE" = some (some (.str "change" tk_CHANGE))) (i_CUT : PySem.W.nsIn K mainGlobals "CUT" = some (some (.str "cut" tk_CUT))) (i_KEEP : PySem.W.nsIn K mainGlobals "KEEP" = some (some (.str "keep" tk_KEEP))) (i_PERCENT : PySem.W.nsIn K mainGlobals "PERCENT" = some (some (.int 37 tk_PERCENT))) (i_PUT : PySem.W.nsIn K mainGlobals "PUT" = some (some (.str "put" tk_PUT))) (i_TILDE : PySem.W.nsIn K mainGlobals "TILDE" = some (some (.int 126 tk_TILDE)))
    (ac_MendError : PySem.W.nsIn K mainGlobals "MendError" = some (some (.ref C_MendError)))
    (ac_BadDeeds : PySem.W.nsIn K mainGlobals "BadDeeds" = some (some (.ref C_BadDeeds)))
    (ac_BadRule : PySem.W.nsIn K mainGlobals "BadRule" = some (some (.ref C_BadRule)))
    (ac_BadText : PySem.W.nsIn K mainGlobals "BadText" = some (some (.ref C_BadText)))
    (ac_Endless : PySem.W.nsIn K mainGlobals "Endless" = some (some (.ref C_Endless)))
    (ac_NoName : PySem.W.nsIn K mainGlobals "NoName" = some (some (.ref C_NoName)))
    (ex_BadDeeds : PySem.W.excIn K C_BadDeeds [.type "ValueError", .type "Exception", .type "BaseException", .type "object"] "ValueError.__new__" = true) (ke_BadDeeds : PySem.W.keepIn K (.ref C_BadDeeds) = true) (su_BadDeeds : PySem.W.subIn K (.ref C_BadDeeds) (.type "BaseException") = some true) (ty_BadDeeds : PySem.W.typeIn K (.ref C_BadDeeds) = some (.type "type"))
    (cl_BadDeeds : (PySem.W.clsIn K C_BadDeeds).isSome = true) (ga_BadDeeds : PySem.W.findIn K (.ref C_BadDeeds) "__getattribute__" = some (some (.builtin "BaseException.__getattribute__"))) (gg_BadDeeds : PySem.W.findIn K (.ref C_BadDeeds) "__getattr__" = some gt_BadDeeds) (at_BadDeeds : PySem.W.findIn K (.ref C_BadDeeds) "__class__" = some (some (.builtin "object.__class__"))) (mo_BadDeeds : PySem.W.mroIn K C_BadDeeds (.type "object") = some true)
    (mx_BadDeeds : PySem.W.exmOne K (.ref C_BadDeeds) (.ref C_MendError) = some true)
    (ki_BadDeeds_BadRule : PySem.W.kitOne K (.ref C_BadDeeds) (.ref C_BadRule) = some false)
    (ki_BadDeeds_BadText : PySem.W.kitOne K (.ref C_BadDeeds) (.ref C_BadText) = some false)
    (ki_BadDeeds_Endless : PySem.W.kitOne K (.ref C_BadDeeds) (.ref C_Endless) = some false)
    (ki_BadDeeds_NoName : PySem.W.kitOne K (.ref C_BadDeeds) (.ref C_NoName) = some false)
    (ki_BadDeeds_BadDeeds : PySem.W.kitOne K (.ref C_BadDeeds) (.ref C_BadDeeds) = some true)
    (kb_BadDeeds_ValueError : PySem.W.kitOne K (.ref C_BadDeeds) (.type "ValueError") = some true)
    (xsp : PySem.W.specialIn K (.builtin "object.__class__") "__get__" = some (some (.builtin "getset_descriptor.__get__"))) (xtk : PySem.W.takesIn K (.builtin "object.__class__") = some true)
    : LamX.LawAtS l w K CX0 4 63 "_law_script" mg fa h := by
  have e := hfa.symm.trans (PySem.W.mg_of X G a_law)
  cases e
  have B : Blts mg := ⟨PySem.W.mg_none_of X G z_ValueError, PySem.W.mg_none_of X G z_bool, PySem.W.mg_none_of X G z_enumerate, PySem.W.mg_none_of X G z_int, PySem.W.mg_none_of X G z_isinstance, PySem.W.mg_none_of X G z_len, PySem.W.mg_none_of X G z_list, PySem.W.mg_none_of X G z_ord, PySem.W.mg_none_of X G z_range, PySem.W.mg_none_of X G z_str, PySem.W.mg_none_of X G z_tuple, ⟨_, PySem.W.mg_of X G i_BLANK⟩, ⟨_, PySem.W.mg_of X G i_CHANGE⟩, ⟨_, PySem.W.mg_of X G i_CUT⟩, ⟨_, PySem.W.mg_of X G i_KEEP⟩, ⟨_, PySem.W.mg_of X G i_PERCENT⟩, ⟨_, PySem.W.mg_of X G i_PUT⟩, ⟨_, PySem.W.mg_of X G i_TILDE⟩⟩
  let cl : Value → Value := fun v => match v with | .type x => if x = "BadDeeds" then .ref C_BadDeeds else v | _ => v
  have cle_BadDeeds : cl (.type "BadDeeds") = .ref C_BadDeeds := by
    show (if ("BadDeeds" : String) = "BadDeeds" then .ref C_BadDeeds else .type "BadDeeds" : Value) = _
    first | rfl | simp
  have exi_BadDeeds : Exi K C_BadDeeds := ⟨cl_BadDeeds, ga_BadDeeds, ⟨_, gg_BadDeeds⟩, su_BadDeeds, at_BadDeeds, xsp, xtk, mo_BadDeeds⟩
  have XX : Clss K mg cl C_MendError := ⟨PySem.W.mg_of X G ac_MendError, ⟨C_BadDeeds, ⟨PySem.W.mg_of X G ac_BadDeeds, ex_BadDeeds, ke_BadDeeds, su_BadDeeds, ty_BadDeeds⟩, cle_BadDeeds⟩, ⟨⟨C_BadDeeds, cle_BadDeeds, exi_BadDeeds⟩⟩, (by rw [cle_BadDeeds]; exact mx_BadDeeds), ⟨⟨C_BadDeeds, C_BadRule, cle_BadDeeds, PySem.W.mg_of X G ac_BadRule, ki_BadDeeds_BadRule⟩⟩, ⟨⟨C_BadDeeds, C_BadText, cle_BadDeeds, PySem.W.mg_of X G ac_BadText, ki_BadDeeds_BadText⟩⟩, ⟨⟨C_BadDeeds, C_Endless, cle_BadDeeds, PySem.W.mg_of X G ac_Endless, ki_BadDeeds_Endless⟩⟩, ⟨⟨C_BadDeeds, C_NoName, cle_BadDeeds, PySem.W.mg_of X G ac_NoName, ki_BadDeeds_NoName⟩⟩, ⟨⟨C_BadDeeds, C_BadDeeds, cle_BadDeeds, PySem.W.mg_of X G ac_BadDeeds, ki_BadDeeds_BadDeeds⟩⟩, ⟨⟨C_BadDeeds, cle_BadDeeds, PySem.W.mg_none_of X G z_ValueError, by first | rfl | decide +kernel, kb_BadDeeds_ValueError⟩⟩⟩
  clear_value cl
  have h1 : ∀ p ∈ ([] : List (Addr × Addr)), h.get? p.2 = some { cls := .none, data := .fields #[] } := by intro p hp; cases hp
  have h2 : ∀ p ∈ ([] : List (Addr × Addr)), K.lookup p.2 = none := by intro p hp; cases hp
  have h3 : ∀ p ∈ ([] : List (Addr × Addr)), PySem.W.CodeHd h p.1 p.2 := by intro p hp; cases hp
  refine ⟨PySem.W.fnOf "law" "law" (defArgs s_law) (defBody s_law) (defScope s_law) .none kV_law dc_law pm_law an_law cd_law ct_law, [], spTab [] (spD K [] [.ro] (semLaw 63)), h1, h2, h3, fun s v => .of_eq rfl, fun H a ns hl _ hT hS => law_asks (fun p hp => ?_) hl hS, fun base hK hG TB => fn_tab (fn_sem ?_ law_sem)⟩
  · cases hp
  · have F_is_sign := fun_mk (st := s_is_sign) l_is_sign q_is_sign k_is_sign
    have C_is_sign : Cal l.prog w K mg base [] "is_sign" 1 ["thing"] [.ro] sem_is_sign := ⟨f_is_sign, _, ok_is_sign F_is_sign B, PySem.W.mg_of X G a_is_sign, k_is_sign, F_is_sign.binds (ps := ["thing"]) fun _ _ _ _ _ _ us hl => match us, hl with | [_], _ => rfl⟩
    have F_is_place := fun_mk (st := s_is_place) l_is_place q_is_place k_is_place
    have C_is_place : Cal l.prog w K mg base [] "is_place" 1 ["thing"] [.ro] sem_is_place := ⟨f_is_place, _, ok_is_place F_is_place B, PySem.W.mg_of X G a_is_place, k_is_place, F_is_place.binds (ps := ["thing"]) fun _ _ _ _ _ _ us hl => match us, hl with | [_], _ => rfl⟩
    have F_is_deed := fun_mk (st := s_is_deed) l_is_deed q_is_deed k_is_deed
    have C_is_deed : Cal l.prog w K mg base [] "is_deed" 2 ["thing", "place"] [.ro, .ro] sem_is_deed := ⟨f_is_deed, _, ok_is_deed F_is_deed B C_is_sign C_is_place, PySem.W.mg_of X G a_is_deed, k_is_deed, F_is_deed.binds (ps := ["thing", "place"]) fun _ _ _ _ _ _ us hl => match us, hl with | [_, _], _ => rfl⟩
    have F_sign_behind := fun_mk (st := s_sign_behind) l_sign_behind q_sign_behind k_sign_behind
    have C_sign_behind : Cal l.prog w K mg base [] "sign_behind" 1 ["deed", "text"] [.ro, .ro] sem_sign_behind := ⟨f_sign_behind, _, ok_sign_behind F_sign_behind B, PySem.W.mg_of X G a_sign_behind, k_sign_behind, F_sign_behind.binds (ps := ["deed", "text"]) fun _ _ _ _ _ _ us hl => match us, hl with | [_, _], _ => rfl⟩
    have F_done := fun_mk (st := s_done) l_done q_done k_done
    have C_done : CalX l.prog w K mg base [] cl "done" 3 ["text", "deeds"] [.ro, .ro] sem_done := ⟨f_done, _, ok_done F_done B XX C_sign_behind C_is_deed, PySem.W.mg_of X G a_done, k_done, F_done.binds (ps := ["text", "deeds"]) fun _ _ _ _ _ _ us hl => match us, hl with | [_, _], _ => rfl⟩
    have F__law_at := fun_mk (st := s__law_at) l__law_at q__law_at k__law_at
    have C__law_at : Cal l.prog w K mg base [] "_law_at" 1 ["_law_script", "_law_place"] [.ro, .ro] sem__law_at := ⟨f__law_at, _, ok__law_at F__law_at B, PySem.W.mg_of X G a__law_at, k__law_at, F__law_at.binds (ps := ["_law_script", "_law_place"]) fun _ _ _ _ _ _ us hl => match us, hl with | [_, _], _ => rfl⟩
    have F__law_sign := fun_mk (st := s__law_sign) l__law_sign q__law_sign k__law_sign
    have C__law_sign : Cal l.prog w K mg base [] "_law_sign" 1 ["_law_cell"] [.ro] sem__law_sign := ⟨f__law_sign, _, ok__law_sign F__law_sign B, PySem.W.mg_of X G a__law_sign, k__law_sign, F__law_sign.binds (ps := ["_law_cell"]) fun _ _ _ _ _ _ us hl => match us, hl with | [_], _ => rfl⟩
    have F__law_deeds := fun_mk (st := s__law_deeds) l__law_deeds q__law_deeds k__law_deeds
    have C__law_deeds : Cal l.prog w K mg base [] "_law_deeds" 2 ["_law_script", "_law_text"] [.ro, .ro] sem__law_deeds := ⟨f__law_deeds, _, ok__law_deeds F__law_deeds B C__law_sign C__law_at, PySem.W.mg_of X G a__law_deeds, k__law_deeds, F__law_deeds.binds (ps := ["_law_script", "_law_text"]) fun _ _ _ _ _ _ us hl => match us, hl with | [_, _], _ => rfl⟩
    have F__law_odd := fun_mk (st := s__law_odd) l__law_odd q__law_odd k__law_odd
    have C__law_odd : Cal l.prog w K mg base [] "_law_odd" 1 ["_law_cell", "_law_size", "_law_place"] [.ro, .ro, .ro] sem__law_odd := ⟨f__law_odd, _, ok__law_odd F__law_odd B, PySem.W.mg_of X G a__law_odd, k__law_odd, F__law_odd.binds (ps := ["_law_cell", "_law_size", "_law_place"]) fun _ _ _ _ _ _ us hl => match us, hl with | [_, _, _], _ => rfl⟩
    have F__law_changed := fun_mk (st := s__law_changed) l__law_changed q__law_changed k__law_changed
    have C__law_changed : Cal l.prog w K mg base [] "_law_changed" 2 ["_law_deeds_here", "_law_cell", "_law_size", "_law_odd_here"] [.ro, .ro, .ro, .ro] sem__law_changed := ⟨f__law_changed, _, ok__law_changed F__law_changed B C__law_odd, PySem.W.mg_of X G a__law_changed, k__law_changed, F__law_changed.binds (ps := ["_law_deeds_here", "_law_cell", "_law_size", "_law_odd_here"]) fun _ _ _ _ _ _ us hl => match us, hl with | [_, _, _, _], _ => rfl⟩
    have F__law_step := fun_mk (st := s__law_step) l__law_step q__law_step k__law_step
    have C__law_step : Cal l.prog w K mg base [] "_law_step" 1 ["_law_deed", "_law_place", "_law_text"] [.ro, .ro, .ro] sem__law_step := ⟨f__law_step, _, ok__law_step F__law_step B, PySem.W.mg_of X G a__law_step, k__law_step, F__law_step.binds (ps := ["_law_deed", "_law_place", "_law_text"]) fun _ _ _ _ _ _ us hl => match us, hl with | [_, _, _], _ => rfl⟩
    have F__law_due := fun_mk (st := s__law_due) l__law_due q__law_due k__law_due
    have C__law_due : Cal l.prog w K mg base [] "_law_due" 2 ["_law_text", "_law_deeds_here"] [.ro, .ro] sem__law_due := ⟨f__law_due, _, ok__law_due F__law_due B C__law_step, PySem.W.mg_of X G a__law_due, k__law_due, F__law_due.binds (ps := ["_law_text", "_law_deeds_here"]) fun _ _ _ _ _ _ us hl => match us, hl with | [_, _], _ => rfl⟩
    have F_law := fun_mk (st := s_law) l_law q_law k_law
    exact ok_law F_law B XX C_done C__law_due C__law_changed C__law_at C__law_deeds C__law_sign
end K5
open PySem PySem.W PyProof.Rows
set_option maxHeartbeats 0 in
theorem PySem.Challenge.cw_mendread_k05_deeds_done_holds : PySem.Challenge.rw_mendread_k05_deeds_done.Holds := by
  w_on; o_law; k_head; (case hw => w_witness2)
  k_fill
  refine DS.walk_tabs (l := PySem.Challenge.rw_mendread_k05_deeds_done) (n := 63) (k := 4) (x := "_law_script") (CX := fun _ => L2.CX0) [] rfl (by decide) rfl ⟨rfl, by decide, by decide⟩ ?R (fun w h Y => PySem.W.kIn_of Y) ?F (fun _ _ _ _ _ h => h)
  case R => decide +kernel
  case F =>
    intro w mg fa h YH KX G hmg TF
    refine' K5.all_mk KX G hmg TF ?a_is_sign ?l_is_sign ?q_is_sign ?k_is_sign ?a_is_place ?l_is_place ?q_is_place ?k_is_place ?a_is_deed ?l_is_deed ?q_is_deed ?k_is_deed ?a_sign_behind ?l_sign_behind ?q_sign_behind ?k_sign_behind ?a_done ?l_done ?q_done ?k_done ?a__law_at ?l__law_at ?q__law_at ?k__law_at ?a__law_sign ?l__law_sign ?q__law_sign ?k__law_sign ?a__law_deeds ?l__law_deeds ?q__law_deeds ?k__law_deeds ?a__law_odd ?l__law_odd ?q__law_odd ?k__law_odd ?a__law_changed ?l__law_changed ?q__law_changed ?k__law_changed ?a__law_step ?l__law_step ?q__law_step ?k__law_step ?a__law_due ?l__law_due ?q__law_due ?k__law_due ?a_law ?l_law ?q_law ?k_law ?z_ValueError ?z_bool ?z_enumerate ?z_int ?z_isinstance ?z_len ?z_list ?z_ord ?z_range ?z_str ?z_tuple ?i_BLANK ?i_CHANGE ?i_CUT ?i_KEEP ?i_PERCENT ?i_PUT ?i_TILDE ?ac_MendError ?ac_BadDeeds ?ac_BadRule ?ac_BadText ?ac_Endless ?ac_NoName ?ex_BadDeeds ?ke_BadDeeds ?su_BadDeeds ?ty_BadDeeds ?cl_BadDeeds ?ga_BadDeeds ?gg_BadDeeds ?at_BadDeeds ?mo_BadDeeds ?mx_BadDeeds ?ki_BadDeeds_BadRule ?ki_BadDeeds_BadText ?ki_BadDeeds_Endless ?ki_BadDeeds_NoName ?ki_BadDeeds_BadDeeds ?kb_BadDeeds_ValueError ?xsp ?xtk
    (case a_is_sign => k_is); (case l_is_sign => k_is); (case q_is_sign => k_is); (case k_is_sign => k_is); (case a_is_place => k_is); (case l_is_place => k_is); (case q_is_place => k_is); (case k_is_place => k_is); (case a_is_deed => k_is); (case l_is_deed => k_is); (case q_is_deed => k_is); (case k_is_deed => k_is); (case a_sign_behind => k_is); (case l_sign_behind => k_is); (case q_sign_behind => k_is); (case k_sign_behind => k_is); (case a_done => k_is); (case l_done => k_is); (case q_done => k_is); (case k_done => k_is); (case a__law_at => k_is); (case l__law_at => k_is); (case q__law_at => k_is); (case k__law_at => k_is); (case a__law_sign => k_is); (case l__law_sign => k_is); (case q__law_sign => k_is); (case k__law_sign => k_is); (case a__law_deeds => k_is); (case l__law_deeds => k_is); (case q__law_deeds => k_is); (case k__law_deeds => k_is); (case a__law_odd => k_is); (case l__law_odd => k_is); (case q__law_odd => k_is); (case k__law_odd => k_is); (case a__law_changed => k_is); (case l__law_changed => k_is); (case q__law_changed => k_is); (case k__law_changed => k_is); (case a__law_step => k_is); (case l__law_step => k_is); (case q__law_step => k_is); (case k__law_step => k_is); (case a__law_due => k_is); (case l__law_due => k_is); (case q__law_due => k_is); (case k__law_due => k_is); (case a_law => k_is); (case l_law => k_is); (case q_law => k_is); (case k_law => k_is); (case z_ValueError => k_is); (case z_bool => k_is); (case z_enumerate => k_is); (case z_int => k_is); (case z_isinstance => k_is); (case z_len => k_is); (case z_list => k_is); (case z_ord => k_is); (case z_range => k_is); (case z_str => k_is); (case z_tuple => k_is); (case i_BLANK => k_is); (case i_CHANGE => k_is); (case i_CUT => k_is); (case i_KEEP => k_is); (case i_PERCENT => k_is); (case i_PUT => k_is); (case i_TILDE => k_is); (case ac_MendError => k_is); (case ac_BadDeeds => k_is); (case ac_BadRule => k_is); (case ac_BadText => k_is); (case ac_Endless => k_is); (case ac_NoName => k_is); (case ex_BadDeeds => k_exc); (case ke_BadDeeds => k_is); (case su_BadDeeds => (first | k_is | kit_is | rfl | decide +kernel)); (case ty_BadDeeds => (first | k_is | kit_is | rfl | decide +kernel)); (case cl_BadDeeds => (first | k_is | kit_is | rfl | decide +kernel)); (case ga_BadDeeds => (first | k_is | kit_is | rfl | decide +kernel)); (case gg_BadDeeds => (first | k_is | kit_is | rfl | decide +kernel)); (case at_BadDeeds => (first | k_is | kit_is | rfl | decide +kernel)); (case mo_BadDeeds => (first | k_is | kit_is | rfl | decide +kernel)); (case mx_BadDeeds => (first | k_is | kit_is | rfl | decide +kernel)); (case ki_BadDeeds_BadRule => (first | k_is | kit_is | rfl | decide +kernel)); (case ki_BadDeeds_BadText => (first | k_is | kit_is | rfl | decide +kernel)); (case ki_BadDeeds_Endless => (first | k_is | kit_is | rfl | decide +kernel)); (case ki_BadDeeds_NoName => (first | k_is | kit_is | rfl | decide +kernel)); (case ki_BadDeeds_BadDeeds => (first | k_is | kit_is | rfl | decide +kernel)); (case kb_BadDeeds_ValueError => (first | k_is | kit_is | rfl | decide +kernel)); (case xsp => (first | k_is | kit_is | rfl | decide +kernel)); (case xtk => (first | k_is | kit_is | rfl | decide +kernel))
