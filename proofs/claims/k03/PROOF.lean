import PyProof.Rows.All
import Wide.All
import OpenK.AllK
import Wide.FinOn
import HandS.ForMost
import HandS.Exc
import HandS.IsInst
import HandS.AnyAll
import HandS.TupAny
import HandS.GenOver
import HandS.Deep
import HandS.Iter
import HandS.GenList
import HandS.EndTab
import HandS.Conv
import HandS.DictComp
import PySem.Challenge.RW_mendread_k03_shortest_texts
set_option Elab.async false
set_option linter.all false
set_option maxRecDepth 100000
set_option maxHeartbeats 1000000
namespace DS
open PySem L2

abbrev D := PyData

/-! ## data over an abstract heap -/
def kD : Key → D
  | .inl i => .int i
  | .inr x => .str x
def sD : V → D
  | .bl b => .bool b
  | .int i => .int i
  | .str x => .str x
  | _ => .none
def flat : V → Bool
  | .non => true
  | .bl _ => true
  | .int _ => true
  | .str _ => true
  | _ => false
def enK (p : Key × V) : D × D := (kD p.1, sD p.2)
def enT (p : List Key × V) : D × D := (.tuple (p.1.map kD), sD p.2)

mutual
inductive Rp (K : PySem.W.Frag) (F : Hp) : V → D → Prop
  | non : Rp K F .non .none
  | bl (b : Bool) : Rp K F (.bl b) (.bool b)
  | int (i : Int) : Rp K F (.int i) (.int i)
  | str (x : Str) : Rp K F (.str x) (.str x)
  | lst {a : Addr} {xs : List V} {ds : List D} : SqL K F a xs → Rps K F xs ds → Rp K F (.ref a) (.list ds)
  | tup {a : Addr} {xs : List V} {ds : List D} : SqT K F a xs → Rps K F xs ds → Rp K F (.ref a) (.tuple ds)
  | dK {a : Addr} {kvs : List (Key × V)} : F a = some (.dK kvs) → (kvs.all fun p => flat p.2) = true → Rp K F (.ref a) (.dict (kvs.map enK))
  | dT {a : Addr} {kvs : List (List Key × V)} : F a = some (.dT kvs) → (kvs.all fun p => flat p.2) = true → kvs ≠ [] → Rp K F (.ref a) (.dict (kvs.map enT))
inductive Rps (K : PySem.W.Frag) (F : Hp) : List V → List D → Prop
  | nil : Rps K F [] []
  | cons {v : V} {vs : List V} {d : D} {ds : List D} : Rp K F v d → Rps K F vs ds → Rps K F (v :: vs) (d :: ds)
end

/-- what stands stays -/
def Ext (F F' : Hp) : Prop := ∀ a o, F a = some o → F' a = some o
theorem Ext.refl (F : Hp) : Ext F F := fun _ _ h => h
theorem Ext.trans {F G H : Hp} (a : Ext F G) (b : Ext G H) : Ext F H := fun x u h => b x u (a x u h)
theorem Ext.of {F F' : Hp} (h : ∀ a o, F a = some o → F' a = some o) : Ext F F' := h
theorem Ext.upd {F : Hp} {p : Addr} {o : HO} (h : F p = none) : Ext F (L2.upd F p o) := fun a u e => by
  rw [upd_ne (ne_of_none e h)]
  exact e
theorem Ext.rd {F F' : Hp} (e : Ext F F') {a : Addr} {u : HO} (r : Rd F a u) : Rd F' a u := by
  rcases r with r | ⟨o, r⟩
  · exact .inl (e a _ r)
  · exact .inr ⟨o, e a _ r⟩
section
variable {K : PySem.W.Frag} {F F' H H' : Hp}
theorem Ext.sqL (e : Ext F F') {a : Addr} {xs : List V} (h : SqL K F a xs) : SqL K F' a xs := by
  rcases h with h | h
  · exact .inl (e.rd h)
  · exact .inr h
theorem Ext.sqT (e : Ext F F') {a : Addr} {xs : List V} (h : SqT K F a xs) : SqT K F' a xs := by
  rcases h with h | h
  · exact .inl (e.rd h)
  · exact .inr h
mutual
theorem Rp.ext (e : Ext F F') : ∀ {v : V} {d : D}, Rp K F v d → Rp K F' v d
  | _, _, .non => .non
  | _, _, .bl b => .bl b
  | _, _, .int i => .int i
  | _, _, .str x => .str x
  | _, _, .lst s r => .lst (e.sqL s) (Rps.ext e r)
  | _, _, .tup s r => .tup (e.sqT s) (Rps.ext e r)
  | _, _, .dK r f => .dK (e _ _ r) f
  | _, _, .dT r f n => .dT (e _ _ r) f n
theorem Rps.ext (e : Ext F F') : ∀ {vs : List V} {ds : List D}, Rps K F vs ds → Rps K F' vs ds
  | _, _, .nil => .nil
  | _, _, .cons a b => .cons (Rp.ext e a) (Rps.ext e b)
end
theorem Rps.len : ∀ {vs : List V} {ds : List D}, Rps K F vs ds → vs.length = ds.length
  | _, _, .nil => rfl
  | _, _, .cons _ b => by rw [List.length_cons, List.length_cons, Rps.len b]
theorem Rps.app : ∀ {vs ws : List V} {ds es : List D}, Rps K F vs ds → Rps K F ws es → Rps K F (vs ++ ws) (ds ++ es)
  | _, _, _, _, .nil, s => s
  | _, _, _, _, .cons a b, s => .cons a (Rps.app b s)
theorem Rps.get : ∀ {vs : List V} {ds : List D} {i : Nat} {d : D}, Rps K F vs ds → ds[i]? = some d → ∃ v, vs[i]? = some v ∧ Rp K F v d
  | _, _, _, _, .nil, e => by simp at e
  | _, _, 0, _, .cons a b, e => by
    simp at e
    subst e
    exact ⟨_, rfl, a⟩
  | _, _, i + 1, _, .cons a b, e => by
    obtain ⟨v, h1, h2⟩ := Rps.get (i := i) b (by simpa using e)
    exact ⟨v, by simpa using h1, h2⟩
theorem Rps.get' : ∀ {vs : List V} {ds : List D} {i : Nat} {v : V}, Rps K F vs ds → vs[i]? = some v → ∃ d, ds[i]? = some d ∧ Rp K F v d
  | _, _, _, _, .nil, e => by simp at e
  | _, _, 0, _, .cons a b, e => by
    simp at e
    subst e
    exact ⟨_, rfl, a⟩
  | _, _, i + 1, _, .cons a b, e => by
    obtain ⟨v, h1, h2⟩ := Rps.get' (i := i) b (by simpa using e)
    exact ⟨v, by simpa using h1, h2⟩
theorem Rps.take : ∀ {vs : List V} {ds : List D} (n : Nat), Rps K F vs ds → Rps K F (vs.take n) (ds.take n)
  | _, _, 0, _ => .nil
  | _, _, _ + 1, .nil => .nil
  | _, _, n + 1, .cons a b => .cons a (Rps.take n b)
theorem Rps.drop : ∀ {vs : List V} {ds : List D} (n : Nat), Rps K F vs ds → Rps K F (vs.drop n) (ds.drop n)
  | _, _, 0, r => r
  | _, _, _ + 1, .nil => .nil
  | _, _, n + 1, .cons a b => Rps.drop n b
theorem Rps.dropLast {vs : List V} {ds : List D} (h : Rps K F vs ds) : Rps K F vs.dropLast ds.dropLast := by
  rw [List.dropLast_eq_take, List.dropLast_eq_take, h.len]
  exact h.take _
theorem Rps.rev : ∀ {vs : List V} {ds : List D}, Rps K F vs ds → Rps K F vs.reverse ds.reverse
  | _, _, .nil => .nil
  | _, _, .cons a b => by
    rw [List.reverse_cons, List.reverse_cons]
    exact (Rps.rev b).app (.cons a .nil)
theorem Rps.set {v : V} {d : D} (r : Rp K F v d) : ∀ {vs : List V} {ds : List D} (i : Nat), Rps K F vs ds → Rps K F (vs.set i v) (ds.set i d)
  | _, _, _, .nil => .nil
  | _, _, 0, .cons _ t => .cons r t
  | _, _, i + 1, .cons q t => .cons q (Rps.set r i t)
theorem Rps.insert {v : V} {d : D} (r : Rp K F v d) {vs : List V} {ds : List D} (i : Nat) (h : Rps K F vs ds) : Rps K F (vs.take i ++ v :: vs.drop i) (ds.take i ++ d :: ds.drop i) :=
  (h.take i).app (.cons r (h.drop i))
end

/-! ## a frame's names -/
inductive Cell where
  /-- data that is shared: read alone -/
  | sh (d : D)
  /-- a list or a dict of this frame's own -/
  | ow (d : D)
  /-- a list or a dict that the caller lends, to be changed -/
  | io (a : Addr) (d : D)
def Cell.got : Cell → D
  | .sh d => d
  | .ow d => d
  | .io _ d => d
def Cell.mine : Cell → Bool
  | .sh _ => false
  | _ => true
abbrev Nv := List (Option Cell)
def Own (K : PySem.W.Frag) (F H : Hp) (a : Addr) : D → Prop
  | .list ds => ∃ xs, H a = some (.lst xs) ∧ Rps K F xs ds
  | .dict es => (∃ kvs, H a = some (.dK kvs) ∧ (kvs.all fun p => flat p.2) = true ∧ es = kvs.map enK) ∨ ∃ kvs, H a = some (.dT kvs) ∧ (kvs.all fun p => flat p.2) = true ∧ es = kvs.map enT ∧ kvs ≠ []
  | _ => False
theorem Own.ext {K : PySem.W.Frag} {F F' H H' : Hp} {a : Addr} : ∀ {d : D}, Ext F F' → H' a = H a → Own K F H a d → Own K F' H' a d
  | .list ds, e, h, ⟨xs, h1, h2⟩ => ⟨xs, by rw [h]; exact h1, h2.ext e⟩
  | .dict es, e, h, .inl ⟨kvs, h1, h2⟩ => .inl ⟨kvs, by rw [h]; exact h1, h2⟩
  | .dict es, e, h, .inr ⟨kvs, h1, h2⟩ => .inr ⟨kvs, by rw [h]; exact h1, h2⟩
theorem Own.rp {K : PySem.W.Frag} {F H : Hp} {a : Addr} : ∀ {d : D}, Own K F H a d → ∃ o, H a = some o ∧ ∀ G, Ext F G → G a = some o → Rp K G (.ref a) d
  | .list ds, ⟨xs, h1, h2⟩ => ⟨_, h1, fun G e g => .lst (.inl (.inl g)) (h2.ext e)⟩
  | .dict es, .inl ⟨kvs, h1, h2, h3⟩ => ⟨_, h1, fun G e g => by rw [h3]; exact .dK g h2⟩
  | .dict es, .inr ⟨kvs, h1, h2, h3, h4⟩ => ⟨_, h1, fun G e g => by rw [h3]; exact .dT g h2 h4⟩
def Mine (σ : L2.St) (ρ : Nv) (a : Addr) : Prop := ∃ (i : Nat) (c : Cell), ρ[i]? = some (some c) ∧ c.mine = true ∧ σ[i]? = some (some (.ref a))

/-- a code object's table, whatever it has by now -/
def tabP (p : Addr) : Heap → Prop := fun h => ∃ ps : Array Value, h.get? p = some { cls := .none, data := .fields ps } ∧ TriplesOk ps.toList

/-- how a frame lies: Z is others', F is read by anyone, the rest is its own -/
structure Rep (K : PySem.W.Frag) (cs : List Addr) (Z F H : Hp) (σ : L2.St) (ρ : Nv) : Prop where
  len : σ.length = ρ.length
  fh : ∀ a o, F a = some o → H a = some o
  zh : ∀ a o, Z a = some o → H a = some o ∧ F a = none
  mine : ∀ (i : Nat) (c : Cell), ρ[i]? = some (some c) → c.mine = true → ∃ a, σ[i]? = some (some (.ref a)) ∧ F a = none ∧ Z a = none ∧ Own K F H a c.got
  sh : ∀ (i : Nat) (d : D), ρ[i]? = some (some (.sh d)) → ∃ v, σ[i]? = some (some v) ∧ Rp K F v d
  inj : ∀ (i j : Nat) (c e : Cell) (a : Addr), ρ[i]? = some (some c) → c.mine = true → ρ[j]? = some (some e) → e.mine = true → σ[i]? = some (some (.ref a)) → σ[j]? = some (some (.ref a)) → i = j
  io : ∀ (i : Nat) (a : Addr) (d : D), ρ[i]? = some (some (.io a d)) → σ[i]? = some (some (.ref a))
  tab : ∀ p ∈ cs, F p = some (.ext (tabP p))

/-- a value that is data now: shared, or in a name of this frame's own -/
def Vw (K : PySem.W.Frag) (F : Hp) (σ : L2.St) (ρ : Nv) (v : V) (d : D) : Prop := Rp K F v d ∨ ∃ (i : Nat) (c : Cell), ρ[i]? = some (some c) ∧ c.mine = true ∧ c.got = d ∧ σ[i]? = some (some v)

section
variable {K : PySem.W.Frag} {cs : List Addr} {Z F F' H H' : Hp} {σ : L2.St} {ρ : Nv} {v : V} {d : D}
theorem Vw.ext (e : Ext F F') (h : Vw K F σ ρ v d) : Vw K F' σ ρ v d := by
  rcases h with h | h
  · exact .inl (h.ext e)
  · exact .inr h
theorem Rep.ex (R : Rep K cs Z F H σ ρ) : Ext F H := Ext.of R.fh
/-- as data over the whole heap -/
theorem Rep.all (R : Rep K cs Z F H σ ρ) (h : Vw K F σ ρ v d) : Rp K H v d := by
  rcases h with h | ⟨i, c, h1, h2, rfl, h3⟩
  · exact h.ext R.ex
  · obtain ⟨a, e, _, _, o⟩ := R.mine i c h1 h2
    rw [h3] at e
    cases e
    obtain ⟨ob, q1, q2⟩ := o.rp
    exact q2 H R.ex q1
theorem Rep.lst (R : Rep K cs Z F H σ ρ) {ds : List D} (h : Vw K F σ ρ v (.list ds)) : ∃ a xs, v = .ref a ∧ SqL K H a xs ∧ Rps K F xs ds := by
  rcases h with h | ⟨i, c, h1, h2, h4, h3⟩
  · cases h with
    | lst s r => exact ⟨_, _, rfl, R.ex.sqL s, r⟩
  · obtain ⟨a, e, _, _, o⟩ := R.mine i c h1 h2
    rw [h3] at e
    cases e
    rw [h4] at o
    obtain ⟨xs, q1, q2⟩ := o
    exact ⟨a, xs, rfl, .inl (.inl q1), q2⟩
theorem Rep.tup (R : Rep K cs Z F H σ ρ) {ds : List D} (h : Vw K F σ ρ v (.tuple ds)) : ∃ a xs, v = .ref a ∧ SqT K F a xs ∧ SqT K H a xs ∧ Rps K F xs ds := by
  rcases h with h | ⟨i, c, h1, h2, h4, h3⟩
  · cases h with
    | tup s r => exact ⟨_, _, rfl, s, R.ex.sqT s, r⟩
  · obtain ⟨a, e, _, _, o⟩ := R.mine i c h1 h2
    rw [h4] at o
    exact o.elim
/-- a new object, shared at once -/
theorem Rep.new {p : Addr} {o : HO} (R : Rep K cs Z F H σ ρ) (hp : H p = none) : Rep K cs Z (upd F p o) (upd H p o) σ ρ ∧ Ext F (upd F p o) ∧ F p = none := by
  have fp : F p = none := by
    cases e : F p with
    | none => rfl
    | some u => rw [R.fh p u e] at hp; cases hp
  have hne : ∀ a u, H a = some u → a ≠ p := fun a u e => ne_of_none e hp
  refine ⟨⟨R.len, fun a u e => ?_, fun a u e => ?_, fun i c h1 h2 => ?_, fun i d h1 => ?_, R.inj, R.io, fun q hq => ?_⟩, Ext.upd fp, fp⟩
  · by_cases h : a = p
    · subst h
      rw [upd_same] at e ⊢
      exact e
    · rw [upd_ne h] at e ⊢
      exact R.fh a u e
  · obtain ⟨q1, q2⟩ := R.zh a u e
    rw [upd_ne (hne a u q1), upd_ne (hne a u q1)]
    exact ⟨q1, q2⟩
  · obtain ⟨a, e, f, z, o⟩ := R.mine i c h1 h2
    obtain ⟨ob, q1, _⟩ := o.rp
    exact ⟨a, e, by rw [upd_ne (hne a _ q1)]; exact f, z, o.ext (Ext.upd fp) (upd_ne (hne a _ q1))⟩
  · obtain ⟨v, e, r⟩ := R.sh i d h1
    exact ⟨v, e, r.ext (Ext.upd fp)⟩
  · have e := R.tab q hq
    rw [upd_ne (hne q _ (R.fh _ _ e))]
    exact e
/-- a new object, nobody's yet -/
theorem Rep.made {p : Addr} {o : HO} (R : Rep K cs Z F H σ ρ) (hp : H p = none) : Rep K cs Z F (upd H p o) σ ρ ∧ F p = none ∧ Z p = none ∧ ¬ Mine σ ρ p := by
  have fp : F p = none := by
    cases e : F p with
    | none => rfl
    | some u => rw [R.fh p u e] at hp; cases hp
  have zp : Z p = none := by
    cases e : Z p with
    | none => rfl
    | some u => rw [(R.zh p u e).1] at hp; cases hp
  have hne : ∀ a u, H a = some u → a ≠ p := fun a u e => ne_of_none e hp
  refine ⟨⟨R.len, fun a u e => ?_, fun a u e => ?_, fun i c h1 h2 => ?_, R.sh, R.inj, R.io, R.tab⟩, fp, zp, ?_⟩
  · rw [upd_ne (hne a u (R.fh a u e))]
    exact R.fh a u e
  · obtain ⟨q1, q2⟩ := R.zh a u e
    rw [upd_ne (hne a u q1)]
    exact ⟨q1, q2⟩
  · obtain ⟨a, e, f, z, o⟩ := R.mine i c h1 h2
    obtain ⟨ob, q1, _⟩ := o.rp
    exact ⟨a, e, f, z, o.ext (Ext.refl F) (upd_ne (hne a _ q1))⟩
  · rintro ⟨i, c, h1, h2, h3⟩
    obtain ⟨a, e, f, z, o⟩ := R.mine i c h1 h2
    obtain ⟨ob, q1, _⟩ := o.rp
    rw [h3] at e
    cases e
    rw [hp] at q1
    cases q1
/-- what is nobody's becomes shared -/
theorem Rep.give {p : Addr} {o : HO} (R : Rep K cs Z F H σ ρ) (hp : H p = some o) (fp : F p = none) (zp : Z p = none) (mp : ¬ Mine σ ρ p) : Rep K cs Z (upd F p o) H σ ρ := by
  refine ⟨R.len, fun a u e => ?_, fun a u e => ?_, fun i c h1 h2 => ?_, fun i d h1 => ?_, R.inj, R.io, fun q hq => ?_⟩
  · by_cases h : a = p
    · subst h
      rw [upd_same] at e
      cases e
      exact hp
    · rw [upd_ne h] at e
      exact R.fh a u e
  · obtain ⟨q1, q2⟩ := R.zh a u e
    have h : a ≠ p := ne_of_none e zp
    rw [upd_ne h]
    exact ⟨q1, q2⟩
  · obtain ⟨a, e, f, z, ow⟩ := R.mine i c h1 h2
    have h : a ≠ p := fun z => mp ⟨i, c, h1, h2, by rw [← z]; exact e⟩
    exact ⟨a, e, by rw [upd_ne h]; exact f, z, ow.ext (Ext.upd fp) rfl⟩
  · obtain ⟨v, e, r⟩ := R.sh i d h1
    exact ⟨v, e, r.ext (Ext.upd fp)⟩
  · have e := R.tab q hq
    rw [upd_ne (ne_of_none e fp)]
    exact e
end

/-! ## expressions that change no name -/
def tP (K : PySem.W.Frag) (cs : List Addr) (f : Nv → Option D) : TE := fun σ H Q => ∃ Z F ρ d, Rep K cs Z F H σ ρ ∧ f ρ = some d ∧ ∀ v F' H', Ext F F' → Rep K cs Z F' H' σ ρ → Rp K F' v d → Q v H'
def tW (K : PySem.W.Frag) (cs : List Addr) (f : Nv → Option D) : TE := fun σ H Q => ∃ Z F ρ d, Rep K cs Z F H σ ρ ∧ f ρ = some d ∧ ∀ v F' H', Ext F F' → Rep K cs Z F' H' σ ρ → Vw K F' σ ρ v d → Q v H'
/-- a new list or dict, nobody's yet -/
def tN (K : PySem.W.Frag) (cs : List Addr) (f : Nv → Option D) : TE := fun σ H Q => ∃ Z F ρ d, Rep K cs Z F H σ ρ ∧ f ρ = some d ∧
  ∀ p F' H', Ext F F' → Rep K cs Z F' H' σ ρ → F' p = none → Z p = none → ¬ Mine σ ρ p → Own K F' H' p d → Q (.ref p) H'
def tPT (K : PySem.W.Frag) (cs : List Addr) (f : Nv → Option Bool) : TT := fun σ H Q => ∃ Z F ρ b, Rep K cs Z F H σ ρ ∧ f ρ = some b ∧ ∀ F' H', Ext F F' → Rep K cs Z F' H' σ ρ → Q b H'
def tPA (K : PySem.W.Frag) (cs : List Addr) (f : Nv → Option (List D)) : TA := fun σ H Q => ∃ Z F ρ ds, Rep K cs Z F H σ ρ ∧ f ρ = some ds ∧ ∀ vs F' H', Ext F F' → Rep K cs Z F' H' σ ρ → Rps K F' vs ds → Q vs H'
inductive Vws (K : PySem.W.Frag) (F : Hp) (σ : L2.St) (ρ : Nv) : List V → List D → Prop
  | nil : Vws K F σ ρ [] []
  | cons {v : V} {vs : List V} {d : D} {ds : List D} : Vw K F σ ρ v d → Vws K F σ ρ vs ds → Vws K F σ ρ (v :: vs) (d :: ds)
theorem Vws.ext {K : PySem.W.Frag} {F F' : Hp} {σ : L2.St} {ρ : Nv} (e : Ext F F') : ∀ {vs : List V} {ds : List D}, Vws K F σ ρ vs ds → Vws K F' σ ρ vs ds
  | _, _, .nil => .nil
  | _, _, .cons a b => .cons (a.ext e) (Vws.ext e b)
def tWA (K : PySem.W.Frag) (cs : List Addr) (f : Nv → Option (List D)) : TA := fun σ H Q => ∃ Z F ρ ds, Rep K cs Z F H σ ρ ∧ f ρ = some ds ∧ ∀ vs F' H', Ext F F' → Rep K cs Z F' H' σ ρ → Vws K F' σ ρ vs ds → Q vs H'

section
variable (cs : List Addr) (X : Cx)
structure EP' (e : Expr) (f : Nv → Option D) : Prop where
  h : PE X e (tP X.K cs f)
structure EW (e : Expr) (f : Nv → Option D) : Prop where
  h : PE X e (tW X.K cs f)
structure EN (e : Expr) (f : Nv → Option D) : Prop where
  h : PE X e (tN X.K cs f)
structure ET (e : Expr) (f : Nv → Option Bool) : Prop where
  h : PT X e (tPT X.K cs f)
structure EWs (es : List Expr) (f : Nv → Option (List D)) : Prop where
  h : PA X es (tWA X.K cs f)
structure EPs (es : List Expr) (f : Nv → Option (List D)) : Prop where
  h : PA X es (tPA X.K cs f)
end
section
variable {cs : List Addr} {X : Cx} {e a b c : Expr} {pos : Pos}
theorem pe_imp {t t' : TE} (h : PE X e t) (i : ∀ σ H Q, t' σ H Q → t σ H Q) : PE X e t' := ⟨fun pins s σ H Q I q => h.run pins s σ H Q I (i σ H Q q)⟩
theorem pt_imp {t t' : TT} (h : PT X e t) (i : ∀ σ H Q, t' σ H Q → t σ H Q) : PT X e t' := ⟨fun pins s σ H Q I q => h.run pins s σ H Q I (i σ H Q q)⟩
theorem pw_imp {t t' : TT} (h : PW X e t) (i : ∀ σ H Q, t' σ H Q → t σ H Q) : PW X e t' := ⟨fun wh pins s σ H Q I q => h.run wh pins s σ H Q I (i σ H Q q)⟩
theorem pa_imp {es : List Expr} {t t' : TA} (h : PA X es t) (i : ∀ σ H Q, t' σ H Q → t σ H Q) : PA X es t' := ⟨fun p pins s σ H Q I q => h.run p pins s σ H Q I (i σ H Q q)⟩
theorem ps_imp {st : Stmt} {t t' : TS} (h : PS X st t) (i : ∀ D σ H, t' D σ H → t D σ H) : PS X st t' := ⟨fun pins s σ H D I q => h.run pins s σ H D I (i D σ H q)⟩
theorem pss_imp {st : List Stmt} {t t' : TS} (h : PSs X st t) (i : ∀ D σ H, t' D σ H → t D σ H) : PSs X st t' := ⟨fun pins s σ H D I q => h.run pins s σ H D I (i D σ H q)⟩

theorem EP'.w {f : Nv → Option D} (h : EP' cs X e f) : EW cs X e f := ⟨pe_imp h.h fun _ _ _ ⟨Z, F, ρ, d, R, ef, q⟩ => ⟨Z, F, ρ, d, R, ef, fun v F' H' e' R' r => q v F' H' e' R' (.inl r)⟩⟩
theorem EN.p {f : Nv → Option D} (h : EN cs X e f) : EP' cs X e f := ⟨pe_imp h.h fun _ _ _ ⟨Z, F, ρ, d, R, ef, q⟩ => ⟨Z, F, ρ, d, R, ef, fun p F' H' e' R' fp zp mp ow => by
  obtain ⟨o, h1, h2⟩ := ow.rp
  exact q _ _ _ (e'.trans (Ext.upd fp)) (R'.give h1 fp zp mp) (h2 _ (Ext.upd fp) upd_same)⟩⟩
theorem EN.w {f : Nv → Option D} (h : EN cs X e f) : EW cs X e f := h.p.w

/-! ### constants and names -/
theorem e_int {i : Int} {j : Nat} : EP' cs X (.Constant (.int i) j pos) (fun _ => some (.int i)) := ⟨pe_imp pe_int fun _ _ _ ⟨Z, F, ρ, d, R, ef, q⟩ => by
  cases ef
  exact q _ F _ (Ext.refl F) R (.int i)⟩
theorem e_str {i : Str} {j : Nat} : EP' cs X (.Constant (.str i) j pos) (fun _ => some (.str i)) := ⟨pe_imp pe_str fun _ _ _ ⟨Z, F, ρ, d, R, ef, q⟩ => by
  cases ef
  exact q _ F _ (Ext.refl F) R (.str i)⟩
theorem e_bool {i : Bool} {j : Nat} : EP' cs X (.Constant (.bool i) j pos) (fun _ => some (.bool i)) := ⟨pe_imp pe_bl fun _ _ _ ⟨Z, F, ρ, d, R, ef, q⟩ => by
  cases ef
  exact q _ F _ (Ext.refl F) R (.bl i)⟩
theorem e_none {j : Nat} : EP' cs X (.Constant .none j pos) (fun _ => some .none) := ⟨pe_imp pe_non fun _ _ _ ⟨Z, F, ρ, d, R, ef, q⟩ => by
  cases ef
  exact q _ F _ (Ext.refl F) R .non⟩
/-- a name, read as shared data -/
def nmP (i : Nat) : Nv → Option D := fun ρ => match ρ[i]? with
  | some (some (.sh d)) => some d
  | _ => none
/-- .. or as what it holds now -/
def nmW (i : Nat) : Nv → Option D := fun ρ => match ρ[i]? with
  | some (some c) => some c.got
  | _ => none
theorem e_nameP {i : Nat} {x : Str} (h : PE X (.Name x pos) (tVar i)) : EP' cs X (.Name x pos) (nmP i) := ⟨pe_imp h fun σ H Q ⟨Z, F, ρ, d, R, ef, q⟩ => by
  unfold nmP at ef
  split at ef
  · rename_i d' e
    cases ef
    obtain ⟨v, h1, h2⟩ := R.sh i _ e
    exact ⟨v, h1, q v F H (Ext.refl F) R h2⟩
  · cases ef⟩
theorem e_nameW {i : Nat} {x : Str} (h : PE X (.Name x pos) (tVar i)) : EW cs X (.Name x pos) (nmW i) := ⟨pe_imp h fun σ H Q ⟨Z, F, ρ, d, R, ef, q⟩ => by
  unfold nmW at ef
  split at ef
  · rename_i c e
    cases ef
    cases hc : c.mine with
    | true =>
      obtain ⟨a, h1, _⟩ := R.mine i c e hc
      exact ⟨.ref a, h1, q _ F H (Ext.refl F) R (.inr ⟨i, c, e, hc, rfl, h1⟩)⟩
    | false =>
      cases c with
      | sh d =>
        obtain ⟨v, h1, h2⟩ := R.sh i _ e
        exact ⟨v, h1, q v F H (Ext.refl F) R (.inl h2)⟩
      | ow d => cases hc
      | io a d => cases hc
  · cases ef⟩
/-- a constant of the module -/
theorem e_glob {x : Str} {v : V} {d : D} (h : PE X (.Name x pos) (tC v)) (r : ∀ F, Rp X.K F v d) : EP' cs X (.Name x pos) (fun _ => some d) := ⟨pe_imp h fun _ H Q ⟨Z, F, ρ, d, R, ef, q⟩ => by
  cases ef
  exact q _ F H (Ext.refl F) R (r F)⟩

/-! ### operators -/
/-- what an operator does with data -/
def OpS (X : Cx) (cs : List Addr) (r : R2) (g : D → D → Option D) : Prop := ∀ (Z F H : Hp) (σ : L2.St) (ρ : Nv) (v u : V) (x y d : D) (Q : VK), Rep X.K cs Z F H σ ρ → Vw X.K F σ ρ v x → Vw X.K F σ ρ u y → g x y = some d →
  (∀ w F' H', Ext F F' → Rep X.K cs Z F' H' σ ρ → Rp X.K F' w d → Q w H') → r v u H Q
def op2 (g : D → D → Option D) (fa fb : Nv → Option D) : Nv → Option D := fun ρ => (fa ρ).bind fun x => (fb ρ).bind fun y => g x y
theorem t_op2 {r : R2} {g : D → D → Option D} (h : OpS X cs r g) {fa fb : Nv → Option D} : ∀ σ H Q, tP X.K cs (op2 g fa fb) σ H Q → tOp r (tW X.K cs fa) (tW X.K cs fb) σ H Q := fun σ H Q ⟨Z, F, ρ, d, R, ef, q⟩ => by
  unfold op2 at ef
  cases ea : fa ρ with
  | none => rw [ea] at ef; cases ef
  | some x =>
    rw [ea] at ef
    cases eb : fb ρ with
    | none => rw [show (some x).bind _ = _ from rfl, eb] at ef; cases ef
    | some y =>
      rw [show (some x).bind _ = _ from rfl, eb] at ef
      exact ⟨Z, F, ρ, x, R, ea, fun v F1 H1 e1 R1 w1 => ⟨Z, F1, ρ, y, R1, eb, fun u F2 H2 e2 R2 w2 => h Z F2 H2 σ ρ v u x y d Q R2 (w1.ext e2) w2 ef fun w F' H' e3 R3 r3 => q w F' H' ((e1.trans e2).trans e3) R3 r3⟩⟩
end
end DS

namespace DS
open PySem L2

/-! ## operators by values -/
/-- an operator on data: what it is told of its operands, what it gives -/
def rD (K : PySem.W.Frag) (cs : List Addr) (g : D → D → Option D) : R2 := fun v u H Q => ∃ Z F σ ρ x y d, Rep K cs Z F H σ ρ ∧ Vw K F σ ρ v x ∧ Vw K F σ ρ u y ∧ g x y = some d ∧ ∀ w F' H', Ext F F' → Rep K cs Z F' H' σ ρ → Rp K F' w d → Q w H'
theorem t_opD {K : PySem.W.Frag} {cs : List Addr} {g : D → D → Option D} {fa fb : Nv → Option D} : ∀ σ H Q, tP K cs (op2 g fa fb) σ H Q → tOp (rD K cs g) (tW K cs fa) (tW K cs fb) σ H Q := fun σ H Q ⟨Z, F, ρ, d, R, ef, q⟩ => by
  unfold op2 at ef
  obtain ⟨x, ea, ef⟩ := Option.bind_eq_some_iff.mp ef
  obtain ⟨y, eb, ef⟩ := Option.bind_eq_some_iff.mp ef
  exact ⟨Z, F, ρ, x, R, ea, fun v F1 H1 e1 R1 w1 => ⟨Z, F1, ρ, y, R1, eb, fun u F2 H2 e2 R2 w2 => ⟨Z, F2, σ, ρ, x, y, d, R2, w1.ext e2, w2, ef, fun w F' H' e3 R3 r3 => q w F' H' ((e1.trans e2).trans e3) R3 r3⟩⟩⟩
section
variable {K : PySem.W.Frag} {cs : List Addr} {Z F H : Hp} {σ : L2.St} {ρ : Nv} {v : V}
theorem Rep.vsc (R : Rep K cs Z F H σ ρ) {d : D} (h : Vw K F σ ρ v d) (hd : ∀ H' a, ¬ Own K F H' a d) : Rp K F v d := by
  rcases h with h | ⟨i, c, h1, h2, rfl, h3⟩
  · exact h
  · obtain ⟨a, _, _, _, o⟩ := R.mine i c h1 h2
    exact (hd _ _ o).elim
theorem Rep.vint (R : Rep K cs Z F H σ ρ) {i : Int} (h : Vw K F σ ρ v (.int i)) : v = .int i := by
  cases R.vsc h fun _ _ z => z
  rfl
theorem Rep.vbool (R : Rep K cs Z F H σ ρ) {i : Bool} (h : Vw K F σ ρ v (.bool i)) : v = .bl i := by
  cases R.vsc h fun _ _ z => z
  rfl
theorem Rep.vstr (R : Rep K cs Z F H σ ρ) {i : Str} (h : Vw K F σ ρ v (.str i)) : v = .str i := by
  cases R.vsc h fun _ _ z => z
  rfl
theorem Rep.vnone (R : Rep K cs Z F H σ ρ) (h : Vw K F σ ρ v .none) : v = .non := by
  cases R.vsc h fun _ _ z => z
  rfl
mutual
theorem Rp.dp : ∀ {v : V} {d : D}, Rp K F v d → d.canLay0 = true → Dp K F v d
  | _, _, .non, _ => .non
  | _, _, .bl b, _ => .bl b
  | _, _, .int i, _ => .int i
  | _, _, .str x, _ => .str x
  | _, _, .lst s r, h => .lst s (Rps.dp r (by simpa [PyData.canLay0] using h))
  | _, _, .tup s r, h => .tup s (Rps.dp r (by simpa [PyData.canLay0] using h))
  | _, _, .dK _ _, h => by simp [PyData.canLay0] at h
  | _, _, .dT _ _ _, h => by simp [PyData.canLay0] at h
theorem Rps.dp : ∀ {vs : List V} {ds : List D}, Rps K F vs ds → PyData.canLayAll0 ds = true → DpAll K F vs ds
  | _, _, .nil, _ => .nil
  | _, _, .cons a b, h => by
    rw [PyData.canLayAll0, Bool.and_eq_true] at h
    exact .cons (Rp.dp a h.1) (Rps.dp b h.2)
end
end

def addD : D → D → Option D
  | .int i, .int j => some (.int (i + j))
  | .str x, .str y => if x.length + y.length ≤ 100000 then some (.str (x ++ y)) else none
  | .list xs, .list ys => if xs.length + ys.length ≤ 100000 then some (.list (xs ++ ys)) else none
  | _, _ => none
def subD : D → D → Option D
  | .int i, .int j => some (.int (i - j))
  | _, _ => none
def mulD : D → D → Option D
  | .int i, .int j => if -1000000 < j ∧ j < 1000000 then some (.int (i * j)) else none
  | _, _ => none
def fdivD : D → D → Option D
  | .int i, .int j => if 0 < j ∧ j < 1073741824 then some (.int (i / j)) else none
  | _, _ => none
def modD : D → D → Option D
  | .int i, .int j => if 0 < j then some (.int (i % j)) else none
  | _, _ => none
def eqD (x y : D) : Option D := if SeqAt.shaped x = true ∧ SeqAt.shaped y = true then some (.bool (PyData.eqv x y)) else none
def neD (x y : D) : Option D := if SeqAt.shaped x = true ∧ SeqAt.shaped y = true then some (.bool (!PyData.eqv x y)) else none
def ltD : D → D → Option D
  | .int i, .int j => some (.bool (decide (i < j)))
  | _, _ => none
def leD : D → D → Option D
  | .int i, .int j => some (.bool (decide (i ≤ j)))
  | .str x, .str y => some (.bool (!decide (y.cps.toList < x.cps.toList)))
  | _, _ => none
def gtD : D → D → Option D
  | .int i, .int j => some (.bool (decide (j < i)))
  | _, _ => none
def geD : D → D → Option D
  | .int i, .int j => some (.bool (decide (j ≤ i)))
  | _, _ => none
def isNone : D → Bool
  | .none => true
  | _ => false
def isD (x : D) : D → Option D
  | .none => some (.bool (isNone x))
  | _ => none
def isntD (x : D) : D → Option D
  | .none => some (.bool (!isNone x))
  | _ => none
/-- one sign in a text, or something flat among flat things -/
def inD (x y : D) : Option Bool := match x, y with
  | .str a, .str z => if a.length = 1 then some (decide (a.cps.getD 0 0 ∈ z.cps.toList)) else none
  | x, .list ds => if SeqAt.shaped x = true ∧ SeqAt.shaped (.list ds) = true then some (ds.any fun z => PyData.eqv z x) else none
  | _, _ => none
def inD' (x y : D) : Option D := (inD x y).map .bool
def ninD' (x y : D) : Option D := (inD x y).map fun b => .bool (!b)

/-- list + list, whatever slots they have -/
theorem list_cat (l : Addr) (it : Array Value) (n : Nat) (sl : Array (Option Value)) (b : Addr) (it2 : Array Value) (n2 : Nat) (sl2 : Array (Option Value)) (hc : it.size + it2.size ≤ sizeLine) :
    Meets (Builtin.«list.__add__» ⟨[.ref l, .ref b], []⟩) (fun _ R s => s.heap.get? l = some { cls := .type "list", dict := none, data := .seq it n, slots := sl } ∧ s.heap.get? b = some { cls := .type "list", dict := none, data := .seq it2 n2, slots := sl2 } ∧
      R (.ok (.ret (Value.ref s.heap.objs.size))) { s with heap := s.heap.push { cls := Value.type "list", data := Data.seq (it ++ it2) }, toks := s.toks }) :=
  .of_wp fun prog w A R s h => by
    obtain ⟨hp, g, d, tk, os⟩ := s
    obtain ⟨hl, hb, h⟩ := h
    have f3 := AutoSeq1.sub_list_list
    wp_walk using AutoSeq1.wpAny_loadPart' hl, AutoSeq1.wpAny_loadPart' hb
    exact ⟨_, rfl, h⟩
section
variable {X : Cx} {cs : List Addr}
theorem od_add : OpR X (binaryOp .Add) (rD X.K cs addD) := by
  rintro pins s σ H v u a b Q I rx ry ⟨Z, F, σ', ρ, x, y, d, R, w1, w2, e, q⟩
  unfold addD at e
  split at e
  · cases e
    cases R.vint w1
    cases R.vint w2
    exact op_add pins s σ H _ _ a b Q I rx ry ⟨_, _, rfl, rfl, q _ F H (Ext.refl F) R (.int _)⟩
  · rename_i x y
    split at e
    · rename_i hl
      cases e
      cases R.vstr w1
      cases R.vstr w2
      exact op_add_str pins s σ H _ _ a b Q I rx ry ⟨_, _, rfl, rfl, Nat.le_trans hl (by decide), q _ F H (Ext.refl F) R (.str _)⟩
    · cases e
  · rename_i xs ys
    split at e
    · rename_i hl
      cases e
      obtain ⟨a1, vs, rfl, s1, r1⟩ := R.lst w1
      obtain ⟨a2, ws, rfl, s2, r2⟩ := R.lst w2
      cases rx
      cases ry
      obtain ⟨it1, t1, p1, z1⟩ := I.list s1
      obtain ⟨it2, t2, p2, z2⟩ := I.list s2
      have l1 := t1.length
      have l2 := t2.length
      have k1 := r1.len
      have k2 := r2.len
      have hz : vs.length + ws.length ≤ sizeLine := by
        have : (100000 : Nat) ≤ sizeLine := by decide
        omega
      obtain ⟨⟨oc, od, dt, sl⟩, n, h1, h2, h3, h4⟩ := p1
      obtain ⟨⟨oc2, od2, dt2, sl2⟩, n2, g1, g2, g3, g4⟩ := p2
      simp only at h2 h3 h4 g2 g3 g4
      subst h2 h3 h4 g2 g3 g4
      refine concat_meets ⟨_, h1, rfl⟩ ⟨_, g1, rfl⟩ noFill_list_add seq_list_add PySem.F.slot_list_add PySem.F.entry_list_add (PySem.F.args_list_add_2 _ _) (list_cat a1 it1.toArray n sl a2 it2.toArray n2 sl2 (by simp only [List.size_toArray]; omega)) ⟨h1, g1, ?_⟩
      have ea : it1.toArray ++ it2.toArray = (it1 ++ it2).toArray := by simp
      rw [ea]
      have hn : H s.heap.objs.size = none := I.fresh
      obtain ⟨R', e', fp⟩ := R.new (o := .lst (vs ++ ws)) hn
      exact ⟨.ref _, _, I.lnew (t' := s.toks) (t1.append t2) (by rw [List.length_append]; omega), rfl, q _ _ _ e' R' (.lst (.inl (.inl upd_same)) ((r1.app r2).ext e'))⟩
    · cases e
  · cases e

theorem od_sub : OpR X (binaryOp .Sub) (rD X.K cs subD) := by
  rintro pins s σ H v u a b Q I rx ry ⟨Z, F, σ', ρ, x, y, d, R, w1, w2, e, q⟩
  unfold subD at e
  split at e
  · cases e
    cases R.vint w1
    cases R.vint w2
    exact op_sub pins s σ H _ _ a b Q I rx ry ⟨_, _, rfl, rfl, q _ F H (Ext.refl F) R (.int _)⟩
  · cases e
theorem od_mul : OpR X (binaryOp .Mult) (rD X.K cs mulD) := by
  rintro pins s σ H v u a b Q I rx ry ⟨Z, F, σ', ρ, x, y, d, R, w1, w2, e, q⟩
  unfold mulD at e
  split at e
  · split at e
    · rename_i hc
      cases e
      cases R.vint w1
      cases R.vint w2
      exact op_mul pins s σ H _ _ a b Q I rx ry ⟨_, _, rfl, rfl, .inr ⟨by omega, by omega⟩, q _ F H (Ext.refl F) R (.int _)⟩
    · cases e
  · cases e
theorem od_fdiv : OpR X (binaryOp .FloorDiv) (rD X.K cs fdivD) := by
  rintro pins s σ H v u a b Q I rx ry ⟨Z, F, σ', ρ, x, y, d, R, w1, w2, e, q⟩
  unfold fdivD at e
  split at e
  · split at e
    · rename_i hc
      cases e
      cases R.vint w1
      cases R.vint w2
      exact op_fdiv pins s σ H _ _ a b Q I rx ry ⟨_, _, rfl, rfl, hc, q _ F H (Ext.refl F) R (.int _)⟩
    · cases e
  · cases e
theorem od_mod : OpR X (binaryOp .Mod) (rD X.K cs modD) := by
  rintro pins s σ H v u a b Q I rx ry ⟨Z, F, σ', ρ, x, y, d, R, w1, w2, e, q⟩
  unfold modD at e
  split at e
  · split at e
    · rename_i hc
      cases e
      cases R.vint w1
      cases R.vint w2
      exact op_mod pins s σ H _ _ a b Q I rx ry ⟨_, _, rfl, rfl, hc, q _ F H (Ext.refl F) R (.int _)⟩
    · cases e
  · cases e
theorem shp {d : D} (h : SeqAt.shaped d = true) : d.canLay0 = true := SeqAt.canLay_of_shaped h
theorem od_eq (hu : X.A.units + 64 < cLine) : OpR X (compareOp .Eq) (rD X.K cs eqD) := by
  rintro pins s σ H v u a b Q I rx ry ⟨Z, F, σ', ρ, x, y, d, R, w1, w2, e, q⟩
  unfold eqD at e
  split at e
  · rename_i hc
    cases e
    exact op_eqD hu pins s σ H _ _ a b Q I rx ry ⟨x, y, (R.all w1).dp (shp hc.1), (R.all w2).dp (shp hc.2), hc.1, hc.2, q _ F H (Ext.refl F) R (.bl _)⟩
  · cases e
theorem od_ne (hu : X.A.units + 64 < cLine) : OpR X (compareOp .NotEq) (rD X.K cs neD) := by
  rintro pins s σ H v u a b Q I rx ry ⟨Z, F, σ', ρ, x, y, d, R, w1, w2, e, q⟩
  unfold neD at e
  split at e
  · rename_i hc
    cases e
    exact op_neD hu pins s σ H _ _ a b Q I rx ry ⟨x, y, (R.all w1).dp (shp hc.1), (R.all w2).dp (shp hc.2), hc.1, hc.2, q _ F H (Ext.refl F) R (.bl _)⟩
  · cases e
theorem od_lt : OpR X (compareOp .Lt) (rD X.K cs ltD) := by
  rintro pins s σ H v u a b Q I rx ry ⟨Z, F, σ', ρ, x, y, d, R, w1, w2, e, q⟩
  unfold ltD at e
  split at e
  · cases e
    cases R.vint w1
    cases R.vint w2
    exact op_lt pins s σ H _ _ a b Q I rx ry ⟨_, _, rfl, rfl, q _ F H (Ext.refl F) R (.bl _)⟩
  · cases e
theorem od_gt : OpR X (compareOp .Gt) (rD X.K cs gtD) := by
  rintro pins s σ H v u a b Q I rx ry ⟨Z, F, σ', ρ, x, y, d, R, w1, w2, e, q⟩
  unfold gtD at e
  split at e
  · cases e
    cases R.vint w1
    cases R.vint w2
    exact op_gt pins s σ H _ _ a b Q I rx ry ⟨_, _, rfl, rfl, q _ F H (Ext.refl F) R (.bl _)⟩
  · cases e
theorem od_ge : OpR X (compareOp .GtE) (rD X.K cs geD) := by
  rintro pins s σ H v u a b Q I rx ry ⟨Z, F, σ', ρ, x, y, d, R, w1, w2, e, q⟩
  unfold geD at e
  split at e
  · cases e
    cases R.vint w1
    cases R.vint w2
    exact op_ge pins s σ H _ _ a b Q I rx ry ⟨_, _, rfl, rfl, q _ F H (Ext.refl F) R (.bl _)⟩
  · cases e
theorem od_le : OpR X (compareOp .LtE) (rD X.K cs leD) := by
  rintro pins s σ H v u a b Q I rx ry ⟨Z, F, σ', ρ, x, y, d, R, w1, w2, e, q⟩
  unfold leD at e
  split at e
  · cases e
    cases R.vint w1
    cases R.vint w2
    exact op_le pins s σ H _ _ a b Q I rx ry ⟨_, _, rfl, rfl, q _ F H (Ext.refl F) R (.bl _)⟩
  · cases e
    cases R.vstr w1
    cases R.vstr w2
    exact op_le_str pins s σ H _ _ a b Q I rx ry ⟨_, _, rfl, rfl, q _ F H (Ext.refl F) R (.bl _)⟩
  · cases e
theorem Rep.isN {K : PySem.W.Frag} {Z F H : Hp} {σ : L2.St} {ρ : Nv} {v : V} {x : D} (R : Rep K cs Z F H σ ρ) (h : Vw K F σ ρ v x) : decide (v = .non) = isNone x := by
  have r := R.all h
  cases r <;> simp [isNone]
theorem od_is : OpR X (compareOp .Is) (rD X.K cs isD) := by
  rintro pins s σ H v u a b Q I rx ry ⟨Z, F, σ', ρ, x, y, d, R, w1, w2, e, q⟩
  unfold isD at e
  split at e
  · cases e
    cases R.vnone w2
    refine op_isN pins s σ H _ _ a b Q I rx ry ⟨rfl, ?_⟩
    rw [R.isN w1]
    exact q _ F H (Ext.refl F) R (.bl _)
  · cases e
theorem od_isnt : OpR X (compareOp .IsNot) (rD X.K cs isntD) := by
  rintro pins s σ H v u a b Q I rx ry ⟨Z, F, σ', ρ, x, y, d, R, w1, w2, e, q⟩
  unfold isntD at e
  split at e
  · cases e
    cases R.vnone w2
    refine op_notN pins s σ H _ _ a b Q I rx ry ⟨rfl, ?_⟩
    rw [R.isN w1]
    exact q _ F H (Ext.refl F) R (.bl _)
  · cases e
theorem one_sign {a : Str} (h : a.length = 1) : a = ⟨#[a.cps.getD 0 0]⟩ := by
  obtain ⟨⟨l⟩⟩ := a
  have h' : l.length = 1 := h
  match l, h' with
  | [c], _ => rfl
theorem od_in (hu : X.A.units + 65 < cLine) : OpR X (compareOp .In) (rD X.K cs inD') := by
  rintro pins s σ H v u a b Q I rx ry ⟨Z, F, σ', ρ, x, y, d, R, w1, w2, e, q⟩
  unfold inD' at e
  obtain ⟨bb, e, rfl⟩ := Option.map_eq_some_iff.mp e
  unfold inD at e
  split at e
  · split at e
    · rename_i hl
      cases e
      cases R.vstr w1
      cases R.vstr w2
      refine op_in_sign pins s σ H _ _ a b Q I rx ry ⟨_, _, congrArg V.str (one_sign hl), rfl, q _ F H (Ext.refl F) R (.bl _)⟩
    · cases e
  · split at e
    · rename_i hc
      cases e
      exact op_inD hu pins s σ H _ _ a b Q I rx ry ⟨_, _, (R.all w1).dp (shp hc.1), (R.all w2).dp (shp hc.2), hc.1, hc.2, q _ F H (Ext.refl F) R (.bl _)⟩
    · cases e
  · cases e
theorem od_nin (hu : X.A.units + 65 < cLine) : OpR X (compareOp .NotIn) (rD X.K cs ninD') := by
  rintro pins s σ H v u a b Q I rx ry ⟨Z, F, σ', ρ, x, y, d, R, w1, w2, e, q⟩
  unfold ninD' at e
  obtain ⟨bb, e2, rfl⟩ := Option.map_eq_some_iff.mp e
  clear e
  unfold inD at e2
  split at e2
  · split at e2
    · rename_i hl
      obtain rfl := Option.some.inj e2
      cases R.vstr w1
      cases R.vstr w2
      refine op_notIn_sign pins s σ H _ _ a b Q I rx ry ⟨_, _, congrArg V.str (one_sign hl), rfl, q _ F H (Ext.refl F) R (.bl _)⟩
    · cases e2
  · split at e2
    · rename_i hc
      obtain rfl := Option.some.inj e2
      exact op_notInD hu pins s σ H _ _ a b Q I rx ry ⟨_, _, (R.all w1).dp (shp hc.1), (R.all w2).dp (shp hc.2), hc.1, hc.2, q _ F H (Ext.refl F) R (.bl _)⟩
    · cases e2
  · cases e2
end
end DS

namespace DS
open PySem L2

/-! ## expressions by their parts -/
section
variable {cs : List Addr} {X : Cx} {a b c e : Expr} {es : List Expr} {pos : Pos} {fa fb fc : Nv → Option D} {g g' : D → D → Option D} {ga gb : Nv → Option Bool}
theorem e_op {op : Operator} (ho : OpR X (binaryOp op) (rD X.K cs g)) (ha : EW cs X a fa) (hb : EW cs X b fb) : EP' cs X (.BinOp a op b pos) (op2 g fa fb) := ⟨pe_imp (pe_op ho ha.h hb.h) t_opD⟩
theorem e_cmp {op : CmpOp} (ho : OpR X (compareOp op) (rD X.K cs g)) (ha : EW cs X a fa) (hb : EW cs X b fb) (hm : behindInMarks op b = false) : EP' cs X (.Compare a [op] [b] pos) (op2 g fa fb) := ⟨pe_imp (pe_cmpR ho ha.h hb.h hm) t_opD⟩
def asB : D → Option Bool
  | .bool b => some b
  | _ => none
def opT (g : D → D → Option D) (fa fb : Nv → Option D) : Nv → Option Bool := fun ρ => (op2 g fa fb ρ).bind asB
theorem asB_some {d : D} {b : Bool} (h : asB d = some b) : d = .bool b := by
  cases d <;> simp [asB] at h
  rw [h]
theorem Rp.isbl {K : PySem.W.Frag} {F : Hp} {v : V} {b : Bool} (h : Rp K F v (.bool b)) : v = .bl b := by
  cases h
  rfl
theorem et_cmp {op : CmpOp} (ho : OpR X (compareOp op) (rD X.K cs g)) (ha : EW cs X a fa) (hb : EW cs X b fb) (hm : behindInMarks op b = false) : ET cs X (.Compare a [op] [b] pos) (opT g fa fb) := ⟨pt_imp (pt_cmpR ho ha.h hb.h hm) fun σ H Q ⟨Z, F, ρ, k, R, ef, q⟩ => by
  obtain ⟨d, e1, e2⟩ := Option.bind_eq_some_iff.mp ef
  have hk0 := asB_some e2
  exact t_opD σ H _ ⟨Z, F, ρ, _, R, e1, fun v F' H' e' R' r => ⟨k, (hk0 ▸ r).isbl, q F' H' e' R'⟩⟩⟩
/-- a op b op' c -/
def ch3 (g g' : D → D → Option D) (fa fb fc : Nv → Option D) : Nv → Option D := fun ρ => (fa ρ).bind fun x => (fb ρ).bind fun y => (g x y).bind fun z => (asB z).bind fun k => if k = true then (fc ρ).bind fun w => g' y w else some (.bool false)
theorem t_chain {K : PySem.W.Frag} : ∀ σ H Q, tP K cs (ch3 g g' fa fb fc) σ H Q → tChain (rD K cs g) (rD K cs g') (tW K cs fa) (tW K cs fb) (tW K cs fc) σ H Q := fun σ H Q ⟨Z, F, ρ, d, R, ef, q⟩ => by
  unfold ch3 at ef
  obtain ⟨x, ea, ef⟩ := Option.bind_eq_some_iff.mp ef
  obtain ⟨y, eb, ef⟩ := Option.bind_eq_some_iff.mp ef
  obtain ⟨z, ez, ef⟩ := Option.bind_eq_some_iff.mp ef
  obtain ⟨k, ek, ef⟩ := Option.bind_eq_some_iff.mp ef
  have hk0 := asB_some ek
  refine ⟨Z, F, ρ, x, R, ea, fun v F1 H1 e1 R1 w1 => ⟨Z, F1, ρ, y, R1, eb, fun u F2 H2 e2 R2 w2 => ⟨Z, F2, σ, ρ, x, y, _, R2, w1.ext e2, w2, ez, fun t F3 H3 e3 R3 r3 => ⟨k, (hk0 ▸ r3).isbl, ?_⟩⟩⟩⟩
  by_cases hk : k = true
  · rw [if_pos hk] at ef ⊢
    obtain ⟨w, ew, ef⟩ := Option.bind_eq_some_iff.mp ef
    exact ⟨Z, F3, ρ, w, R3, ew, fun s F4 H4 e4 R4 w4 => ⟨Z, F4, σ, ρ, y, w, d, R4, (w2.ext e3).ext e4, w4, ef, fun s' F5 H5 e5 R5 r5 => q s' F5 H5 ((((e1.trans e2).trans e3).trans e4).trans e5) R5 r5⟩⟩
  · rw [if_neg hk] at ef ⊢
    cases ef
    exact q _ F3 H3 ((e1.trans e2).trans e3) R3 (.bl false)
theorem e_chain {op op' : CmpOp} (ho : OpR X (compareOp op) (rD X.K cs g)) (ho' : OpR X (compareOp op') (rD X.K cs g')) (ha : EW cs X a fa) (hb : EW cs X b fb) (hc : EW cs X c fc) (hm : lastMarks [op, op'] [b, c] = false := by with_unfolding_all rfl) :
    EP' cs X (.Compare a [op, op'] [b, c] pos) (ch3 g g' fa fb fc) := ⟨pe_imp (pe_chain ho ho' ha.h hb.h hc.h hm) t_chain⟩
theorem et_chain {op op' : CmpOp} (ho : OpR X (compareOp op) (rD X.K cs g)) (ho' : OpR X (compareOp op') (rD X.K cs g')) (ha : EW cs X a fa) (hb : EW cs X b fb) (hc : EW cs X c fc) (hm : lastMarks [op, op'] [b, c] = false := by with_unfolding_all rfl) :
    ET cs X (.Compare a [op, op'] [b, c] pos) (fun ρ => (ch3 g g' fa fb fc ρ).bind asB) := ⟨pt_imp (pt_chain ho ho' ha.h hb.h hc.h hm) fun σ H Q ⟨Z, F, ρ, k, R, ef, q⟩ => by
  obtain ⟨d, e1, e2⟩ := Option.bind_eq_some_iff.mp ef
  have hk0 := asB_some e2
  exact t_chain σ H _ ⟨Z, F, ρ, _, R, e1, fun v F' H' e' R' r => ⟨k, (hk0 ▸ r).isbl, q F' H' e' R'⟩⟩⟩

/-! ### and, or, not, if -/
def andV (fa fb : Nv → Option D) : Nv → Option D := fun ρ => (fa ρ).bind fun x => (asB x).bind fun k => if k = true then fb ρ else some (.bool false)
def orV (fa fb : Nv → Option D) : Nv → Option D := fun ρ => (fa ρ).bind fun x => (asB x).bind fun k => if k = true then some (.bool true) else fb ρ
def notV (fa : Nv → Option D) : Nv → Option D := fun ρ => (fa ρ).bind fun x => (asB x).map fun k => .bool (!k)
def ifV (t : Nv → Option Bool) (fa fb : Nv → Option D) : Nv → Option D := fun ρ => (t ρ).bind fun k => if k = true then fa ρ else fb ρ
def andT (ga gb : Nv → Option Bool) : Nv → Option Bool := fun ρ => (ga ρ).bind fun k => if k = true then gb ρ else some false
def orT (ga gb : Nv → Option Bool) : Nv → Option Bool := fun ρ => (ga ρ).bind fun k => if k = true then some true else gb ρ
def notT (ga : Nv → Option Bool) : Nv → Option Bool := fun ρ => (ga ρ).map (!·)
theorem e_one {op : BoolOp} (h : EP' cs X a fa) : EP' cs X (.BoolOp op [a] pos) fa := ⟨pe_one h.h⟩
theorem e_and {rest : List Expr} (ha : EP' cs X a fa) (hb : EP' cs X (.BoolOp .And (b :: rest) pos) fb) : EP' cs X (.BoolOp .And (a :: b :: rest) pos) (andV fa fb) := ⟨pe_imp (pe_and ha.h hb.h) fun σ H Q ⟨Z, F, ρ, d, R, ef, q⟩ => by
  unfold andV at ef
  obtain ⟨x, ea, ef⟩ := Option.bind_eq_some_iff.mp ef
  obtain ⟨k, ek, ef⟩ := Option.bind_eq_some_iff.mp ef
  have hk0 := asB_some ek
  refine ⟨Z, F, ρ, _, R, ea, fun v F1 H1 e1 R1 r1 => ⟨k, (hk0 ▸ r1).isbl, ?_⟩⟩
  by_cases hk : k = true
  · rw [if_pos hk] at ef ⊢
    exact ⟨Z, F1, ρ, d, R1, ef, fun v F2 H2 e2 R2 r2 => q v F2 H2 (e1.trans e2) R2 r2⟩
  · rw [if_neg hk] at ef ⊢
    cases ef
    exact q _ F1 H1 e1 R1 (.bl false)⟩
theorem e_or {rest : List Expr} (ha : EP' cs X a fa) (hb : EP' cs X (.BoolOp .Or (b :: rest) pos) fb) : EP' cs X (.BoolOp .Or (a :: b :: rest) pos) (orV fa fb) := ⟨pe_imp (pe_or ha.h hb.h) fun σ H Q ⟨Z, F, ρ, d, R, ef, q⟩ => by
  unfold orV at ef
  obtain ⟨x, ea, ef⟩ := Option.bind_eq_some_iff.mp ef
  obtain ⟨k, ek, ef⟩ := Option.bind_eq_some_iff.mp ef
  have hk0 := asB_some ek
  refine ⟨Z, F, ρ, _, R, ea, fun v F1 H1 e1 R1 r1 => ⟨k, (hk0 ▸ r1).isbl, ?_⟩⟩
  by_cases hk : k = true
  · rw [if_pos hk] at ef ⊢
    cases ef
    exact q _ F1 H1 e1 R1 (.bl true)
  · rw [if_neg hk] at ef ⊢
    exact ⟨Z, F1, ρ, d, R1, ef, fun v F2 H2 e2 R2 r2 => q v F2 H2 (e1.trans e2) R2 r2⟩⟩
theorem e_not (ha : EP' cs X a fa) : EP' cs X (.UnaryOp .Not a pos) (notV fa) := ⟨pe_imp (pe_not ha.h) fun σ H Q ⟨Z, F, ρ, d, R, ef, q⟩ => by
  unfold notV at ef
  obtain ⟨x, ea, ef⟩ := Option.bind_eq_some_iff.mp ef
  obtain ⟨k, ek, ef⟩ := Option.map_eq_some_iff.mp ef
  have hk0 := asB_some ek
  subst ef
  exact ⟨Z, F, ρ, _, R, ea, fun v F1 H1 e1 R1 r1 => ⟨k, (hk0 ▸ r1).isbl, q _ F1 H1 e1 R1 (.bl _)⟩⟩⟩
theorem e_if (ht : ET cs X c ga) (ha : EP' cs X a fa) (hb : EP' cs X b fb) : EP' cs X (.IfExp c a b pos) (ifV ga fa fb) := ⟨pe_imp (pe_ifExp ht.h ha.h hb.h) fun σ H Q ⟨Z, F, ρ, d, R, ef, q⟩ => by
  unfold ifV at ef
  obtain ⟨k, ek, ef⟩ := Option.bind_eq_some_iff.mp ef
  refine ⟨Z, F, ρ, k, R, ek, fun F1 H1 e1 R1 => ?_⟩
  by_cases hk : k = true
  · rw [if_pos hk] at ef ⊢
    exact ⟨Z, F1, ρ, d, R1, ef, fun v F2 H2 e2 R2 r2 => q v F2 H2 (e1.trans e2) R2 r2⟩
  · rw [if_neg hk] at ef ⊢
    exact ⟨Z, F1, ρ, d, R1, ef, fun v F2 H2 e2 R2 r2 => q v F2 H2 (e1.trans e2) R2 r2⟩⟩
structure EPW (cs : List Addr) (X : Cx) (e : Expr) (f : Nv → Option Bool) : Prop where
  h : PW X e (tPT X.K cs f)
theorem et_pw (h : EPW cs X a ga) : ET cs X a ga := ⟨h.h.pt⟩
theorem ew_and1 (h : ET cs X a ga) : EPW cs X (.BoolOp .And [a] pos) ga := ⟨pw_and1 h.h⟩
theorem ew_or1 (h : ET cs X a ga) : EPW cs X (.BoolOp .Or [a] pos) ga := ⟨pw_or1 h.h⟩
theorem ew_and {rest : List Expr} (ha : ET cs X a ga) (hb : EPW cs X (.BoolOp .And (b :: rest) pos) gb) : EPW cs X (.BoolOp .And (a :: b :: rest) pos) (andT ga gb) := ⟨pw_imp (pw_and ha.h hb.h) fun σ H Q ⟨Z, F, ρ, d, R, ef, q⟩ => by
  unfold andT at ef
  obtain ⟨k, ek, ef⟩ := Option.bind_eq_some_iff.mp ef
  refine ⟨Z, F, ρ, k, R, ek, fun F1 H1 e1 R1 => ?_⟩
  by_cases hk : k = true
  · rw [if_pos hk] at ef ⊢
    exact ⟨Z, F1, ρ, d, R1, ef, fun F2 H2 e2 R2 => q F2 H2 (e1.trans e2) R2⟩
  · rw [if_neg hk] at ef ⊢
    cases ef
    exact q F1 H1 e1 R1⟩
theorem ew_or {rest : List Expr} (ha : ET cs X a ga) (hb : EPW cs X (.BoolOp .Or (b :: rest) pos) gb) : EPW cs X (.BoolOp .Or (a :: b :: rest) pos) (orT ga gb) := ⟨pw_imp (pw_or ha.h hb.h) fun σ H Q ⟨Z, F, ρ, d, R, ef, q⟩ => by
  unfold orT at ef
  obtain ⟨k, ek, ef⟩ := Option.bind_eq_some_iff.mp ef
  refine ⟨Z, F, ρ, k, R, ek, fun F1 H1 e1 R1 => ?_⟩
  by_cases hk : k = true
  · rw [if_pos hk] at ef ⊢
    cases ef
    exact q F1 H1 e1 R1
  · rw [if_neg hk] at ef ⊢
    exact ⟨Z, F1, ρ, d, R1, ef, fun F2 H2 e2 R2 => q F2 H2 (e1.trans e2) R2⟩⟩
theorem et_not (ha : ET cs X a ga) : ET cs X (.UnaryOp .Not a pos) (notT ga) := ⟨pt_imp (pt_not ha.h) fun σ H Q ⟨Z, F, ρ, d, R, ef, q⟩ => by
  unfold notT at ef
  obtain ⟨k, ek, rfl⟩ := Option.map_eq_some_iff.mp ef
  exact ⟨Z, F, ρ, k, R, ek, fun F1 H1 e1 R1 => q F1 H1 e1 R1⟩⟩
/-- truth -/
def truD : D → Option Bool
  | .none => some false
  | .bool b => some b
  | .int i => some (i != 0)
  | .str x => if x.length ≤ 100000 then some ((x.length : Int) != 0) else none
  | .list xs => some (!xs.isEmpty)
  | .tuple xs => some (!xs.isEmpty)
  | _ => none
theorem Rps.isEmpty {K : PySem.W.Frag} {F : Hp} {vs : List V} {ds : List D} (h : Rps K F vs ds) : vs.isEmpty = ds.isEmpty := by
  cases h <;> rfl
theorem tru_of {K : PySem.W.Frag} {Z F H : Hp} {σ : L2.St} {ρ : Nv} {v : V} {d : D} {k : Bool} (R : Rep K cs Z F H σ ρ) (w : Vw K F σ ρ v d) (h : truD d = some k) : TruV K v H k := by
  have r := R.all w
  cases r with
  | non => cases h; rfl
  | bl b => cases h; rfl
  | int i => cases h; rfl
  | str x =>
    have h : (if x.length ≤ 100000 then some ((x.length : Int) != 0) else none) = some k := h
    split at h
    · rename_i hl
      cases h
      exact ⟨Nat.le_trans hl (by decide), rfl⟩
    · cases h
  | lst s r => cases h; exact .inl ⟨_, s, by rw [r.isEmpty]⟩
  | tup s r => cases h; exact .inr (.inl ⟨_, s, by rw [r.isEmpty]⟩)
  | dK _ _ => cases h
  | dT _ _ _ => cases h
theorem et_val (h : EW cs X e fa) (he : ∀ whole, isTrue e X.env whole = (do let v ← whole; standAt e.pos; holding [v] (truthy v)) := by intro _; rfl) : ET cs X e (fun ρ => (fa ρ).bind truD) := ⟨pt_imp (pt_truth h.h he) fun σ H Q ⟨Z, F, ρ, k, R, ef, q⟩ => by
  obtain ⟨d, e1, e2⟩ := Option.bind_eq_some_iff.mp ef
  exact ⟨Z, F, ρ, d, R, e1, fun v F' H' e' R' w => ⟨k, tru_of R' w e2, q F' H' e' R'⟩⟩⟩

/-! ### argument lists, displays -/
def cons2 (fa : Nv → Option D) (fr : Nv → Option (List D)) : Nv → Option (List D) := fun ρ => (fa ρ).bind fun x => (fr ρ).map (x :: ·)
theorem ep_nil : EPs cs X [] (fun _ => some []) := ⟨pa_imp pa_nil fun σ H Q ⟨Z, F, ρ, d, R, ef, q⟩ => by
  cases ef
  exact q [] F H (Ext.refl F) R .nil⟩
theorem ep_cons {fr : Nv → Option (List D)} (ha : EP' cs X e fa) (hr : EPs cs X es fr) (hs : starEach (e :: es) X.env = (false, eval e X.env) :: starEach es X.env := by rfl) : EPs cs X (e :: es) (cons2 fa fr) := ⟨pa_imp (pa_cons ha.h hr.h hs) fun σ H Q ⟨Z, F, ρ, d, R, ef, q⟩ => by
  unfold cons2 at ef
  obtain ⟨x, ea, ef⟩ := Option.bind_eq_some_iff.mp ef
  obtain ⟨xs, er, rfl⟩ := Option.map_eq_some_iff.mp ef
  exact ⟨Z, F, ρ, x, R, ea, fun v F1 H1 e1 R1 r1 => ⟨Z, F1, ρ, xs, R1, er, fun vs F2 H2 e2 R2 r2 => q _ F2 H2 (e1.trans e2) R2 (.cons (r1.ext e2) r2)⟩⟩⟩
theorem ewa_nil : EWs cs X [] (fun _ => some []) := ⟨pa_imp pa_nil fun σ H Q ⟨Z, F, ρ, d, R, ef, q⟩ => by
  cases ef
  exact q [] F H (Ext.refl F) R .nil⟩
theorem ewa_cons {fr : Nv → Option (List D)} (ha : EW cs X e fa) (hr : EWs cs X es fr) (hs : starEach (e :: es) X.env = (false, eval e X.env) :: starEach es X.env := by rfl) : EWs cs X (e :: es) (cons2 fa fr) := ⟨pa_imp (pa_cons ha.h hr.h hs) fun σ H Q ⟨Z, F, ρ, d, R, ef, q⟩ => by
  unfold cons2 at ef
  obtain ⟨x, ea, ef⟩ := Option.bind_eq_some_iff.mp ef
  obtain ⟨xs, er, rfl⟩ := Option.map_eq_some_iff.mp ef
  exact ⟨Z, F, ρ, x, R, ea, fun v F1 H1 e1 R1 r1 => ⟨Z, F1, ρ, xs, R1, er, fun vs F2 H2 e2 R2 r2 => q _ F2 H2 (e1.trans e2) R2 (.cons (r1.ext e2) r2)⟩⟩⟩
def mkT (fr : Nv → Option (List D)) : Nv → Option D := fun ρ => (fr ρ).bind fun xs => if xs.length ≤ 100000 then some (.tuple xs) else none
def mkL (fr : Nv → Option (List D)) : Nv → Option D := fun ρ => (fr ρ).bind fun xs => if xs.length ≤ 100000 then some (.list xs) else none
theorem e_tup {k : Nat} {fr : Nv → Option (List D)} (h : EPs cs X es fr) : EP' cs X (.Tuple es k pos) (mkT fr) := ⟨pe_imp (pe_tup h.h) fun σ H Q ⟨Z, F, ρ, d, R, ef, q⟩ => by
  obtain ⟨xs, er, ef⟩ := Option.bind_eq_some_iff.mp ef
  split at ef
  · rename_i hl
    cases ef
    refine ⟨Z, F, ρ, xs, R, er, fun vs F1 H1 e1 R1 r1 => ⟨?_, fun p hp => ?_⟩⟩
    · rw [r1.len]
      exact Nat.le_trans hl (by decide)
    · obtain ⟨R2, e2, _⟩ := R1.new (o := .tup vs) hp
      exact q _ _ _ (e1.trans e2) R2 (.tup (.inl (.inl upd_same)) (r1.ext e2))
  · cases ef⟩
theorem e_lst {fr : Nv → Option (List D)} (h : EPs cs X es fr) : EN cs X (.List es pos) (mkL fr) := ⟨pe_imp (pe_lst h.h) fun σ H Q ⟨Z, F, ρ, d, R, ef, q⟩ => by
  obtain ⟨xs, er, ef⟩ := Option.bind_eq_some_iff.mp ef
  split at ef
  · rename_i hl
    cases ef
    refine ⟨Z, F, ρ, xs, R, er, fun vs F1 H1 e1 R1 r1 => ⟨?_, fun p hp => ?_⟩⟩
    · rw [r1.len]
      exact Nat.le_trans hl (by decide)
    · obtain ⟨R2, fp, zp, mp⟩ := R1.made (o := .lst vs) hp
      exact q _ _ _ e1 R2 fp zp mp ⟨vs, upd_same, r1⟩
  · cases ef⟩

/-! ### items, slices -/
def ixD : D → D → Option D
  | .list xs, .int i => atI xs i
  | .tuple xs, .int i => atI xs i
  | .str z, .int i => if z.length ≤ 100000 then (atI z.cps.toList i).map fun c => .str ⟨#[c]⟩ else none
  | _, _ => none
theorem atI_rp {K : PySem.W.Frag} {F : Hp} {vs : List V} {ds : List D} {i : Int} {d : D} (h : Rps K F vs ds) (e : atI ds i = some d) : ∃ v, atI vs i = some v ∧ Rp K F v d := by
  unfold atI at e ⊢
  rw [h.len]
  obtain ⟨j, e1, e2⟩ := Option.bind_eq_some_iff.mp e
  obtain ⟨v, e3, r⟩ := h.get e2
  exact ⟨v, by rw [e1]; exact e3, r⟩
theorem ox_ix : IxR X (rD X.K cs ixD) := by
  rintro value slice pins s σ H v u a b Q I rx ry ⟨Z, F, σ', ρ, x, y, d, R, w1, w2, e, q⟩ hs
  unfold ixD at e
  split at e
  · cases R.vint w2
    obtain ⟨a1, vs, rfl, s1, r1⟩ := R.lst w1
    obtain ⟨w, e2, r2⟩ := atI_rp r1 e
    exact ix_list value slice pins s σ H _ _ a b Q I rx ry ⟨a1, vs, _, w, rfl, rfl, s1, e2, q w F H (Ext.refl F) R r2⟩ hs
  · cases R.vint w2
    obtain ⟨a1, vs, rfl, _, s1, r1⟩ := R.tup w1
    obtain ⟨w, e2, r2⟩ := atI_rp r1 e
    exact ix_tup value slice pins s σ H _ _ a b Q I rx ry ⟨a1, vs, _, w, rfl, rfl, s1, e2, q w F H (Ext.refl F) R r2⟩ hs
  · cases R.vint w2
    cases R.vstr w1
    split at e
    · rename_i hl
      obtain ⟨c, e2, rfl⟩ := Option.map_eq_some_iff.mp e
      exact ix_str value slice pins s σ H _ _ a b Q I rx ry ⟨_, _, c, rfl, rfl, Nat.le_trans hl (by decide), e2, q _ F H (Ext.refl F) R (.str _)⟩ hs
    · cases e
  · cases e
theorem e_ix (ha : EW cs X a fa) (hb : EW cs X b fb) (hs : PlainIx b) : EP' cs X (.Subscript a b pos) (op2 ixD fa fb) := ⟨pe_imp (pe_ix ox_ix ha.h hb.h hs) t_opD⟩
/-- a bound of a slice -/
structure EO (cs : List Addr) (X : Cx) (e : Option Expr) (f : Nv → Option (Option Int)) : Prop where
  h : PO X e (fun σ H Q => ∃ Z F ρ o, Rep X.K cs Z F H σ ρ ∧ f ρ = some o ∧ ∀ F' H', Ext F F' → Rep X.K cs Z F' H' σ ρ → Q o H')
def asI : D → Option Int
  | .int i => some i
  | _ => none
theorem po_imp {o : Option Expr} {t t' : TO} (h : PO X o t) (i : ∀ σ H Q, t' σ H Q → t σ H Q) : PO X o t' := ⟨fun pins s σ H Q I q => h.run pins s σ H Q I (i σ H Q q)⟩
theorem eo_none : EO cs X none (fun _ => some none) := ⟨po_imp po_none fun σ H Q ⟨Z, F, ρ, o, R, ef, q⟩ => by
  cases ef
  exact q F H (Ext.refl F) R⟩
theorem eo_some (h : EP' cs X a fa) : EO cs X (some a) (fun ρ => (fa ρ).bind fun x => (asI x).map some) := ⟨po_imp (po_some h.h) fun σ H Q ⟨Z, F, ρ, o, R, ef, q⟩ => by
  obtain ⟨x, ea, ef⟩ := Option.bind_eq_some_iff.mp ef
  obtain ⟨i, ei, rfl⟩ := Option.map_eq_some_iff.mp ef
  have hx : x = .int i := by
    cases x <;> simp [asI] at ei
    rw [ei]
  subst hx
  refine ⟨Z, F, ρ, _, R, ea, fun v F1 H1 e1 R1 r1 => ?_⟩
  cases r1
  exact ⟨i, rfl, q F1 H1 e1 R1⟩⟩
def cutD (xs : List D) (lo hi : Option Int) : List D := (xs.drop (HT.sIx xs.length 0 lo)).take (HT.sIx xs.length xs.length hi - HT.sIx xs.length 0 lo)
theorem cut_rp {K : PySem.W.Frag} {F : Hp} {vs : List V} {ds : List D} (h : Rps K F vs ds) (lo hi : Option Int) : Rps K F (cutV vs lo hi) (cutD ds lo hi) := by
  unfold cutV cutD
  rw [h.len]
  exact (h.drop _).take _
/-- a slice of a list: a new one -/
def slL (fa : Nv → Option D) (fl fh : Nv → Option (Option Int)) : Nv → Option D := fun ρ => (fa ρ).bind fun x => (fl ρ).bind fun lo => (fh ρ).bind fun hi => match x with
  | .list xs => some (.list (cutD xs lo hi))
  | _ => none
theorem e_slL {lo hi : Option Expr} {p2 : Pos} {fl fh : Nv → Option (Option Int)} (ha : EW cs X a fa) (hl : EO cs X lo fl) (hh : EO cs X hi fh) : EN cs X (.Subscript a (.Slice lo hi none p2) pos) (slL fa fl fh) := ⟨pe_imp (pe_slice sl_list ha.h hl.h hh.h) fun σ H Q ⟨Z, F, ρ, d, R, ef, q⟩ => by
  unfold slL at ef
  obtain ⟨x, ea, ef⟩ := Option.bind_eq_some_iff.mp ef
  obtain ⟨l, el, ef⟩ := Option.bind_eq_some_iff.mp ef
  obtain ⟨h, eh, ef⟩ := Option.bind_eq_some_iff.mp ef
  split at ef
  · cases ef
    refine ⟨Z, F, ρ, _, R, ea, fun v F1 H1 e1 R1 w1 => ⟨Z, F1, ρ, l, R1, el, fun F2 H2 e2 R2 => ⟨Z, F2, ρ, h, R2, eh, fun F3 H3 e3 R3 => ?_⟩⟩⟩
    obtain ⟨a1, vs, rfl, s1, r1⟩ := R3.lst ((w1.ext e2).ext e3)
    refine ⟨a1, vs, rfl, s1, fun p hp => ?_⟩
    obtain ⟨R4, fp, zp, mp⟩ := R3.made (o := .lst (cutV vs l h)) hp
    exact q _ _ _ ((e1.trans e2).trans e3) R4 fp zp mp ⟨_, upd_same, cut_rp r1 l h⟩
  · cases ef⟩
/-- a slice of a text, of a tuple -/
def rSD (K : PySem.W.Frag) : V → Option Int → Option Int → Hp → VK → Prop := fun x lo hi H Q => rSlS x lo hi H Q ∨ rSlA K x lo hi H Q
def slS (fa : Nv → Option D) (fl fh : Nv → Option (Option Int)) : Nv → Option D := fun ρ => (fa ρ).bind fun x => (fl ρ).bind fun lo => (fh ρ).bind fun hi => match x with
  | .str z => if z.length ≤ 100000 then some (.str (cutS z lo hi)) else none
  | .tuple xs => some (.tuple (cutD xs lo hi))
  | _ => none
theorem cut_whole {xs : List V} {lo hi : Option Int} (h : HT.sIx xs.length 0 lo = 0 ∧ HT.sIx xs.length xs.length hi = xs.length) : cutV xs lo hi = xs := by
  unfold cutV
  rw [h.1, h.2, List.drop_zero, Nat.sub_zero, List.take_length]
theorem e_slS {lo hi : Option Expr} {p2 : Pos} {fl fh : Nv → Option (Option Int)} (ha : EW cs X a fa) (hl : EO cs X lo fl) (hh : EO cs X hi fh) : EP' cs X (.Subscript a (.Slice lo hi none p2) pos) (slS fa fl fh) := ⟨pe_imp (pe_slice (SlR.or sl_str sl_tupA) ha.h hl.h hh.h) fun σ H Q ⟨Z, F, ρ, d, R, ef, q⟩ => by
  unfold slS at ef
  obtain ⟨x, ea, ef⟩ := Option.bind_eq_some_iff.mp ef
  obtain ⟨l, el, ef⟩ := Option.bind_eq_some_iff.mp ef
  obtain ⟨h, eh, ef⟩ := Option.bind_eq_some_iff.mp ef
  refine ⟨Z, F, ρ, x, R, ea, fun v F1 H1 e1 R1 w1 => ⟨Z, F1, ρ, l, R1, el, fun F2 H2 e2 R2 => ⟨Z, F2, ρ, h, R2, eh, fun F3 H3 e3 R3 => ?_⟩⟩⟩
  have e13 := (e1.trans e2).trans e3
  have w3 := (w1.ext e2).ext e3
  split at ef
  · split at ef
    · rename_i hl
      cases ef
      cases R3.vstr w3
      exact .inl ⟨_, rfl, Nat.le_trans hl (by decide), q _ F3 H3 e13 R3 (.str _)⟩
    · cases ef
  · cases ef
    obtain ⟨a1, vs, rfl, s0, s1, r1⟩ := R3.tup w3
    refine .inr ⟨a1, vs, rfl, s1, fun hw => ?_, fun hw p hp => ?_⟩
    · have ec := cut_rp r1 l h
      rw [cut_whole hw] at ec
      exact q _ F3 H3 e13 R3 (.tup s0 ec)
    · obtain ⟨R4, e4, _⟩ := R3.new (o := .tup (cutV vs l h)) hp
      exact q _ _ _ (e13.trans e4) R4 (.tup (.inl (.inl upd_same)) ((cut_rp r1 l h).ext e4))
  · cases ef⟩
end
end DS

namespace DS
open PySem L2

/-! ## calls of what is built in -/
def rDs (K : PySem.W.Frag) (cs : List Addr) (g : List D → Option D) : List V → Hp → VK → Prop := fun vs H Q => ∃ Z F σ ρ ds d, Rep K cs Z F H σ ρ ∧ Vws K F σ ρ vs ds ∧ g ds = some d ∧ ∀ w F' H', Ext F F' → Rep K cs Z F' H' σ ρ → Rp K F' w d → Q w H'
def rNs (K : PySem.W.Frag) (cs : List Addr) (g : List D → Option D) : List V → Hp → VK → Prop := fun vs H Q => ∃ Z F σ ρ ds d, Rep K cs Z F H σ ρ ∧ Vws K F σ ρ vs ds ∧ g ds = some d ∧
  ∀ p F' H', Ext F F' → Rep K cs Z F' H' σ ρ → F' p = none → Z p = none → ¬ Mine σ ρ p → Own K F' H' p d → Q (.ref p) H'
def callD (g : List D → Option D) (fr : Nv → Option (List D)) : Nv → Option D := fun ρ => (fr ρ).bind g
section
variable {cs : List Addr} {X : Cx} {a b c e o : Expr} {es : List Expr} {pos p apos : Pos} {fa fb : Nv → Option D} {fr : Nv → Option (List D)} {g : List D → Option D} {x : Str} {id T : String}
theorem t_callD {K : PySem.W.Frag} : ∀ σ H Q, tP K cs (callD g fr) σ H Q → tCB (rDs K cs g) (tWA K cs fr) σ H Q := fun σ H Q ⟨Z, F, ρ, d, R, ef, q⟩ => by
  obtain ⟨ds, e1, e2⟩ := Option.bind_eq_some_iff.mp ef
  exact ⟨Z, F, ρ, ds, R, e1, fun vs F1 H1 x1 R1 w1 => ⟨Z, F1, σ, ρ, ds, d, R1, w1, e2, fun w F2 H2 x2 R2 r2 => q w F2 H2 (x1.trans x2) R2 r2⟩⟩
theorem t_callN {K : PySem.W.Frag} : ∀ σ H Q, tN K cs (callD g fr) σ H Q → tCB (rNs K cs g) (tWA K cs fr) σ H Q := fun σ H Q ⟨Z, F, ρ, d, R, ef, q⟩ => by
  obtain ⟨ds, e1, e2⟩ := Option.bind_eq_some_iff.mp ef
  exact ⟨Z, F, ρ, ds, R, e1, fun vs F1 H1 x1 R1 w1 => ⟨Z, F1, σ, ρ, ds, d, R1, w1, e2, fun w F2 H2 x2 R2 => q w F2 H2 (x1.trans x2) R2⟩⟩
theorem e_callB (hc : CallR X (.builtin id) (rDs X.K cs g)) (hg : Gl X x) (hm : X.mg x = none) (hv : bootBuiltins x = some (.builtin id)) (ha : EWs cs X (e :: es) fr) (hn : x ≠ "__name__" := by decide) (hdb : (x == ("__debug__" : Str)) = false := by decide)
    (he : starEach (e :: es) X.env = (false, eval e X.env) :: starEach es X.env := by rfl) (hpl : (backTo pos (starEach es X.env)).any (·.1) = false := by rfl) : EP' cs X (.Call (.Name x p) (e :: es) [] pos) (callD g fr) :=
  ⟨pe_imp (pe_callB hc hg hm hv ha.h hn hdb he hpl) t_callD⟩
theorem e_callT (hc : CallR X (.type T) (rDs X.K cs g)) (hg : Gl X x) (hm : X.mg x = none) (hv : bootBuiltins x = some (.type T)) (ha : EWs cs X (e :: es) fr) (hn : x ≠ "__name__" := by decide) (hdb : (x == ("__debug__" : Str)) = false := by decide)
    (he : starEach (e :: es) X.env = (false, eval e X.env) :: starEach es X.env := by rfl) (hpl : (backTo pos (starEach es X.env)).any (·.1) = false := by rfl) : EP' cs X (.Call (.Name x p) (e :: es) [] pos) (callD g fr) :=
  ⟨pe_imp (pe_callTy hc hg hm hv ha.h hn hdb he hpl) t_callD⟩
theorem e_callTN (hc : CallR X (.type T) (rNs X.K cs g)) (hg : Gl X x) (hm : X.mg x = none) (hv : bootBuiltins x = some (.type T)) (ha : EWs cs X (e :: es) fr) (hn : x ≠ "__name__" := by decide) (hdb : (x == ("__debug__" : Str)) = false := by decide)
    (he : starEach (e :: es) X.env = (false, eval e X.env) :: starEach es X.env := by rfl) (hpl : (backTo pos (starEach es X.env)).any (·.1) = false := by rfl) : EN cs X (.Call (.Name x p) (e :: es) [] pos) (callD g fr) :=
  ⟨pe_imp (pe_callTy hc hg hm hv ha.h hn hdb he hpl) t_callN⟩
def lenD : List D → Option D
  | [.str x] => if x.length ≤ 100000 then some (.int x.length) else none
  | [.list xs] => some (.int xs.length)
  | [.tuple xs] => some (.int xs.length)
  | _ => none
theorem vws1 {K : PySem.W.Frag} {F : Hp} {σ : L2.St} {ρ : Nv} {vs : List V} {d : D} (h : Vws K F σ ρ vs [d]) : ∃ v, vs = [v] ∧ Vw K F σ ρ v d := by
  cases h with
  | cons a b =>
    cases b
    exact ⟨_, rfl, a⟩
theorem vws2 {K : PySem.W.Frag} {F : Hp} {σ : L2.St} {ρ : Nv} {vs : List V} {d e : D} (h : Vws K F σ ρ vs [d, e]) : ∃ v u, vs = [v, u] ∧ Vw K F σ ρ v d ∧ Vw K F σ ρ u e := by
  cases h with
  | cons a b =>
    obtain ⟨u, rfl, w⟩ := vws1 b
    exact ⟨_, u, rfl, a, w⟩
theorem cd_len : CallR X (.builtin "len") (rDs X.K cs lenD) := by
  rintro pins s σ H xs us Q I r ⟨Z, F, σ', ρ, ds, d, R, w, e, q⟩
  unfold lenD at e
  split at e
  · split at e
    · rename_i hl
      cases e
      obtain ⟨v, rfl, w1⟩ := vws1 w
      cases R.vstr w1
      exact call_len pins s σ H _ us Q I r ⟨_, _, rfl, ⟨Nat.le_trans hl (by decide), rfl⟩, q _ F H (Ext.refl F) R (.int _)⟩
    · cases e
  · cases e
    obtain ⟨v, rfl, w1⟩ := vws1 w
    obtain ⟨a, vs, rfl, s1, r1⟩ := R.lst w1
    exact call_len pins s σ H _ us Q I r ⟨_, _, rfl, .inl ⟨_, s1, r1.len.symm⟩, q _ F H (Ext.refl F) R (.int _)⟩
  · cases e
    obtain ⟨v, rfl, w1⟩ := vws1 w
    obtain ⟨a, vs, rfl, _, s1, r1⟩ := R.tup w1
    exact call_len pins s σ H _ us Q I r ⟨_, _, rfl, .inr ⟨_, s1, r1.len.symm⟩, q _ F H (Ext.refl F) R (.int _)⟩
  · cases e
def ordD : List D → Option D
  | [.str x] => if x.length = 1 then some (.int (x.cps.getD 0 0 : Nat)) else none
  | _ => none
theorem cd_ord : CallR X (.builtin "ord") (rDs X.K cs ordD) := by
  rintro pins s σ H xs us Q I r ⟨Z, F, σ', ρ, ds, d, R, w, e, q⟩
  unfold ordD at e
  split at e
  · split at e
    · rename_i hl
      cases e
      obtain ⟨v, rfl, w1⟩ := vws1 w
      cases R.vstr w1
      exact call_ord pins s σ H _ us Q I r ⟨_, rfl, hl, q _ F H (Ext.refl F) R (.int _)⟩
    · cases e
  · cases e
def seqD : D → Option (List D)
  | .list xs => some xs
  | .tuple xs => some xs
  | _ => none
def listD : List D → Option D
  | [.list xs] => some (.list xs)
  | [.tuple xs] => some (.list xs)
  | _ => none
theorem cn_list : CallR X (.type "list") (rNs X.K cs listD) := by
  rintro pins s σ H xs us Q I r ⟨Z, F, σ', ρ, ds, d, R, w, e, q⟩
  unfold listD at e
  split at e
  · cases e
    obtain ⟨v, rfl, w1⟩ := vws1 w
    obtain ⟨a, vs, rfl, s1, r1⟩ := R.lst w1
    refine call_list_of pins s σ H _ us Q I r ⟨a, vs, rfl, .inl s1, fun l hl => ?_⟩
    obtain ⟨R4, fp, zp, mp⟩ := R.made (o := .lst vs) hl
    exact q l F _ (Ext.refl F) R4 fp zp mp ⟨vs, upd_same, r1⟩
  · cases e
    obtain ⟨v, rfl, w1⟩ := vws1 w
    obtain ⟨a, vs, rfl, _, s1, r1⟩ := R.tup w1
    refine call_list_of pins s σ H _ us Q I r ⟨a, vs, rfl, .inr s1, fun l hl => ?_⟩
    obtain ⟨R4, fp, zp, mp⟩ := R.made (o := .lst vs) hl
    exact q l F _ (Ext.refl F) R4 fp zp mp ⟨vs, upd_same, r1⟩
  · cases e
def tupD : List D → Option D
  | [.list xs] => some (.tuple xs)
  | [.tuple xs] => some (.tuple xs)
  | _ => none
theorem cd_tuple : CallR X (.type "tuple") (rDs X.K cs tupD) := by
  rintro pins s σ H xs us Q I r ⟨Z, F, σ', ρ, ds, d, R, w, e, q⟩
  unfold tupD at e
  split at e
  · cases e
    obtain ⟨v, rfl, w1⟩ := vws1 w
    obtain ⟨a, vs, rfl, s1, r1⟩ := R.lst w1
    refine call_tuple_of pins s σ H _ us Q I r ⟨a, vs, rfl, .inl ⟨s1, fun l hl => ?_⟩⟩
    obtain ⟨R4, e4, _⟩ := R.new (o := .tup vs) hl
    exact q _ _ _ e4 R4 (.tup (.inl (.inl upd_same)) (r1.ext e4))
  · cases e
    obtain ⟨v, rfl, w1⟩ := vws1 w
    obtain ⟨a, vs, rfl, s0, s1, r1⟩ := R.tup w1
    exact call_tuple_of pins s σ H _ us Q I r ⟨a, vs, rfl, .inr ⟨s1, q _ F H (Ext.refl F) R (.tup s0 r1)⟩⟩
  · cases e

/-! ### isinstance -/
def tyD : D → String
  | .none => "NoneType"
  | .bool _ => "bool"
  | .int _ => "int"
  | .str _ => "str"
  | .list _ => "list"
  | .tuple _ => "tuple"
  | .dict _ => "dict"
theorem tyx_of {K : PySem.W.Frag} {H : Hp} {v : V} {d : D} (h : Rp K H v d) : TyX K H v (.type (tyD d)) := by
  cases h with
  | non => exact .base .non
  | bl b => exact .base (.bl b)
  | int i => exact .base (.int i)
  | str x => exact .base (.str x)
  | lst s r =>
    rcases s with (s | ⟨o, s⟩) | ⟨o, its, n, h1, h2, _⟩
    · exact .base (.lst s)
    · exact .base (.frz s)
    · exact .kList h1 h2
  | tup s r =>
    rcases s with (s | ⟨o, s⟩) | ⟨o, its, n, h1, h2, _⟩
    · exact .base (.tup s)
    · exact .fTuple s
    · exact .kTuple h1 h2
  | dK s _ => exact .base (.dK s)
  | dT s _ _ => exact .base (.dT s)
/-- isinstance(x, T): by x's kind -/
def isiB (T : String) (d : D) : Bool := match d with
  | .none => T == "NoneType"
  | .bool _ => T == "bool" || T == "int"
  | .int _ => T == "int"
  | .str _ => T == "str"
  | .list _ => T == "list"
  | .tuple _ => T == "tuple"
  | .dict _ => T == "dict"
/-- the kinds that are asked for -/
def IsiT (T : String) : Prop := ∀ d, kitB (tyD d) T = some (isiB T d)
theorem isi_str : IsiT "str" := fun d => by cases d <;> (simp only [tyD, isiB]; decide +kernel)
theorem isi_int : IsiT "int" := fun d => by cases d <;> (simp only [tyD, isiB]; decide +kernel)
theorem isi_bool : IsiT "bool" := fun d => by cases d <;> (simp only [tyD, isiB]; decide +kernel)
theorem isi_list : IsiT "list" := fun d => by cases d <;> (simp only [tyD, isiB]; decide +kernel)
theorem isi_tuple : IsiT "tuple" := fun d => by cases d <;> (simp only [tyD, isiB]; decide +kernel)
theorem isi_dict : IsiT "dict" := fun d => by cases d <;> (simp only [tyD, isiB]; decide +kernel)
theorem e_isi (hT : IsiT T) (hg : Gl X "isinstance") (hm : X.mg "isinstance" = none) (ha : EW cs X e fa) (hgT : Gl X x) (hmT : X.mg x = none) (hvT : bootBuiltins x = some (.type T)) (hn : x ≠ "__name__" := by decide) (hdb : (x == ("__debug__" : Str)) = false := by decide)
    (hs : starEach [e, .Name x p] X.env = (false, eval e X.env) :: starEach [.Name x p] X.env := by rfl) (hs2 : starEach [.Name x p] X.env = (false, eval (.Name x p) X.env) :: starEach [] X.env := by rfl)
    (hpl : (backTo pos (starEach [.Name x p] X.env)).any (·.1) = false := by rfl) :
    EP' cs X (.Call (.Name "isinstance" apos) [e, .Name x p] [] pos) (fun ρ => (fa ρ).map fun d => .bool (isiB T d)) :=
  ⟨pe_imp (pe_callB call_isi hg hm PyProof.Rows.boot_isinstance (pa_cons ha.h (pa_cons (pe_bltn (v := .ty T) hgT hmT hvT rfl hn hdb) pa_nil hs2) hs) (by decide) (by decide) hs hpl) fun σ H Q ⟨Z, F, ρ, d, R, ef, q⟩ => by
    obtain ⟨x', ea, rfl⟩ := Option.map_eq_some_iff.mp ef
    exact ⟨Z, F, ρ, x', R, ea, fun v F1 H1 e1 R1 w1 => ⟨v, .ty T, _, _, _, rfl, .ty T, tyx_of (R1.all w1), kit_ty (hT x'), q _ F1 H1 e1 R1 (.bl _)⟩⟩⟩

/-! ### methods of texts -/
def lowerD : D → Option D
  | .str a => if a.length ≤ 100000 then some (.str (Txt.lower a)) else none
  | _ => none
theorem e_lower (ho : EW cs X o fa) (hbase : attributeBase o "lower" X.env (eval o X.env) = eval o X.env := by rfl) (hline : (apos.endLine == pos.line) = true := by rfl) : EP' cs X (.Call (.Attribute o "lower" apos) [] [] pos) (fun ρ => (fa ρ).bind lowerD) :=
  ⟨pe_imp (pe_lower ho.h hbase hline) fun σ H Q ⟨Z, F, ρ, d, R, ef, q⟩ => by
    obtain ⟨x, ea, e2⟩ := Option.bind_eq_some_iff.mp ef
    refine ⟨Z, F, ρ, x, R, ea, fun v F1 H1 e1 R1 w1 => ?_⟩
    unfold lowerD at e2
    split at e2
    · split at e2
      · rename_i hl
        cases e2
        cases R1.vstr w1
        exact ⟨⟨_, rfl⟩, _, rfl, rfl, Nat.le_trans hl (by decide), q _ F1 H1 e1 R1 (.str _)⟩
      · cases e2
    · cases e2⟩
def strsD : List D → Option (List Str)
  | [] => some []
  | .str x :: r => (strsD r).map (x :: ·)
  | _ => none
theorem strs_rp {K : PySem.W.Frag} {F : Hp} : ∀ {ds : List D} {ys : List Str} {vs : List V}, strsD ds = some ys → Rps K F vs ds → vs = ys.map V.str
  | [], ys, vs, e, r => by
    cases e
    cases r
    rfl
  | d :: ds, ys, vs, e, r => by
    cases r with
    | cons a b =>
      cases a with
      | str x =>
        obtain ⟨zs, e2, rfl⟩ := Option.map_eq_some_iff.mp e
        rw [strs_rp e2 b]
        rfl
      | _ => cases e
/-- sep.join(xs) -/
def joinD (x y : D) : Option D := match x with
  | .str a => (seqD y).bind fun ds => (strsD ds).bind fun ys => if (ys.map (·.length)).sum + ys.length * a.length ≤ 100000 then some (.str (Txt.join a ys)) else none
  | _ => none
theorem e_join (ho : EW cs X o fa) (he : EW cs X e fb) (hs : starEach [e] X.env = [(false, eval e X.env)] := by rfl) (hbase : attributeBase o "join" X.env (eval o X.env) = eval o X.env := by rfl) (hline : (apos.endLine == pos.line) = true := by rfl) :
    EP' cs X (.Call (.Attribute o "join" apos) [e] [] pos) (op2 joinD fa fb) :=
  ⟨pe_imp (pe_join ho.h he.h hs hbase hline) fun σ H Q ⟨Z, F, ρ, d, R, ef, q⟩ => by
    unfold op2 at ef
    obtain ⟨x, ea, ef⟩ := Option.bind_eq_some_iff.mp ef
    obtain ⟨y, eb, ef⟩ := Option.bind_eq_some_iff.mp ef
    unfold joinD at ef
    split at ef
    · obtain ⟨ds, e2, ef⟩ := Option.bind_eq_some_iff.mp ef
      obtain ⟨ys, e3, ef⟩ := Option.bind_eq_some_iff.mp ef
      split at ef
      · rename_i hl
        cases ef
        refine ⟨Z, F, ρ, _, R, ea, fun v F1 H1 e1 R1 w1 => ?_⟩
        cases R1.vstr w1
        refine ⟨⟨_, rfl⟩, Z, F1, ρ, y, R1, eb, fun u F2 H2 e4 R2 w2 => ?_⟩
        unfold seqD at e2
        split at e2
        · cases e2
          obtain ⟨p, vs, rfl, s1, r1⟩ := R2.lst w2
          rw [strs_rp e3 r1] at s1
          exact ⟨_, p, ys, rfl, rfl, .inl s1, Nat.le_trans hl (by decide), q _ F2 H2 (e1.trans e4) R2 (.str _)⟩
        · cases e2
          obtain ⟨p, vs, rfl, _, s1, r1⟩ := R2.tup w2
          rw [strs_rp e3 r1] at s1
          exact ⟨_, p, ys, rfl, rfl, .inr s1, Nat.le_trans hl (by decide), q _ F2 H2 (e1.trans e4) R2 (.str _)⟩
        · cases e2
      · cases ef
    · cases ef⟩
end

/-! ## defs -/
/-- how an argument is handed on: to be read; to be changed and given back; for good -/
inductive Md where
  | ro
  | io
  | mv
/-- what a def comes to: a value (a new list or dict of nobody's, or shared data) and what is given back; or an exception of the class at c -/
inductive Ou where
  | ret (d : D) (own : Bool) (outs : List D)
  | exc (c : Value)
def argC : Md → V → D → Option Cell
  | .ro, _, d => some (.sh d)
  | .io, .ref a, d => some (.io a d)
  | .io, _, _ => none
  | .mv, _, d => some (.ow d)
def argNv : List Md → List V → List D → Nv
  | m :: ms, v :: vs, d :: ds => argC m v d :: argNv ms vs ds
  | _, _, _ => []
/-- the arguments behind the call: outs in the order of the lent ones -/
def outNv : List Md → List V → List D → Nv
  | .io :: ms, .ref a :: vs, d :: ds => some (.io a d) :: outNv ms vs ds
  | _ :: ms, _ :: vs, ds => none :: outNv ms vs ds
  | _, _, _ => []
def ResV (K : PySem.W.Frag) (Z F H : Hp) (σ : L2.St) (ρ : Nv) (v : V) (d : D) (own : Bool) : Prop :=
  if own = true then ∃ p, v = .ref p ∧ F p = none ∧ Z p = none ∧ ¬ Mine σ ρ p ∧ Own K F H p d else Rp K F v d
def ioOk : List Md → List V → Bool
  | .io :: ms, .ref _ :: vs => ioOk ms vs
  | .io :: _, _ => false
  | _ :: ms, _ :: vs => ioOk ms vs
  | _, _ => true
def spD (K : PySem.W.Frag) (cs : List Addr) (ms : List Md) (sem : List D → Option Ou) : Sp := fun vs H Q E => ∃ Z F ds o, vs.length = ms.length ∧ ds.length = ms.length ∧ ioOk ms vs = true ∧ Rep K cs Z F H (vs.map some) (argNv ms vs ds) ∧ sem ds = some o ∧
  match o with
  | .ret d own outs => ∀ v F' H', Ext F F' → Rep K cs Z F' H' (vs.map some) (outNv ms vs outs) → ResV K Z F' H' (vs.map some) (outNv ms vs outs) v d own → Q v H'
  | .exc c => ∀ F' H', Ext F F' → Rep K cs Z F' H' [] [] → E c none H'
end DS

namespace DS
open PySem L2
/-- what is not read by all is others' -/
noncomputable def oth (F H : Hp) : Hp := fun a => match F a with
  | some _ => none
  | none => H a
theorem oth_of {F H : Hp} {a : Addr} {o : HO} (h : F a = none) (e : H a = some o) : oth F H a = some o := by
  unfold oth
  rw [h]
  exact e
theorem of_oth {F H : Hp} {a : Addr} {o : HO} (h : oth F H a = some o) : H a = some o ∧ F a = none := by
  unfold oth at h
  split at h
  · cases h
  · exact ⟨h, by assumption⟩
open Classical
section
variable {K : PySem.W.Frag} {cs : List Addr} {Z F H F' H' : Hp} {σ σ' : L2.St} {ρ ρ' : Nv} {vs : List V} {ds : List D}
theorem shs_get {ds : List D} {i : Nat} {c : Cell} (h : (ds.map fun d => some (Cell.sh d))[i]? = some (some c)) : ∃ d, ds[i]? = some d ∧ c = .sh d := by
  rw [List.getElem?_map] at h
  obtain ⟨d, h1, h2⟩ := Option.map_eq_some_iff.mp h
  cases h2
  exact ⟨d, h1, rfl⟩
/-- a frame that owns nothing and reads ds -/
theorem rep_sh (hl : vs.length = ds.length) (fh : ∀ a o, F a = some o → H a = some o) (zh : ∀ a o, Z a = some o → H a = some o ∧ F a = none) (r : Rps K F vs ds) (tab : ∀ p ∈ cs, F p = some (.ext (tabP p))) :
    Rep K cs Z F H (vs.map some) (ds.map fun d => some (.sh d)) := by
  refine ⟨by rw [List.length_map, List.length_map]; exact hl, fh, zh, fun i c h1 h2 => ?_, fun i d h1 => ?_, fun i j c e a h1 h2 _ _ _ _ => ?_, fun i a d h1 => ?_, tab⟩
  · obtain ⟨d, _, rfl⟩ := shs_get h1
    cases h2
  · obtain ⟨d', h2, e⟩ := shs_get h1
    cases e
    obtain ⟨v, h3, r3⟩ := r.get h2
    exact ⟨v, by rw [List.getElem?_map, h3]; rfl, r3⟩
  · obtain ⟨d, _, rfl⟩ := shs_get h1
    cases h2
  · obtain ⟨d', _, e⟩ := shs_get h1
    cases e
theorem Rep.lend (R : Rep K cs Z F H σ ρ) (r : Rps K F vs ds) : Rep K cs (oth F H) F H (vs.map some) (ds.map fun d => some (.sh d)) :=
  rep_sh r.len R.fh (fun _ _ h => of_oth h) r R.tab
theorem Rep.back (R : Rep K cs Z F H σ ρ) (e : Ext F F') (R' : Rep K cs (oth F H) F' H' σ' ρ') : Rep K cs Z F' H' σ ρ := by
  refine ⟨R.len, R'.fh, fun a o h => ?_, fun i c h1 h2 => ?_, fun i d h1 => ?_, R.inj, R.io, R'.tab⟩
  · obtain ⟨h1, h2⟩ := R.zh a o h
    exact R'.zh a o (oth_of h2 h1)
  · obtain ⟨a, q1, q2, q3, q4⟩ := R.mine i c h1 h2
    obtain ⟨ob, q5, _⟩ := q4.rp
    obtain ⟨q6, q7⟩ := R'.zh a ob (oth_of q2 q5)
    exact ⟨a, q1, q7, q3, q4.ext e (by rw [q6, q5])⟩
  · obtain ⟨v, q1, q2⟩ := R.sh i d h1
    exact ⟨v, q1, q2.ext e⟩
theorem Rep.backN (R : Rep K cs Z F H σ ρ) {p : Addr} (hz : oth F H p = none) : Z p = none ∧ ¬ Mine σ ρ p := by
  refine ⟨?_, fun ⟨i, c, h1, h2, h3⟩ => ?_⟩
  · cases e : Z p with
    | none => rfl
    | some o =>
      obtain ⟨h1, h2⟩ := R.zh p o e
      rw [oth_of h2 h1] at hz
      cases hz
  · obtain ⟨a, q1, q2, q3, q4⟩ := R.mine i c h1 h2
    rw [h3] at q1
    cases q1
    obtain ⟨ob, q5, _⟩ := q4.rp
    rw [oth_of q2 q5] at hz
    cases hz
/-- what is this frame's own is lent, too -/
noncomputable def plusM (σ : L2.St) (ρ : Nv) (F H : Hp) : Hp := fun a => match F a with
  | some o => some o
  | none => if Mine σ ρ a then H a else none
noncomputable def lessM (σ : L2.St) (ρ : Nv) (F : Hp) : Hp := fun a => if Mine σ ρ a then none else F a
theorem plus_ext : Ext F (plusM σ ρ F H) := fun a o e => by
  unfold plusM
  rw [e]
theorem plus_mine {a : Addr} {o : HO} (hf : F a = none) (hm : Mine σ ρ a) (h : H a = some o) : plusM σ ρ F H a = some o := by
  unfold plusM
  rw [hf]
  show (if _ then _ else _) = _
  rw [if_pos hm]
  exact h
theorem plus_of {a : Addr} {o : HO} (R : Rep K cs Z F H σ ρ) (h : plusM σ ρ F H a = some o) : H a = some o := by
  unfold plusM at h
  split at h
  · rename_i o' e
    cases h
    exact R.fh _ _ e
  · split at h
    · exact h
    · cases h
theorem Rep.mineF (R : Rep K cs Z F H σ ρ) {a : Addr} (hm : Mine σ ρ a) : F a = none ∧ Z a = none ∧ ∃ o, H a = some o := by
  obtain ⟨i, c, h1, h2, h3⟩ := hm
  obtain ⟨b, q1, q2, q3, q4⟩ := R.mine i c h1 h2
  rw [h3] at q1
  cases q1
  obtain ⟨ob, q5, _⟩ := q4.rp
  exact ⟨q2, q3, ob, q5⟩
theorem Rep.vwP (R : Rep K cs Z F H σ ρ) {v : V} {d : D} (h : Vw K F σ ρ v d) : Rp K (plusM σ ρ F H) v d := by
  rcases h with h | ⟨i, c, h1, h2, rfl, h3⟩
  · exact h.ext plus_ext
  · obtain ⟨a, e, f, _, o⟩ := R.mine i c h1 h2
    rw [h3] at e
    cases e
    obtain ⟨ob, q1, q2⟩ := o.rp
    exact q2 _ plus_ext (plus_mine f ⟨i, c, h1, h2, h3⟩ q1)
theorem Rep.vwsP (R : Rep K cs Z F H σ ρ) : ∀ {vs : List V} {ds : List D}, Vws K F σ ρ vs ds → Rps K (plusM σ ρ F H) vs ds
  | _, _, .nil => .nil
  | _, _, .cons a b => .cons (R.vwP a) (R.vwsP b)
theorem Rep.lendW (R : Rep K cs Z F H σ ρ) (r : Vws K F σ ρ vs ds) : Rep K cs (oth (plusM σ ρ F H) H) (plusM σ ρ F H) H (vs.map some) (ds.map fun d => some (.sh d)) :=
  rep_sh (R.vwsP r).len (fun _ _ h => plus_of R h) (fun _ _ h => of_oth h) (R.vwsP r) fun p hp => plus_ext p _ (R.tab p hp)
theorem Rep.backW (R : Rep K cs Z F H σ ρ) (e : Ext (plusM σ ρ F H) F') (R' : Rep K cs (oth (plusM σ ρ F H) H) F' H' σ' ρ') : Rep K cs Z (lessM σ ρ F') H' σ ρ ∧ Ext F (lessM σ ρ F') := by
  have ex : Ext F (lessM σ ρ F') := fun a o h => by
    have hm : ¬ Mine σ ρ a := fun z => by
      rw [(R.mineF z).1] at h
      cases h
    unfold lessM
    rw [if_neg hm]
    exact e a o (plus_ext a o h)
  refine ⟨⟨R.len, fun a o h => ?_, fun a o h => ?_, fun i c h1 h2 => ?_, fun i d h1 => ?_, R.inj, R.io, fun p hp => ex p _ (R.tab p hp)⟩, ex⟩
  · unfold lessM at h
    split at h
    · cases h
    · exact R'.fh a o h
  · obtain ⟨h1, h2⟩ := R.zh a o h
    have hm : ¬ Mine σ ρ a := fun z => by
      rw [(R.mineF z).2.1] at h
      cases h
    have hp : plusM σ ρ F H a = none := by
      unfold plusM
      rw [h2]
      show (if _ then _ else _) = _
      rw [if_neg hm]
    obtain ⟨q1, q2⟩ := R'.zh a o (oth_of hp h1)
    refine ⟨q1, ?_⟩
    unfold lessM
    rw [if_neg hm]
    exact q2
  · obtain ⟨a, q1, q2, q3, q4⟩ := R.mine i c h1 h2
    obtain ⟨ob, q5, _⟩ := q4.rp
    have hm : Mine σ ρ a := ⟨i, c, h1, h2, q1⟩
    have q6 := R'.fh a ob (e a ob (plus_mine q2 hm q5))
    refine ⟨a, q1, ?_, q3, q4.ext ex (by rw [q6, q5])⟩
    unfold lessM
    rw [if_pos hm]
  · obtain ⟨v, q1, q2⟩ := R.sh i d h1
    exact ⟨v, q1, q2.ext ex⟩
def scal : D → Bool
  | .none => true
  | .bool _ => true
  | .int _ => true
  | .str _ => true
  | _ => false
theorem Rp.scal {v : V} {d : D} (h : Rp K F v d) (hs : scal d = true) (G : Hp) : Rp K G v d := by
  cases h with
  | non => exact .non
  | bl b => exact .bl b
  | int i => exact .int i
  | str x => exact .str x
  | _ => cases hs
theorem argNv_ro : ∀ {ms : List Md} {vs : List V} {ds : List D}, (∀ m ∈ ms, m = .ro) → vs.length = ms.length → ds.length = ms.length → argNv ms vs ds = ds.map fun d => some (.sh d)
  | [], vs, ds, _, h1, h2 => by
    cases vs with
    | cons _ _ => cases h1
    | nil =>
      cases ds with
      | cons _ _ => cases h2
      | nil => rfl
  | m :: ms, vs, ds, h, h1, h2 => by
    cases vs with
    | nil => cases h1
    | cons v vs =>
      cases ds with
      | nil => cases h2
      | cons d ds =>
        have e : m = .ro := h m List.mem_cons_self
        subst e
        show some (Cell.sh d) :: argNv ms vs ds = some (Cell.sh d) :: _
        rw [argNv_ro (fun m hm => h m (List.mem_cons_of_mem _ hm)) (by simpa using h1) (by simpa using h2)]
end

/-! ## calls of defs that change nothing -/
theorem ioOk_ro : ∀ {ms : List Md} {vs : List V}, (∀ m ∈ ms, m = .ro) → ioOk ms vs = true
  | [], _, _ => by unfold ioOk; rfl
  | m :: ms, [], h => by
    have e : m = .ro := h m List.mem_cons_self
    subst e
    rfl
  | m :: ms, v :: vs, h => by
    have e : m = .ro := h m List.mem_cons_self
    subst e
    exact ioOk_ro (ms := ms) (vs := vs) fun m hm => h m (List.mem_cons_of_mem _ hm)
def callS (n : Nat) (sem : List D → Option Ou) (fr : Nv → Option (List D)) : Nv → Option D := fun ρ => (fr ρ).bind fun ds => if ds.length = n then match sem ds with
  | some (.ret d _ _) => some d
  | _ => none
  else none
/-- .. where the value is a new list or dict -/
def callO (n : Nat) (sem : List D → Option Ou) (fr : Nv → Option (List D)) : Nv → Option D := fun ρ => (fr ρ).bind fun ds => if ds.length = n then match sem ds with
  | some (.ret d true _) => some d
  | _ => none
  else none
/-- .. where it is flat -/
def callF (n : Nat) (sem : List D → Option Ou) (fr : Nv → Option (List D)) : Nv → Option D := fun ρ => (fr ρ).bind fun ds => if ds.length = n then match sem ds with
  | some (.ret d false _) => if scal d = true then some d else none
  | _ => none
  else none
section
variable {cs : List Addr} {X : Cx} {e : Expr} {es : List Expr} {pos p : Pos} {fr : Nv → Option (List D)} {x : Str} {CX : CXT} {k : Nat} {f : Addr} {fd : FuncData} {ps : List Str} {ms : List Md} {sem : List D → Option Ou}
theorem vws_len {K : PySem.W.Frag} {F : Hp} {σ : L2.St} {ρ : Nv} : ∀ {vs : List V} {ds : List D}, Vws K F σ ρ vs ds → vs.length = ds.length
  | _, _, .nil => rfl
  | _, _, .cons _ b => by rw [List.length_cons, List.length_cons, vws_len b]
theorem e_call (F : FnOk X.prog X.w X.K X.mg X.base CX k f fd ps (spD X.K cs ms sem)) (hro : ∀ m ∈ ms, m = .ro) (hr : Room k X.A) (hg : Gl X x) (hm : X.mg x = some (.ref f)) (hk : PySem.W.keepIn X.K (.ref f) = true) (hb : Binds X.K fd ps []) (hx : Passes CX X E0)
    (ha : EPs cs X (e :: es) fr) (hdb : (x == ("__debug__" : Str)) = false := by decide) (he : starEach (e :: es) X.env = (false, eval e X.env) :: starEach es X.env := by rfl) (hpl : (backTo pos (starEach es X.env)).any (·.1) = false := by rfl) :
    EP' cs X (.Call (.Name x p) (e :: es) [] pos) (callS ms.length sem fr) := ⟨pe_imp (pe_call F hr hg hm hk hb .nil hx ha.h hdb he hpl) fun σ H Q ⟨Z, F0, ρ, d, R, ef, q⟩ => by
  obtain ⟨ds, e1, e2⟩ := Option.bind_eq_some_iff.mp ef
  split at e2
  · rename_i hl
    refine ⟨Z, F0, ρ, ds, R, e1, fun vs F1 H1 x1 R1 r1 => ?_⟩
    split at e2
    · rename_i d' own outs es
      cases e2
      rw [List.append_nil]
      have hv : vs.length = ms.length := by rw [r1.len]; exact hl
      refine ⟨oth F1 H1, F1, ds, _, hv, hl, ioOk_ro hro, ?_, es, fun v F2 H2 x2 R2 res => ?_⟩
      · rw [argNv_ro hro hv hl]
        exact R1.lend r1
      · have RB := R1.back x2 R2
        unfold ResV at res
        split at res
        · obtain ⟨p', rfl, h1, h2, h3, h4⟩ := res
          obtain ⟨z1, z2⟩ := R1.backN h2
          obtain ⟨o, g1, g2⟩ := h4.rp
          exact q _ _ _ ((x1.trans x2).trans (Ext.upd h1)) (RB.give g1 h1 z1 z2) (g2 _ (Ext.upd h1) upd_same)
        · exact q v F2 H2 (x1.trans x2) RB res
    · cases e2
  · cases e2⟩
theorem e_callO (F : FnOk X.prog X.w X.K X.mg X.base CX k f fd ps (spD X.K cs ms sem)) (hro : ∀ m ∈ ms, m = .ro) (hr : Room k X.A) (hg : Gl X x) (hm : X.mg x = some (.ref f)) (hk : PySem.W.keepIn X.K (.ref f) = true) (hb : Binds X.K fd ps []) (hx : Passes CX X E0)
    (ha : EPs cs X (e :: es) fr) (hdb : (x == ("__debug__" : Str)) = false := by decide) (he : starEach (e :: es) X.env = (false, eval e X.env) :: starEach es X.env := by rfl) (hpl : (backTo pos (starEach es X.env)).any (·.1) = false := by rfl) :
    EN cs X (.Call (.Name x p) (e :: es) [] pos) (callO ms.length sem fr) := ⟨pe_imp (pe_call F hr hg hm hk hb .nil hx ha.h hdb he hpl) fun σ H Q ⟨Z, F0, ρ, d, R, ef, q⟩ => by
  obtain ⟨ds, e1, e2⟩ := Option.bind_eq_some_iff.mp ef
  split at e2
  · rename_i hl
    refine ⟨Z, F0, ρ, ds, R, e1, fun vs F1 H1 x1 R1 r1 => ?_⟩
    split at e2
    · rename_i d' outs es
      cases e2
      rw [List.append_nil]
      have hv : vs.length = ms.length := by rw [r1.len]; exact hl
      refine ⟨oth F1 H1, F1, ds, _, hv, hl, ioOk_ro hro, ?_, es, fun v F2 H2 x2 R2 res => ?_⟩
      · rw [argNv_ro hro hv hl]
        exact R1.lend r1
      · have RB := R1.back x2 R2
        unfold ResV at res
        rw [if_pos rfl] at res
        obtain ⟨p', rfl, h1, h2, h3, h4⟩ := res
        obtain ⟨z1, z2⟩ := R1.backN h2
        exact q _ _ _ (x1.trans x2) RB h1 z1 z2 h4
    · cases e2
  · cases e2⟩
theorem e_callF (F : FnOk X.prog X.w X.K X.mg X.base CX k f fd ps (spD X.K cs ms sem)) (hro : ∀ m ∈ ms, m = .ro) (hr : Room k X.A) (hg : Gl X x) (hm : X.mg x = some (.ref f)) (hk : PySem.W.keepIn X.K (.ref f) = true) (hb : Binds X.K fd ps []) (hx : Passes CX X E0)
    (ha : EWs cs X (e :: es) fr) (hdb : (x == ("__debug__" : Str)) = false := by decide) (he : starEach (e :: es) X.env = (false, eval e X.env) :: starEach es X.env := by rfl) (hpl : (backTo pos (starEach es X.env)).any (·.1) = false := by rfl) :
    EP' cs X (.Call (.Name x p) (e :: es) [] pos) (callF ms.length sem fr) := ⟨pe_imp (pe_call F hr hg hm hk hb .nil hx ha.h hdb he hpl) fun σ H Q ⟨Z, F0, ρ, d, R, ef, q⟩ => by
  obtain ⟨ds, e1, e2⟩ := Option.bind_eq_some_iff.mp ef
  split at e2
  · rename_i hl
    refine ⟨Z, F0, ρ, ds, R, e1, fun vs F1 H1 x1 R1 w1 => ?_⟩
    split at e2
    · rename_i d' outs es
      split at e2
      · rename_i hs
        cases e2
        rw [List.append_nil]
        have hv : vs.length = ms.length := by rw [vws_len w1]; exact hl
        refine ⟨oth (plusM σ ρ F1 H1) H1, plusM σ ρ F1 H1, ds, _, hv, hl, ioOk_ro hro, ?_, es, fun v F2 H2 x2 R2 res => ?_⟩
        · rw [argNv_ro hro hv hl]
          exact R1.lendW w1
        · obtain ⟨RB, xb⟩ := R1.backW x2 R2
          unfold ResV at res
          rw [if_neg Bool.false_ne_true] at res
          exact q v _ H2 (x1.trans xb) RB (res.scal hs _)
      · cases e2
    · cases e2
  · cases e2⟩
end
end DS

namespace DS
open PySem L2

/-! ## statements -/
inductive SR where
  | nx (ρ : Nv)
  | bk (ρ : Nv)
  | ct (ρ : Nv)
  | rt (d : D) (own : Bool) (ρ : Nv)
  | exc (c : Value)
/-- what is wanted behind a statement, at the names' end ρ -/
def Wish (K : PySem.W.Frag) (cs : List Addr) (E : XK) (Z F : Hp) (n : Nat) (D : Ends) : SR → Prop
  | .nx ρ => ∀ σ F' H', σ.length = n → Ext F F' → Rep K cs Z F' H' σ ρ → D.nx σ H'
  | .bk ρ => ∀ σ F' H', σ.length = n → Ext F F' → Rep K cs Z F' H' σ ρ → D.bk σ H'
  | .ct ρ => ∀ σ F' H', σ.length = n → Ext F F' → Rep K cs Z F' H' σ ρ → D.ct σ H'
  | .rt d own ρ => ∀ v σ F' H', σ.length = n → Ext F F' → Rep K cs Z F' H' σ ρ → ResV K Z F' H' σ ρ v d own → D.rt v H'
  | .exc c => ∀ F' H', Ext F F' → Rep K cs Z F' H' [] [] → E c none H'
def tS (K : PySem.W.Frag) (cs : List Addr) (E : XK) (g : Nv → Option SR) : TS := fun D σ H => ∃ Z F ρ r, Rep K cs Z F H σ ρ ∧ g ρ = some r ∧ Wish K cs E Z F σ.length D r
structure SD (cs : List Addr) (X : Cx) (E : XK) (st : Stmt) (g : Nv → Option SR) : Prop where
  h : PS X st (tS X.K cs E g)
structure SDs (cs : List Addr) (X : Cx) (E : XK) (st : List Stmt) (g : Nv → Option SR) : Prop where
  h : PSs X st (tS X.K cs E g)
def seqS (g g' : Nv → Option SR) : Nv → Option SR := fun ρ => (g ρ).bind fun r => match r with
  | .nx ρ' => g' ρ'
  | r => some r
section
variable {K : PySem.W.Frag} {cs : List Addr} {Z F H F' H' : Hp} {σ σ' : L2.St} {ρ ρ' : Nv} {v : V} {d : D}
theorem Wish.ext {E : XK} {n : Nat} {D : Ends} {r : SR} (e : Ext F F') (h : Wish K cs E Z F n D r) : Wish K cs E Z F' n D r := by
  cases r with
  | nx ρ => exact fun σ G H' l x => h σ G H' l (e.trans x)
  | bk ρ => exact fun σ G H' l x => h σ G H' l (e.trans x)
  | ct ρ => exact fun σ G H' l x => h σ G H' l (e.trans x)
  | rt d o ρ => exact fun v σ G H' l x => h v σ G H' l (e.trans x)
  | exc c => exact fun G H' x => h G H' (e.trans x)
/-- a slot takes shared data -/
theorem Rep.setSh (R : Rep K cs Z F H σ ρ) (i : Nat) (r : Rp K F v d) : Rep K cs Z F H (σ.set i (some v)) (ρ.set i (some (.sh d))) := by
  have hset : ∀ {j : Nat} {c : Cell}, (ρ.set i (some (.sh d)))[j]? = some (some c) → (j = i ∧ c = .sh d ∧ i < ρ.length) ∨ (j ≠ i ∧ ρ[j]? = some (some c)) := fun {j c} h => by
    by_cases hj : j = i
    · subst hj
      by_cases hl : j < ρ.length
      · rw [List.getElem?_set_self hl] at h
        cases h
        exact .inl ⟨rfl, rfl, hl⟩
      · rw [List.getElem?_eq_none (by rw [List.length_set]; omega)] at h
        cases h
    · rw [List.getElem?_set_ne (Ne.symm hj)] at h
      exact .inr ⟨hj, h⟩
  have sne : ∀ {j : Nat}, j ≠ i → (σ.set i (some v))[j]? = σ[j]? := fun hj => List.getElem?_set_ne (Ne.symm hj)
  refine ⟨by rw [List.length_set, List.length_set]; exact R.len, R.fh, R.zh, fun j c h1 h2 => ?_, fun j d' h1 => ?_, fun j k c e a h1 h2 h3 h4 h5 h6 => ?_, fun j a d' h1 => ?_, R.tab⟩
  · rcases hset h1 with ⟨_, rfl, _⟩ | ⟨hj, h⟩
    · cases h2
    · rw [sne hj]
      exact R.mine j c h h2
  · rcases hset h1 with ⟨rfl, e, hl⟩ | ⟨hj, h⟩
    · cases e
      exact ⟨v, by rw [List.getElem?_set_self (by rw [R.len]; exact hl)], r⟩
    · rw [sne hj]
      exact R.sh j d' h
  · rcases hset h1 with ⟨_, rfl, _⟩ | ⟨hj, h⟩
    · cases h2
    · rcases hset h3 with ⟨_, rfl, _⟩ | ⟨hk, h'⟩
      · cases h4
      · rw [sne hj] at h5
        rw [sne hk] at h6
        exact R.inj j k c e a h h2 h' h4 h5 h6
  · rcases hset h1 with ⟨_, e, _⟩ | ⟨hj, h⟩
    · cases e
    · rw [sne hj]
      exact R.io j a d' h
/-- .. a new list or dict -/
theorem Rep.setOw {p : Addr} (R : Rep K cs Z F H σ ρ) (i : Nat) (fp : F p = none) (zp : Z p = none) (mp : ¬ Mine σ ρ p) (o : Own K F H p d) : Rep K cs Z F H (σ.set i (some (.ref p))) (ρ.set i (some (.ow d))) := by
  have hset : ∀ {j : Nat} {c : Cell}, (ρ.set i (some (.ow d)))[j]? = some (some c) → (j = i ∧ c = .ow d ∧ i < ρ.length) ∨ (j ≠ i ∧ ρ[j]? = some (some c)) := fun {j c} h => by
    by_cases hj : j = i
    · subst hj
      by_cases hl : j < ρ.length
      · rw [List.getElem?_set_self hl] at h
        cases h
        exact .inl ⟨rfl, rfl, hl⟩
      · rw [List.getElem?_eq_none (by rw [List.length_set]; omega)] at h
        cases h
    · rw [List.getElem?_set_ne (Ne.symm hj)] at h
      exact .inr ⟨hj, h⟩
  have sne : ∀ {j : Nat}, j ≠ i → (σ.set i (some (V.ref p)))[j]? = σ[j]? := fun hj => List.getElem?_set_ne (Ne.symm hj)
  have sself : i < ρ.length → (σ.set i (some (V.ref p)))[i]? = some (some (.ref p)) := fun hl => by rw [List.getElem?_set_self (by rw [R.len]; exact hl)]
  refine ⟨by rw [List.length_set, List.length_set]; exact R.len, R.fh, R.zh, fun j c h1 h2 => ?_, fun j d' h1 => ?_, fun j k c e a h1 h2 h3 h4 h5 h6 => ?_, fun j a d' h1 => ?_, R.tab⟩
  · rcases hset h1 with ⟨rfl, rfl, hl⟩ | ⟨hj, h⟩
    · exact ⟨p, sself hl, fp, zp, o⟩
    · rw [sne hj]
      exact R.mine j c h h2
  · rcases hset h1 with ⟨rfl, e, hl⟩ | ⟨hj, h⟩
    · cases e
    · rw [sne hj]
      exact R.sh j d' h
  · rcases hset h1 with ⟨rfl, rfl, hl⟩ | ⟨hj, h⟩
    · rcases hset h3 with ⟨rfl, _, _⟩ | ⟨hk, h'⟩
      · rfl
      · rw [sself hl] at h5
        cases h5
        rw [sne hk] at h6
        exact (mp ⟨k, e, h', h4, h6⟩).elim
    · rcases hset h3 with ⟨rfl, rfl, hl⟩ | ⟨hk, h'⟩
      · rw [sself hl] at h6
        cases h6
        rw [sne hj] at h5
        exact (mp ⟨j, c, h, h2, h5⟩).elim
      · rw [sne hj] at h5
        rw [sne hk] at h6
        exact R.inj j k c e a h h2 h' h4 h5 h6
  · rcases hset h1 with ⟨_, e, _⟩ | ⟨hj, h⟩
    · cases e
    · rw [sne hj]
      exact R.io j a d' h
/-- a name is forgotten -/
theorem Rep.drop (R : Rep K cs Z F H σ ρ) (i : Nat) (w : Option V) : Rep K cs Z F H (σ.set i w) (ρ.set i none) := by
  have hset : ∀ {j : Nat} {c : Cell}, (ρ.set i none)[j]? = some (some c) → j ≠ i ∧ ρ[j]? = some (some c) := fun {j c} h => by
    by_cases hj : j = i
    · subst hj
      by_cases hl : j < ρ.length
      · rw [List.getElem?_set_self hl] at h
        cases h
      · rw [List.getElem?_eq_none (by rw [List.length_set]; omega)] at h
        cases h
    · rw [List.getElem?_set_ne (Ne.symm hj)] at h
      exact ⟨hj, h⟩
  have sne : ∀ {j : Nat}, j ≠ i → (σ.set i w)[j]? = σ[j]? := fun hj => List.getElem?_set_ne (Ne.symm hj)
  refine ⟨by rw [List.length_set, List.length_set]; exact R.len, R.fh, R.zh, fun j c h1 h2 => ?_, fun j d' h1 => ?_, fun j k c e a h1 h2 h3 h4 h5 h6 => ?_, fun j a d' h1 => ?_, R.tab⟩
  · obtain ⟨hj, h⟩ := hset h1
    rw [sne hj]
    exact R.mine j c h h2
  · obtain ⟨hj, h⟩ := hset h1
    rw [sne hj]
    exact R.sh j d' h
  · obtain ⟨hj, h⟩ := hset h1
    obtain ⟨hk, h'⟩ := hset h3
    rw [sne hj] at h5
    rw [sne hk] at h6
    exact R.inj j k c e a h h2 h' h4 h5 h6
  · obtain ⟨hj, h⟩ := hset h1
    rw [sne hj]
    exact R.io j a d' h
end
section
variable {cs : List Addr} {X : Cx} {E : XK} {st : Stmt} {rest : List Stmt} {g g' : Nv → Option SR} {e : Expr} {pos : Pos} {fa : Nv → Option D} {ga : Nv → Option Bool}
theorem sd_nil : SDs cs X E [] (fun ρ => some (.nx ρ)) := ⟨pss_imp pss_nil fun D σ H ⟨Z, F, ρ, r, R, e, w⟩ => by
  cases e
  exact w σ F H rfl (Ext.refl F) R⟩
theorem t_seq {K : PySem.W.Frag} : ∀ D σ H, tS K cs E (seqS g g') D σ H → tSeq (tS K cs E g) (tS K cs E g') D σ H := fun D σ H ⟨Z, F, ρ, r, R, e, w⟩ => by
  obtain ⟨r1, e1, e2⟩ := Option.bind_eq_some_iff.mp e
  refine ⟨Z, F, ρ, r1, R, e1, ?_⟩
  cases r1 with
  | nx ρ1 =>
    intro σ1 F1 H1 l1 x1 R1
    exact ⟨Z, F1, ρ1, r, R1, e2, by rw [l1]; exact w.ext x1⟩
  | bk ρ1 => cases e2; exact w
  | ct ρ1 => cases e2; exact w
  | rt d o ρ1 => cases e2; exact w
  | exc c => cases e2; exact w
theorem sd_cons (h1 : SD cs X E st g) (h2 : SDs cs X E rest g') : SDs cs X E (st :: rest) (seqS g g') := ⟨pss_imp (pss_cons h1.h h2.h) t_seq⟩
theorem sd_one (h : SD cs X E st g) : SDs cs X E [st] g := ⟨pss_one h.h⟩
theorem sd_pass : SD cs X E (.Pass pos) (fun ρ => some (.nx ρ)) := ⟨ps_imp ps_pass fun D σ H ⟨Z, F, ρ, r, R, e, w⟩ => by
  cases e
  exact w σ F H rfl (Ext.refl F) R⟩
theorem sd_break : SD cs X E (.Break pos) (fun ρ => some (.bk ρ)) := ⟨ps_imp ps_break fun D σ H ⟨Z, F, ρ, r, R, e, w⟩ => by
  cases e
  exact w σ F H rfl (Ext.refl F) R⟩
theorem sd_cont : SD cs X E (.Continue pos) (fun ρ => some (.ct ρ)) := ⟨ps_imp ps_continue fun D σ H ⟨Z, F, ρ, r, R, e, w⟩ => by
  cases e
  exact w σ F H rfl (Ext.refl F) R⟩
/-- a text that says what is done -/
theorem sd_doc {x : Str} {j : Nat} {pos' : Pos} : SD cs X E (.Expr (.Constant (.str x) j pos) pos') (fun ρ => some (.nx ρ)) := ⟨ps_imp ps_doc fun D σ H ⟨Z, F, ρ, r, R, e, w⟩ => by
  cases e
  exact w σ F H rfl (Ext.refl F) R⟩
/-- code that is never reached -/
theorem sd_never : SD cs X E st (fun _ => none) := ⟨ps_imp ps_never fun D σ H ⟨Z, F, ρ, r, R, e, w⟩ => by cases e⟩
theorem sds_never : SDs cs X E rest (fun _ => none) := ⟨pss_imp pss_never fun D σ H ⟨Z, F, ρ, r, R, e, w⟩ => by cases e⟩
theorem sd_expr (h : EP' cs X e fa) (hs : swapsWith e none pos.line X.env = pure false := by rfl) : SD cs X E (.Expr e pos) (fun ρ => (fa ρ).map fun _ => .nx ρ) := ⟨ps_imp (ps_expr h.h hs) fun D σ H ⟨Z, F, ρ, r, R, ef, w⟩ => by
  obtain ⟨d, e1, rfl⟩ := Option.map_eq_some_iff.mp ef
  exact ⟨Z, F, ρ, d, R, e1, fun v F1 H1 x1 R1 _ => w σ F1 H1 rfl x1 R1⟩⟩
def setS (i : Nat) (fa : Nv → Option D) : Nv → Option SR := fun ρ => (fa ρ).map fun d => .nx (ρ.set i (some (.sh d)))
def setN (i : Nat) (fa : Nv → Option D) : Nv → Option SR := fun ρ => (fa ρ).map fun d => .nx (ρ.set i (some (.ow d)))
theorem sd_set {i : Nat} {x : Str} {pos' : Pos} (hN : X.N.Nodup) (hi : X.N[i]? = some x) (hx : Loc X.env.scope x) (h : EP' cs X e fa) (hs : swapsWith e (some (.Name x pos')) pos.line X.env = pure false := by rfl) (hf : X.fn x = true ∨ X.env.scope.names.lookup x = some .local := by first | exact .inl rfl | exact .inr rfl | assumption) :
    SD cs X E (.Assign [.Name x pos'] e pos) (setS i fa) := ⟨ps_imp (ps_set hN hi hx h.h hs hf) fun D σ H ⟨Z, F, ρ, r, R, ef, w⟩ => by
  obtain ⟨d, e1, rfl⟩ := Option.map_eq_some_iff.mp ef
  exact ⟨Z, F, ρ, d, R, e1, fun v F1 H1 x1 R1 r1 => w _ F1 H1 (by rw [List.length_set]) x1 (R1.setSh i r1)⟩⟩
theorem sd_setN {i : Nat} {x : Str} {pos' : Pos} (hN : X.N.Nodup) (hi : X.N[i]? = some x) (hx : Loc X.env.scope x) (h : EN cs X e fa) (hs : swapsWith e (some (.Name x pos')) pos.line X.env = pure false := by rfl) (hf : X.fn x = true ∨ X.env.scope.names.lookup x = some .local := by first | exact .inl rfl | exact .inr rfl | assumption) :
    SD cs X E (.Assign [.Name x pos'] e pos) (setN i fa) := ⟨ps_imp (ps_set hN hi hx h.h hs hf) fun D σ H ⟨Z, F, ρ, r, R, ef, w⟩ => by
  obtain ⟨d, e1, rfl⟩ := Option.map_eq_some_iff.mp ef
  exact ⟨Z, F, ρ, d, R, e1, fun p F1 H1 x1 R1 fp zp mp o => w _ F1 H1 (by rw [List.length_set]) x1 (R1.setOw i fp zp mp o)⟩⟩
theorem sd_ret (h : EP' cs X e fa) : SD cs X E (.Return (some e) pos) (fun ρ => (fa ρ).map fun d => .rt d false ρ) := ⟨ps_imp (ps_ret h.h) fun D σ H ⟨Z, F, ρ, r, R, ef, w⟩ => by
  obtain ⟨d, e1, rfl⟩ := Option.map_eq_some_iff.mp ef
  exact ⟨Z, F, ρ, d, R, e1, fun v F1 H1 x1 R1 r1 => w v σ F1 H1 rfl x1 R1 (by unfold ResV; rw [if_neg Bool.false_ne_true]; exact r1)⟩⟩
theorem sd_retN (h : EN cs X e fa) : SD cs X E (.Return (some e) pos) (fun ρ => (fa ρ).map fun d => .rt d true ρ) := ⟨ps_imp (ps_ret h.h) fun D σ H ⟨Z, F, ρ, r, R, ef, w⟩ => by
  obtain ⟨d, e1, rfl⟩ := Option.map_eq_some_iff.mp ef
  exact ⟨Z, F, ρ, d, R, e1, fun p F1 H1 x1 R1 fp zp mp o => w _ σ F1 H1 rfl x1 R1 (by unfold ResV; rw [if_pos rfl]; exact ⟨p, rfl, fp, zp, mp, o⟩)⟩⟩
/-- return x, x a name of this frame's own list or dict, or of shared data -/
def retNm (i : Nat) : Nv → Option SR := fun ρ => match ρ[i]? with
  | some (some (.sh d)) => some (.rt d false ρ)
  | some (some (.ow d)) => some (.rt d true (ρ.set i none))
  | _ => none
theorem sd_retNm {i : Nat} {x : Str} {pos' : Pos} (h : PE X (.Name x pos) (tVar i)) : SD cs X E (.Return (some (.Name x pos)) pos') (retNm i) := ⟨ps_imp (ps_ret h) fun D σ H ⟨Z, F, ρ, r, R, ef, w⟩ => by
  unfold retNm at ef
  split at ef
  · rename_i d e
    cases ef
    obtain ⟨v, h1, h2⟩ := R.sh i _ e
    exact ⟨v, h1, w v σ F H rfl (Ext.refl F) R (by unfold ResV; rw [if_neg Bool.false_ne_true]; exact h2)⟩
  · rename_i d e
    cases ef
    obtain ⟨a, h1, h2, h3, h4⟩ := R.mine i _ e rfl
    refine ⟨.ref a, h1, w (.ref a) (σ.set i (some (.ref a))) F H (by rw [List.length_set]) (Ext.refl F) (R.drop i _) ?_⟩
    unfold ResV
    rw [if_pos rfl]
    refine ⟨a, rfl, h2, h3, fun ⟨j, c, g1, g2, g3⟩ => ?_, h4⟩
    by_cases hj : j = i
    · subst hj
      by_cases hl : j < ρ.length
      · rw [List.getElem?_set_self hl] at g1
        cases g1
      · rw [List.getElem?_eq_none (by rw [List.length_set]; omega)] at g1
        cases g1
    · rw [List.getElem?_set_ne (Ne.symm hj)] at g1 g3
      exact hj (R.inj j i c _ a g1 g2 e rfl g3 h1)
  · cases ef⟩
theorem sd_ret0 : SD cs X E (.Return none pos) (fun ρ => some (.rt .none false ρ)) := ⟨ps_imp ps_retN fun D σ H ⟨Z, F, ρ, r, R, ef, w⟩ => by
  cases ef
  exact w .non σ F H rfl (Ext.refl F) R (by unfold ResV; rw [if_neg Bool.false_ne_true]; exact .non)⟩
def ifS (ga : Nv → Option Bool) (g g' : Nv → Option SR) : Nv → Option SR := fun ρ => (ga ρ).bind fun k => if k = true then g ρ else g' ρ
theorem sd_if {a b : List Stmt} {c : Expr} (hc : ET cs X c ga) (ha : SDs cs X E a g) (hb : SDs cs X E b g') : SD cs X E (.If c a b pos) (ifS ga g g') := ⟨ps_imp (ps_if hc.h ha.h hb.h) fun D σ H ⟨Z, F, ρ, r, R, ef, w⟩ => by
  obtain ⟨k, e1, e2⟩ := Option.bind_eq_some_iff.mp ef
  refine ⟨Z, F, ρ, k, R, e1, fun F1 H1 x1 R1 => ?_⟩
  by_cases hk : k = true
  · rw [if_pos hk] at e2 ⊢
    exact ⟨Z, F1, ρ, r, R1, e2, w.ext x1⟩
  · rw [if_neg hk] at e2 ⊢
    exact ⟨Z, F1, ρ, r, R1, e2, w.ext x1⟩⟩

/-! ### while -/
def whileS (t : Nv → Option Bool) (g : Nv → Option SR) : Nat → Nv → Option SR
  | 0, _ => none
  | n + 1, ρ => (t ρ).bind fun k => if k = true then (g ρ).bind fun r => match r with
    | .nx ρ' => whileS t g n ρ'
    | .ct ρ' => whileS t g n ρ'
    | .bk ρ' => some (.nx ρ')
    | r => some r
  else some (.nx ρ)
theorem sd_while {c : Expr} {body : List Stmt} (hp : PassesOwn (model X.prog X.w) X.A X.env X.xe) (hc : ET cs X c ga) (hb : SDs cs X E body g) (n : Nv → Nat) : SD cs X E (.While c body [] pos) (fun ρ => whileS ga g (n ρ) ρ) := ⟨ps_imp (ps_while hp hc.h hb.h) fun D σ H ⟨Z, F, ρ, r, R, ef, w⟩ => by
  refine ⟨fun m σ1 H1 => ∃ F1 ρ1, Ext F F1 ∧ σ1.length = σ.length ∧ Rep X.K cs Z F1 H1 σ1 ρ1 ∧ whileS ga g m ρ1 = some r, ⟨n ρ, F, ρ, Ext.refl F, rfl, R, ef⟩, ?_⟩
  rintro m σ1 H1 ⟨F1, ρ1, x1, l1, R1, e1⟩
  cases m with
  | zero => cases e1
  | succ m =>
    obtain ⟨k, e2, e3⟩ := Option.bind_eq_some_iff.mp e1
    refine ⟨Z, F1, ρ1, k, R1, e2, fun F2 H2 x2 R2 => ?_⟩
    by_cases hk : k = true
    · rw [if_pos hk] at e3
      obtain ⟨r1, e4, e5⟩ := Option.bind_eq_some_iff.mp e3
      rw [if_pos hk]
      have again : ∀ {ρ3 : Nv}, whileS ga g m ρ3 = some r → ∀ σ3 F3 H3, σ3.length = σ1.length → Ext F2 F3 → Rep X.K cs Z F3 H3 σ3 ρ3 → ∃ m', m' < m + 1 ∧ ∃ F1 ρ1, Ext F F1 ∧ σ3.length = σ.length ∧ Rep X.K cs Z F1 H3 σ3 ρ1 ∧ whileS ga g m' ρ1 = some r :=
        fun e6 σ3 F3 H3 l3 x3 R3 => ⟨m, Nat.lt_succ_self m, F3, _, (x1.trans x2).trans x3, l3.trans l1, R3, e6⟩
      refine ⟨fun σ3 H3 => ∃ m', m' < m + 1 ∧ ∃ F1 ρ1, Ext F F1 ∧ σ3.length = σ.length ∧ Rep X.K cs Z F1 H3 σ3 ρ1 ∧ whileS ga g m' ρ1 = some r, fun σ3 H3 h => h, Z, F2, ρ1, r1, R2, e4, ?_⟩
      cases r1 with
      | nx ρ3 => exact fun σ3 F3 H3 l3 x3 R3 => again e5 σ3 F3 H3 l3 x3 R3
      | ct ρ3 => exact fun σ3 F3 H3 l3 x3 R3 => again e5 σ3 F3 H3 l3 x3 R3
      | bk ρ3 =>
        cases e5
        exact fun σ3 F3 H3 l3 x3 R3 => w σ3 F3 H3 (l3.trans l1) ((x1.trans x2).trans x3) R3
      | rt d o ρ3 =>
        cases e5
        exact fun v σ3 F3 H3 l3 x3 R3 => w v σ3 F3 H3 (l3.trans l1) ((x1.trans x2).trans x3) R3
      | exc c =>
        cases e5
        exact fun F3 H3 x3 R3 => w F3 H3 ((x1.trans x2).trans x3) R3
    · rw [if_neg hk] at e3
      cases e3
      rw [if_neg hk]
      exact w σ1 F2 H2 l1 (x1.trans x2) R2⟩
end
end DS

namespace DS
open PySem L2

/-! ## a def by its body -/
def outsOf : List Md → List V → Nv → Option (List D)
  | [], _, _ => some []
  | .io :: ms, .ref a :: vs, some (.io b d) :: ρ => if a = b then (outsOf ms vs ρ).map (d :: ·) else none
  | .io :: _, _, _ => none
  | _ :: ms, _ :: vs, _ :: ρ => outsOf ms vs ρ
  | _ :: _, _, _ => none
def finD (ms : List Md) (vs : List V) : SR → Option Ou
  | .nx ρ => (outsOf ms vs ρ).map (.ret .none false ·)
  | .rt d own ρ => (outsOf ms vs ρ).map (.ret d own ·)
  | .exc c => some (.exc c)
  | _ => none
def runD (ms : List Md) (n : Nat) (g : Nv → Option SR) (vs : List V) (ds : List D) : Option Ou := (g (argNv ms vs ds ++ List.replicate n none)).bind (finD ms vs)
theorem outNv_get : ∀ {ms : List Md} {vs : List V} {ρ : Nv} {outs : List D} {i : Nat} {c : Cell}, outsOf ms vs ρ = some outs → (outNv ms vs outs)[i]? = some (some c) → ∃ a d, c = .io a d ∧ vs[i]? = some (.ref a) ∧ ρ[i]? = some (some (.io a d))
  | [], _, _, _, _, _, h, e => by
    cases h
    simp [outNv] at e
  | .io :: ms, .ref a :: vs, some (.io b d) :: ρ, outs, i, c, h, e => by
    unfold outsOf at h
    split at h
    · rename_i hab
      obtain ⟨os, h2, rfl⟩ := Option.map_eq_some_iff.mp h
      cases i with
      | zero =>
        have e' : some (Cell.io a d) = some c := Option.some.inj e
        cases e'
        exact ⟨a, d, rfl, rfl, by rw [hab]; rfl⟩
      | succ i => exact outNv_get (ms := ms) (i := i) h2 e
    · cases h
  | .ro :: ms, v :: vs, r :: ρ, outs, i, c, h, e => by
    have h' : outsOf ms vs ρ = some outs := by cases v <;> exact h
    cases i with
    | zero => cases v <;> simp [outNv] at e
    | succ i =>
      have e' : (outNv ms vs outs)[i]? = some (some c) := by cases v <;> exact e
      exact outNv_get (ms := ms) (i := i) h' e'
  | .mv :: ms, v :: vs, r :: ρ, outs, i, c, h, e => by
    have h' : outsOf ms vs ρ = some outs := by cases v <;> exact h
    cases i with
    | zero => cases v <;> simp [outNv] at e
    | succ i =>
      have e' : (outNv ms vs outs)[i]? = some (some c) := by cases v <;> exact e
      exact outNv_get (ms := ms) (i := i) h' e'
theorem outNv_len : ∀ {ms : List Md} {vs : List V} {ρ : Nv} {outs : List D}, vs.length = ms.length → outsOf ms vs ρ = some outs → (outNv ms vs outs).length = ms.length
  | [], [], _, _, _, h => by
    cases h
    rfl
  | .io :: ms, .ref a :: vs, some (.io b d) :: ρ, outs, hl, h => by
    unfold outsOf at h
    split at h
    · obtain ⟨os, h2, rfl⟩ := Option.map_eq_some_iff.mp h
      show (outNv ms vs os).length + 1 = ms.length + 1
      rw [outNv_len (by simpa using hl) h2]
    · cases h
  | .ro :: ms, v :: vs, r :: ρ, outs, hl, h => by
    have h' : outsOf ms vs ρ = some outs := by cases v <;> exact h
    have e : outNv (.ro :: ms) (v :: vs) outs = none :: outNv ms vs outs := by cases v <;> rfl
    rw [e, List.length_cons, List.length_cons, outNv_len (by simpa using hl) h']
  | .mv :: ms, v :: vs, r :: ρ, outs, hl, h => by
    have h' : outsOf ms vs ρ = some outs := by cases v <;> exact h
    have e : outNv (.mv :: ms) (v :: vs) outs = none :: outNv ms vs outs := by cases v <;> rfl
    rw [e, List.length_cons, List.length_cons, outNv_len (by simpa using hl) h']
section
variable {K : PySem.W.Frag} {cs : List Addr} {Z F H F' H' : Hp} {σ : L2.St} {ρ : Nv} {ms : List Md} {vs : List V} {outs : List D} {v : V} {d : D} {own : Bool}
theorem Rep.back2 (R : Rep K cs Z F H σ ρ) (hl : vs.length = ms.length) (h : outsOf ms vs ρ = some outs) : Rep K cs Z F H (vs.map some) (outNv ms vs outs) := by
  refine ⟨by rw [List.length_map, outNv_len hl h, hl], R.fh, R.zh, fun i c h1 h2 => ?_, fun i d h1 => ?_, fun i j c e a h1 h2 h3 h4 h5 h6 => ?_, fun i a d h1 => ?_, R.tab⟩
  · obtain ⟨a, d, rfl, h3, h4⟩ := outNv_get h h1
    obtain ⟨a', q1, q2⟩ := R.mine i _ h4 rfl
    have q3 := R.io i a d h4
    rw [q3] at q1
    cases q1
    exact ⟨a, by rw [List.getElem?_map, h3]; rfl, q2⟩
  · obtain ⟨_, _, e, _⟩ := outNv_get h h1
    cases e
  · obtain ⟨a1, d1, rfl, g3, g4⟩ := outNv_get h h1
    obtain ⟨a2, d2, rfl, k3, k4⟩ := outNv_get h h3
    rw [List.getElem?_map, g3] at h5
    rw [List.getElem?_map, k3] at h6
    cases h5
    cases h6
    exact R.inj i j _ _ _ g4 rfl k4 rfl (R.io _ _ _ g4) (R.io _ _ _ k4)
  · obtain ⟨a1, d1, e, g3, g4⟩ := outNv_get h h1
    cases e
    rw [List.getElem?_map, g3]
    rfl
theorem ResV.back2 (R : Rep K cs Z F H σ ρ) (h : outsOf ms vs ρ = some outs) (r : ResV K Z F H σ ρ v d own) : ResV K Z F H (vs.map some) (outNv ms vs outs) v d own := by
  unfold ResV at r ⊢
  split at r
  · rename_i ho
    rw [if_pos ho]
    obtain ⟨p, rfl, h1, h2, h3, h4⟩ := r
    refine ⟨p, rfl, h1, h2, fun ⟨i, c, g1, g2, g3⟩ => ?_, h4⟩
    obtain ⟨a1, d1, rfl, k3, k4⟩ := outNv_get h g1
    rw [List.getElem?_map, k3] at g3
    cases g3
    exact h3 ⟨i, _, k4, rfl, R.io i _ _ k4⟩
  · rename_i ho
    rw [if_neg ho]
    exact r
/-- more names, without values yet -/
theorem Rep.pad (R : Rep K cs Z F H σ ρ) (n : Nat) : Rep K cs Z F H (σ ++ List.replicate n none) (ρ ++ List.replicate n none) := by
  have hg : ∀ {i : Nat} {c : Cell}, (ρ ++ List.replicate n none)[i]? = some (some c) → ρ[i]? = some (some c) ∧ (σ ++ List.replicate n none)[i]? = σ[i]? := fun {i c} h => by
    by_cases hi : i < ρ.length
    · rw [List.getElem?_append_left hi] at h
      exact ⟨h, List.getElem?_append_left (by rw [R.len]; exact hi)⟩
    · rw [List.getElem?_append_right (by omega), List.getElem?_replicate] at h
      split at h <;> cases h
  refine ⟨by rw [List.length_append, List.length_append, R.len, List.length_replicate, List.length_replicate], R.fh, R.zh, fun i c h1 h2 => ?_, fun i d h1 => ?_, fun i j c e a h1 h2 h3 h4 h5 h6 => ?_, fun i a d h1 => ?_, R.tab⟩
  · obtain ⟨g1, g2⟩ := hg h1
    rw [g2]
    exact R.mine i c g1 h2
  · obtain ⟨g1, g2⟩ := hg h1
    rw [g2]
    exact R.sh i d g1
  · obtain ⟨g1, g2⟩ := hg h1
    obtain ⟨k1, k2⟩ := hg h3
    rw [g2] at h5
    rw [k2] at h6
    exact R.inj i j c e a g1 h2 k1 h4 h5 h6
  · obtain ⟨g1, g2⟩ := hg h1
    rw [g2]
    exact R.io i a d g1
end
/-- what the body's run must come to -/
def Comes (ms : List Md) (n : Nat) (g : Nv → Option SR) (sem : List D → Option Ou) : Prop := ∀ vs ds o, vs.length = ms.length → ds.length = ms.length → ioOk ms vs = true → sem ds = some o → runD ms n g vs ds = some o
theorem body_ends {cs : List Addr} {K : PySem.W.Frag} {N ps : List Str} {ms : List Md} {sem : List D → Option Ou} {g : Nv → Option SR} {vs : List V} {H : Hp} {Q : VK} {E : XK} (hm : ms.length = ps.length) (hc : Comes ms (N.length - ps.length) g sem) (h : spD K cs ms sem vs H Q E) :
    tS K cs E g { nx := fun _ H' => Q .non H', rt := Q } (L2.start N vs) H := by
  obtain ⟨Z, F, ds, o, hv, hd, hio, R, hs, q⟩ := h
  have e := hc vs ds o hv hd hio hs
  unfold runD at e
  obtain ⟨r, e1, e2⟩ := Option.bind_eq_some_iff.mp e
  have hst : L2.start N vs = vs.map some ++ List.replicate (N.length - ps.length) none := by
    unfold L2.start
    rw [hv, hm]
  refine ⟨Z, F, _, r, by rw [hst]; exact R.pad _, e1, ?_⟩
  cases r with
  | nx ρ =>
    obtain ⟨outs, e3, rfl⟩ := Option.map_eq_some_iff.mp e2
    exact fun σ F' H' _ x R' => q .non F' H' x (R'.back2 hv e3) (by unfold ResV; rw [if_neg Bool.false_ne_true]; exact .non)
  | bk ρ => cases e2
  | ct ρ => cases e2
  | rt d own ρ =>
    obtain ⟨outs, e3, rfl⟩ := Option.map_eq_some_iff.mp e2
    exact fun v σ F' H' _ x R' res => q v F' H' x (R'.back2 hv e3) (ResV.back2 R' e3 res)
  | exc c =>
    cases e2
    exact q
theorem fn_ds {P : Program} {w : World} {K : PySem.W.Frag} {mg : Str → Option Value} {base : Heap} {cs : List Addr} {x qual : Str} {st : Stmt} {f : Addr} {fd : FuncData} {N ps : List Str} {k : Nat} {ms : List Md} {sem : List D → Option Ou} (F : Fun K x qual st f fd) (S : FnScope N ps (defScope st)) (hm : ms.length = ps.length)
    (hbody : ∀ (cdv : Value) (A : Around) (outer : List Env) (s : Shared) (H : Hp) (E : XK), Room k (A.deeper (PyProof.Rows.envOfC qual (defScope st) s.heap.objs.size f cdv)) →
      ∃ g, SDs cs (cxOf CX0 P w K mg base N qual (defScope st) f cdv A outer s H E).nox E (defBody st) g ∧ Comes ms (N.length - ps.length) g sem) :
    FnOk P w K mg base CX0 (k + 1) f fd ps (spD K cs ms sem) := by
  refine F.ok S (fun vs H Q E h => ?_) fun cdv A outer s H vs Q E hr h => ?_
  · obtain ⟨_, _, _, _, hv, _⟩ := h
    rw [hv, hm]
  · obtain ⟨g, h1, h2⟩ := hbody cdv A outer s H E hr
    exact ⟨_, h1.h, body_ends hm h2 h⟩
end DS

namespace DS
open PySem L2

/-! ## what is walked -/
/-- ds come one by one, while P holds -/
structure Src (K : PySem.W.Frag) (cs : List Addr) (P : Hp → L2.St → Nv → Prop) (J : It) (ds : List D) : Prop where
  mono : ∀ F F' σ ρ, Ext F F' → P F σ ρ → P F' σ ρ
  go : ∀ Z F H σ ρ i x, Rep K cs Z F H σ ρ → P F σ ρ → ds[i]? = some x → J.go i H ∧ ∀ y H', J.yld i H y H' → ∃ F', Ext F F' ∧ Rep K cs Z F' H' σ ρ ∧ Rp K F' y x
  stop : ∀ Z F H σ ρ i, Rep K cs Z F H σ ρ → P F σ ρ → ds.length ≤ i → J.stop i H
/-- whatever the names become -/
def AnyP (P : Hp → L2.St → Nv → Prop) : Prop := ∀ F σ ρ σ' ρ', P F σ ρ → P F σ' ρ'
def noMine (ρ : Nv) (i : Nat) : Bool := match ρ[i]? with
  | some (some c) => !c.mine
  | _ => true
def SetP (P : Hp → L2.St → Nv → Prop) : Prop := ∀ F σ ρ i w c, noMine ρ i = true → P F σ ρ → P F (σ.set i w) (ρ.set i c)
def tI (K : PySem.W.Frag) (cs : List Addr) (C : (Hp → L2.St → Nv → Prop) → Prop) (f : Nv → Option (List D)) : TI := fun σ H R => ∃ Z F ρ ds, Rep K cs Z F H σ ρ ∧ f ρ = some ds ∧ ∀ J P F' H', Ext F F' → Rep K cs Z F' H' σ ρ → P F' σ ρ → C P → Src K cs P J ds → R J H'
structure EI (cs : List Addr) (X : Cx) (C : (Hp → L2.St → Nv → Prop) → Prop) (tg e : Expr) (f : Nv → Option (List D)) : Prop where
  h : PI X tg e (tI X.K cs C f)
theorem AnyP.set {P : Hp → L2.St → Nv → Prop} (h : AnyP P) : SetP P := fun F σ ρ i w c _ p => h F σ ρ _ _ p
section
variable {cs : List Addr} {X : Cx} {tg e a b : Expr} {fa fb : Nv → Option D} {f : Nv → Option (List D)} {p pos : Pos}
theorem pi_imp {wi wi' : TI} (h : PI X tg e wi) (i : ∀ σ H R, wi' σ H R → wi σ H R) : PI X tg e wi' := ⟨fun pins s σ H R I q => h.run pins s σ H R I (i σ H R q)⟩
theorem EI.comp (h : EI cs X AnyP tg e f) : EI cs X SetP tg e f := ⟨pi_imp h.h fun σ H R ⟨Z, F, ρ, ds, r, ef, q⟩ => ⟨Z, F, ρ, ds, r, ef, fun J P F' H' x R' p c s => q J P F' H' x R' p c.set s⟩⟩
def asL : D → Option (List D)
  | .list xs => some xs
  | _ => none
def asTu : D → Option (List D)
  | .tuple xs => some xs
  | _ => none
theorem asL_some {d : D} {xs : List D} (h : asL d = some xs) : d = .list xs := by
  cases d <;> simp [asL] at h
  rw [h]
theorem asTu_some {d : D} {xs : List D} (h : asTu d = some xs) : d = .tuple xs := by
  cases d <;> simp [asTu] at h
  rw [h]
theorem src_list {K : PySem.W.Frag} {a : Addr} {ds : List D} {P : Hp → L2.St → Nv → Prop} (hm : ∀ F F' σ ρ, Ext F F' → P F σ ρ → P F' σ ρ) (h : ∀ Z F H σ ρ, Rep K cs Z F H σ ρ → P F σ ρ → ∃ xs, SqL K H a xs ∧ Rps K F xs ds) : Src K cs P (Itl K a) ds := by
  refine ⟨hm, fun Z F H σ ρ i x R p hi => ?_, fun Z F H σ ρ i R p hi => ?_⟩
  · obtain ⟨xs, s, r⟩ := h Z F H σ ρ R p
    obtain ⟨v, h1, h2⟩ := r.get hi
    refine ⟨⟨xs, v, s, h1⟩, fun y H' ⟨e1, e2⟩ => ?_⟩
    subst e1
    have e3 := e2 xs s
    rw [h1] at e3
    cases e3
    exact ⟨F, Ext.refl F, R, h2⟩
  · obtain ⟨xs, s, r⟩ := h Z F H σ ρ R p
    exact ⟨xs, s, by rw [r.len]; exact hi⟩
/-- a list that all read -/
theorem i_list (h : EP' cs X e fa) : EI cs X AnyP tg e (fun ρ => (fa ρ).bind asL) := ⟨pi_imp (pi_list h.h) fun σ H R ⟨Z, F, ρ, ds, r, ef, q⟩ => by
  obtain ⟨d, e1, e2⟩ := Option.bind_eq_some_iff.mp ef
  have hd := asL_some e2
  refine ⟨Z, F, ρ, d, r, e1, fun v F1 H1 x1 R1 r1 => ?_⟩
  rw [hd] at r1
  cases r1 with
  | lst s t =>
    refine ⟨_, rfl, ⟨_, R1.ex.sqL s⟩, ?_⟩
    refine q _ (fun F _ _ => Ext F1 F) F1 H1 x1 R1 (Ext.refl F1) (fun _ _ _ _ _ p => p) (src_list (fun _ _ _ _ x p => p.trans x) fun Z F H σ ρ R2 p => ?_)
    exact ⟨_, R2.ex.sqL (Ext.sqL p s), t.ext p⟩⟩
/-- a list as it stands -/
theorem i_listW (h : EW cs X e fa) : EI cs X SetP tg e (fun ρ => (fa ρ).bind asL) := ⟨pi_imp (pi_list h.h) fun σ H R ⟨Z, F, ρ, ds, r, ef, q⟩ => by
  obtain ⟨d, e1, e2⟩ := Option.bind_eq_some_iff.mp ef
  have hd := asL_some e2
  refine ⟨Z, F, ρ, d, r, e1, fun v F1 H1 x1 R1 w1 => ?_⟩
  rw [hd] at w1
  obtain ⟨a, xs, rfl, s1, _⟩ := R1.lst w1
  refine ⟨a, rfl, ⟨xs, s1⟩, ?_⟩
  refine q _ (fun F σ ρ => Vw X.K F σ ρ (.ref a) (.list ds)) F1 H1 x1 R1 w1 (fun F σ ρ i w c hn p => ?_) (src_list (fun _ _ _ _ x p => p.ext x) fun Z F H σ ρ R2 p => ?_)
  · rcases p with p | ⟨j, c', h1, h2, h3, h4⟩
    · exact .inl p
    · have hj : j ≠ i := fun z => by
        subst z
        unfold noMine at hn
        rw [h1] at hn
        simp [h2] at hn
      exact .inr ⟨j, c', by rw [List.getElem?_set_ne (Ne.symm hj)]; exact h1, h2, h3, by rw [List.getElem?_set_ne (Ne.symm hj)]; exact h4⟩
  · obtain ⟨a', xs', e3, s', t⟩ := R2.lst p
    cases e3
    exact ⟨xs', s', t⟩⟩
theorem i_tup (h : EP' cs X e fa) : EI cs X AnyP tg e (fun ρ => (fa ρ).bind asTu) := ⟨pi_imp (pi_tup h.h) fun σ H R ⟨Z, F, ρ, ds, r, ef, q⟩ => by
  obtain ⟨d, e1, e2⟩ := Option.bind_eq_some_iff.mp ef
  have hd := asTu_some e2
  refine ⟨Z, F, ρ, d, r, e1, fun v F1 H1 x1 R1 r1 => ?_⟩
  rw [hd] at r1
  cases r1 with
  | tup s t =>
    refine ⟨_, rfl, ⟨_, R1.ex.sqT s⟩, ?_⟩
    refine q _ (fun F _ _ => Ext F1 F) F1 H1 x1 R1 (Ext.refl F1) (fun _ _ _ _ _ p => p) ⟨fun _ _ _ _ x p => p.trans x, fun Z F H σ ρ i x R2 p hi => ?_, fun Z F H σ ρ i R2 p hi => ?_⟩
    · obtain ⟨v, h1, h2⟩ := (t.ext p).get hi
      have s2 := R2.ex.sqT (Ext.sqT p s)
      refine ⟨⟨_, v, s2, h1⟩, fun y H' ⟨e1, e2⟩ => ?_⟩
      subst e1
      have e3 := e2 _ s2
      rw [h1] at e3
      cases e3
      exact ⟨F, Ext.refl F, R2, h2⟩
    · exact ⟨_, R2.ex.sqT (Ext.sqT p s), by rw [t.len]; exact hi⟩⟩
/-- the signs of a text -/
def signsD (x : Str) : List D := x.cps.toList.map fun c => .str ⟨#[c]⟩
def asSg : D → Option (List D)
  | .str x => some (signsD x)
  | _ => none
theorem i_str (h : EW cs X e fa) : EI cs X AnyP tg e (fun ρ => (fa ρ).bind asSg) := ⟨pi_imp (pi_str h.h) fun σ H R ⟨Z, F, ρ, ds, r, ef, q⟩ => by
  obtain ⟨d, e1, e2⟩ := Option.bind_eq_some_iff.mp ef
  refine ⟨Z, F, ρ, d, r, e1, fun v F1 H1 x1 R1 w1 => ?_⟩
  unfold asSg at e2
  split at e2
  · cases e2
    cases R1.vstr w1
    refine ⟨_, rfl, q _ (fun _ _ _ => True) F1 H1 x1 R1 trivial (fun _ _ _ _ _ p => p) ⟨fun _ _ _ _ _ p => p, fun Z F H σ ρ i x R2 _ hi => ?_, fun Z F H σ ρ i R2 _ hi => ?_⟩⟩
    · unfold signsD at hi
      rw [List.getElem?_map] at hi
      obtain ⟨c, h1, rfl⟩ := Option.map_eq_some_iff.mp hi
      rw [Array.getElem?_toList] at h1
      refine ⟨(Array.getElem?_eq_some_iff.mp h1).1, fun y H' ⟨e1, c', e2, e3⟩ => ?_⟩
      subst e1 e3
      rw [h1] at e2
      cases e2
      exact ⟨F, Ext.refl F, R2, .str _⟩
    · unfold signsD at hi
      rw [List.length_map] at hi
      exact hi
  · cases e2⟩
def rngD (lo : Int) (n : Nat) : List D := (List.range n).map fun (i : Nat) => .int (lo + i)
theorem src_rng {K : PySem.W.Frag} (lo : Int) (n : Nat) : Src K cs (fun _ _ _ => True) (Itr lo n) (rngD lo n) := by
  refine ⟨fun _ _ _ _ _ p => p, fun Z F H σ ρ i x R2 _ hi => ?_, fun Z F H σ ρ i R2 _ hi => ?_⟩
  · unfold rngD at hi
    rw [List.getElem?_map] at hi
    obtain ⟨j, h1, rfl⟩ := Option.map_eq_some_iff.mp hi
    obtain ⟨h2, h3⟩ := List.getElem?_eq_some_iff.mp h1
    rw [List.getElem_range] at h3
    subst h3
    rw [List.length_range] at h2
    refine ⟨h2, fun y H' ⟨e1, e2⟩ => ?_⟩
    subst e1 e2
    exact ⟨F, Ext.refl F, R2, .int _⟩
  · unfold rngD at hi
    rw [List.length_map, List.length_range] at hi
    exact hi
def rng1 : List D → Option (List D)
  | [.int j] => if -(2 ^ 62) ≤ j ∧ j < 2 ^ 62 then some (rngD 0 j.toNat) else none
  | _ => none
def rng2 : List D → Option (List D)
  | [.int i, .int j] => if (-(2 ^ 62) ≤ i ∧ i < 2 ^ 62) ∧ (-(2 ^ 62) ≤ j ∧ j < 2 ^ 62) then some (rngD i (j - i).toNat) else none
  | _ => none
theorem rps_int {K : PySem.W.Frag} {F : Hp} {v : V} {i : Int} (h : Rp K F v (.int i)) : v = .int i := by
  cases h
  rfl
theorem i_rng1 {fr : Nv → Option (List D)} (hg : Gl X "range") (hm : X.mg "range" = none) (ha : EPs cs X [a] fr) (hs : starEach [a] X.env = [(false, eval a X.env)] := by rfl) : EI cs X AnyP tg (.Call (.Name "range" p) [a] [] pos) (fun ρ => (fr ρ).bind rng1) :=
  ⟨pi_imp (pi_range1 hg hm ha.h hs) fun σ H R ⟨Z, F, ρ, ds, r, ef, q⟩ => by
    obtain ⟨d, e1, e2⟩ := Option.bind_eq_some_iff.mp ef
    refine ⟨Z, F, ρ, d, r, e1, fun vs F1 H1 x1 R1 r1 => ?_⟩
    unfold rng1 at e2
    split at e2
    · split at e2
      · rename_i hb
        cases e2
        cases r1 with
        | cons t u =>
          cases u
          cases rps_int t
          exact ⟨_, rfl, hb.1, hb.2, q _ _ F1 H1 x1 R1 trivial (fun _ _ _ _ _ p => p) (src_rng 0 _)⟩
      · cases e2
    · cases e2⟩
theorem i_rng2 {fr : Nv → Option (List D)} (hg : Gl X "range") (hm : X.mg "range" = none) (ha : EPs cs X [a, b] fr) (hs : starEach [a, b] X.env = [(false, eval a X.env), (false, eval b X.env)] := by rfl) (hs2 : starEach [b] X.env = [(false, eval b X.env)] := by rfl) :
    EI cs X AnyP tg (.Call (.Name "range" p) [a, b] [] pos) (fun ρ => (fr ρ).bind rng2) :=
  ⟨pi_imp (pi_range2 hg hm ha.h hs hs2) fun σ H R ⟨Z, F, ρ, ds, r, ef, q⟩ => by
    obtain ⟨d, e1, e2⟩ := Option.bind_eq_some_iff.mp ef
    refine ⟨Z, F, ρ, d, r, e1, fun vs F1 H1 x1 R1 r1 => ?_⟩
    unfold rng2 at e2
    split at e2
    · split at e2
      · rename_i hb
        cases e2
        cases r1 with
        | cons t u =>
          cases u with
          | cons t' u =>
            cases u
            cases rps_int t
            cases rps_int t'
            exact ⟨_, _, rfl, ⟨hb.1.1, hb.1.2, hb.2.1, hb.2.2⟩, q _ _ F1 H1 x1 R1 trivial (fun _ _ _ _ _ p => p) (src_rng _ _)⟩
      · cases e2
    · cases e2⟩
def enumD (ds : List D) : List D := (List.range ds.length).map fun (i : Nat) => .tuple [.int i, ds.getD i .none]
theorem i_enum {fr : Nv → Option (List D)} {elts : List Expr} {kk : Nat} {tpos : Pos} (hg : Gl X "enumerate") (hm : X.mg "enumerate" = none) (ha : EPs cs X [a] fr) (hs : starEach [a] X.env = [(false, eval a X.env)] := by rfl) :
    EI cs X AnyP (.Tuple elts kk tpos) (.Call (.Name "enumerate" p) [a] [] pos) (fun ρ => (fr ρ).bind fun ds => match ds with
      | [.list xs] => some (enumD xs)
      | _ => none) :=
  ⟨pi_imp (pi_enum hg hm ha.h hs) fun σ H R ⟨Z, F, ρ, ds, r, ef, q⟩ => by
    obtain ⟨d, e1, e2⟩ := Option.bind_eq_some_iff.mp ef
    refine ⟨Z, F, ρ, d, r, e1, fun vs F1 H1 x1 R1 r1 => ?_⟩
    split at e2
    · rename_i xs
      cases e2
      cases r1 with
      | cons t u =>
        cases u
        cases t with
        | lst s t =>
          refine ⟨_, _, rfl, R1.ex.sqL s, ?_⟩
          refine q _ (fun F _ _ => Ext F1 F) F1 H1 x1 R1 (Ext.refl F1) (fun _ _ _ _ _ p => p) ⟨fun _ _ _ _ x p => p.trans x, fun Z F H σ ρ i x R2 p hi => ?_, fun Z F H σ ρ i R2 p hi => ?_⟩
          · unfold enumD at hi
            rw [List.getElem?_map] at hi
            obtain ⟨j, h1, rfl⟩ := Option.map_eq_some_iff.mp hi
            obtain ⟨h2, h3⟩ := List.getElem?_eq_some_iff.mp h1
            rw [List.getElem_range] at h3
            subst h3
            rw [List.length_range] at h2
            have s2 := R2.ex.sqL (Ext.sqL p s)
            have hx : xs[i]? = some (xs.getD i .none) := by rw [List.getD_eq_getElem?_getD, List.getElem?_eq_getElem h2]; rfl
            obtain ⟨v, g1, g2⟩ := (t.ext p).get hx
            refine ⟨⟨_, v, s2, g1⟩, fun y H' ⟨T, z, e1, e2, e3, e4⟩ => ?_⟩
            have e5 := e4 _ s2
            rw [g1] at e5
            cases e5
            subst e1 e3
            obtain ⟨R3, x3, _⟩ := R2.new (o := .tup [.int (i : Nat), v]) e2
            exact ⟨_, x3, R3, .tup (.inl (.inl upd_same)) (.cons (.int _) (.cons (g2.ext x3) .nil))⟩
          · unfold enumD at hi
            rw [List.length_map, List.length_range] at hi
            exact ⟨_, R2.ex.sqL (Ext.sqL p s), by rw [t.len]; exact hi⟩
    · cases e2⟩
end

/-! ## what is stored -/
def tG (K : PySem.W.Frag) (cs : List Addr) (a : D → Nv → Option Nv) : TG := fun v σ H Q => ∃ Z F ρ d ρ', Rep K cs Z F H σ ρ ∧ Rp K F v d ∧ a d ρ = some ρ' ∧ ∀ σ' F' H', σ'.length = σ.length → Ext F F' → Rep K cs Z F' H' σ' ρ' → Q σ' H'
def tGs (K : PySem.W.Frag) (cs : List Addr) (a : List D → Nv → Option Nv) : TGs := fun vs σ H Q => ∃ Z F ρ ds ρ', Rep K cs Z F H σ ρ ∧ Rps K F vs ds ∧ a ds ρ = some ρ' ∧ ∀ σ' F' H', σ'.length = σ.length → Ext F F' → Rep K cs Z F' H' σ' ρ' → Q σ' H'
structure GD (cs : List Addr) (X : Cx) (tg : Expr) (a : D → Nv → Option Nv) : Prop where
  h : PG X tg (tG X.K cs a)
structure GDs (cs : List Addr) (X : Cx) (tg : List Expr) (a : List D → Nv → Option Nv) : Prop where
  h : PGs X tg (tGs X.K cs a)
section
variable {cs : List Addr} {X : Cx} {tg : Expr} {tgs : List Expr} {pos : Pos} {a : D → Nv → Option Nv} {as : List D → Nv → Option Nv}
theorem pg_imp {t t' : TG} (h : PG X tg t) (i : ∀ v σ H Q, t' v σ H Q → t v σ H Q) : PG X tg t' := ⟨fun pins s σ H v u Q I r q => h.run pins s σ H v u Q I r (i v σ H Q q)⟩
theorem pgs_imp {t t' : TGs} (h : PGs X tgs t) (i : ∀ v σ H Q, t' v σ H Q → t v σ H Q) : PGs X tgs t' := ⟨fun pins s σ H v u Q I r q => h.run pins s σ H v u Q I r (i v σ H Q q)⟩
def toNm (i : Nat) : D → Nv → Option Nv := fun d ρ => some (ρ.set i (some (.sh d)))
theorem g_name {i : Nat} {x : Str} (hN : X.N.Nodup) (hi : X.N[i]? = some x) (hx : Loc X.env.scope x) (hf : X.fn x = true ∨ X.env.scope.names.lookup x = some .local := by first | exact .inl rfl | exact .inr rfl | assumption) : GD cs X (.Name x pos) (toNm i) :=
  ⟨pg_imp (pg_name hN hi hx hf) fun v σ H Q ⟨Z, F, ρ, d, ρ', R, r, e, q⟩ => by
    cases e
    exact q _ F H (by rw [List.length_set]) (Ext.refl F) (R.setSh i r)⟩
def toNil : List D → Nv → Option Nv
  | [], ρ => some ρ
  | _, _ => none
def toCons (a : D → Nv → Option Nv) (as : List D → Nv → Option Nv) : List D → Nv → Option Nv
  | d :: r, ρ => (a d ρ).bind (as r)
  | _, _ => none
theorem gs_nil : GDs cs X [] toNil := ⟨pgs_imp pgs_nil fun v σ H Q ⟨Z, F, ρ, ds, ρ', R, r, e, q⟩ => by
  unfold toNil at e
  split at e
  · cases e
    cases r
    exact ⟨rfl, q σ F H rfl (Ext.refl F) R⟩
  · cases e⟩
theorem gs_cons (h1 : GD cs X tg a) (h2 : GDs cs X tgs as) (hs : (assignEach (tg :: tgs) X.env).map (·.2) = assign tg X.env :: (assignEach tgs X.env).map (·.2) := by rfl) : GDs cs X (tg :: tgs) (toCons a as) := ⟨pgs_imp (pgs_cons h1.h h2.h hs) fun v σ H Q ⟨Z, F, ρ, ds, ρ', R, r, e, q⟩ => by
  unfold toCons at e
  split at e
  · obtain ⟨ρ1, e1, e2⟩ := Option.bind_eq_some_iff.mp e
    cases r with
    | cons t u =>
      exact ⟨_, _, rfl, Z, F, ρ, _, ρ1, R, t, e1, fun σ1 F1 H1 l1 x1 R1 => ⟨Z, F1, ρ1, _, ρ', R1, u.ext x1, e2, fun σ2 F2 H2 l2 x2 R2 => q σ2 F2 H2 (l2.trans l1) (x1.trans x2) R2⟩⟩
  · cases e⟩
def toTu (n : Nat) (as : List D → Nv → Option Nv) : D → Nv → Option Nv := fun d ρ => match d with
  | .tuple ds => if ds.length = n then as ds ρ else none
  | _ => none
theorem g_tup {k n : Nat} (hc : X.calm = true) (h : GDs cs X tgs as) (hn : (assignEach tgs X.env).length = n := by rfl) (hst : (assignEach tgs X.env).findIdx? (·.1) = none := by rfl) : GD cs X (.Tuple tgs k pos) (toTu n as) := ⟨pg_imp (pg_tup hc h.h hn hst) fun v σ H Q ⟨Z, F, ρ, d, ρ', R, r, e, q⟩ => by
  unfold toTu at e
  split at e
  · split at e
    · rename_i hl
      cases r with
      | tup s t => exact ⟨_, _, rfl, R.ex.sqT s, by rw [t.len]; exact hl, Z, F, ρ, _, ρ', R, t, e, q⟩
    · cases e
  · cases e⟩
end

/-! ## for -/
def forS (a : D → Nv → Option Nv) (g : Nv → Option SR) : List D → Nv → Option SR
  | [], ρ => some (.nx ρ)
  | d :: ds, ρ => (a d ρ).bind fun ρ1 => (g ρ1).bind fun r => match r with
    | .nx ρ2 => forS a g ds ρ2
    | .ct ρ2 => forS a g ds ρ2
    | .bk ρ2 => some (.nx ρ2)
    | r => some r
section
variable {cs : List Addr} {X : Cx} {E : XK} {tg iter : Expr} {body : List Stmt} {pos : Pos} {a : D → Nv → Option Nv} {f : Nv → Option (List D)} {g : Nv → Option SR}
theorem sd_for (hp : PassesOwn (model X.prog X.w) X.A X.env X.xe) (hc : X.calm = true) (hi : EI cs X AnyP tg iter f) (hg : GD cs X tg a) (hb : SDs cs X E body g) (hs : ∀ x, foldedSetIterable iter X.env x = pure x := by intro _; rfl) :
    SD cs X E (.For tg iter body [] pos) (fun ρ => (f ρ).bind fun ds => forS a g ds ρ) := ⟨ps_imp (ps_for hp hc hi.h hg.h hb.h hs) fun D σ H ⟨Z, F, ρ, r, R, ef, w⟩ => by
  obtain ⟨ds, e1, e2⟩ := Option.bind_eq_some_iff.mp ef
  refine ⟨Z, F, ρ, ds, R, e1, fun J P F1 H1 x1 R1 p1 hP S => ?_⟩
  refine ⟨fun i m σ2 H2 => i + m = ds.length ∧ ∃ F2 ρ2, Ext F F2 ∧ σ2.length = σ.length ∧ Rep X.K cs Z F2 H2 σ2 ρ2 ∧ P F2 σ2 ρ2 ∧ forS a g (ds.drop i) ρ2 = some r, ⟨ds.length, by omega, F1, ρ, x1, rfl, R1, p1, by rw [List.drop_zero]; exact e2⟩, ?_⟩
  rintro i m σ2 H2 ⟨hm, F2, ρ2, x2, l2, R2, p2, e3⟩
  by_cases hlt : i < ds.length
  · have hd : ds.drop i = ds[i] :: ds.drop (i + 1) := List.drop_eq_getElem_cons hlt
    rw [hd] at e3
    obtain ⟨ρ3, e4, e5⟩ := Option.bind_eq_some_iff.mp e3
    obtain ⟨r1, e6, e7⟩ := Option.bind_eq_some_iff.mp e5
    obtain ⟨hgo, hy⟩ := S.go Z F2 H2 σ2 ρ2 i ds[i] R2 p2 (List.getElem?_eq_getElem hlt)
    refine .inr ⟨hgo, fun σ3 H3 => ∃ m', m' < m ∧ (i + 1) + m' = ds.length ∧ ∃ F3 ρ3, Ext F F3 ∧ σ3.length = σ.length ∧ Rep X.K cs Z F3 H3 σ3 ρ3 ∧ P F3 σ3 ρ3 ∧ forS a g (ds.drop (i + 1)) ρ3 = some r, fun σ3 H3 h => h, fun y H3 hyl => ?_⟩
    obtain ⟨F3, x3, R3, r3⟩ := hy y H3 hyl
    refine ⟨Z, F3, ρ2, ds[i], ρ3, R3, r3, e4, fun σ4 F4 H4 l4 x4 R4 => ⟨Z, F4, ρ3, r1, R4, e6, ?_⟩⟩
    have x24 : Ext F F4 := (x2.trans x3).trans x4
    have l42 : σ4.length = σ.length := l4.trans l2
    have p4 : ∀ {F5 : Hp} {σ5 : L2.St} {ρ5 : Nv}, Ext F4 F5 → P F5 σ5 ρ5 := fun {F5 σ5 ρ5} x5 => hP _ _ _ _ _ (S.mono _ _ _ _ ((x3.trans x4).trans x5) p2)
    cases r1 with
    | nx ρ5 => exact fun σ5 F5 H5 l5 x5 R5 => ⟨m - 1, by omega, by omega, F5, ρ5, x24.trans x5, l5.trans l42, R5, p4 x5, e7⟩
    | ct ρ5 => exact fun σ5 F5 H5 l5 x5 R5 => ⟨m - 1, by omega, by omega, F5, ρ5, x24.trans x5, l5.trans l42, R5, p4 x5, e7⟩
    | bk ρ5 =>
      cases e7
      exact fun σ5 F5 H5 l5 x5 R5 => w σ5 F5 H5 (l5.trans l42) (x24.trans x5) R5
    | rt d o ρ5 =>
      cases e7
      exact fun v σ5 F5 H5 l5 x5 R5 => w v σ5 F5 H5 (l5.trans l42) (x24.trans x5) R5
    | exc c =>
      cases e7
      exact fun F5 H5 x5 R5 => w F5 H5 (x24.trans x5) R5
  · have hd : ds.drop i = [] := List.drop_of_length_le (by omega)
    rw [hd] at e3
    cases e3
    exact .inl ⟨S.stop Z F2 H2 σ2 ρ2 i R2 p2 (by omega), w σ2 F2 H2 l2 x2 R2⟩⟩
end

/-! ## list comprehensions -/
def lcD (i : Nat) (t : Nv → Option Bool) (f : Nv → Option D) (ρ : Nv) : List D → Option (List D)
  | [] => some []
  | x :: xs => (t (ρ.set i (some (.sh x)))).bind fun b => if b = true then (f (ρ.set i (some (.sh x)))).bind fun y => (lcD i t f ρ xs).map (y :: ·) else lcD i t f ρ xs
structure ETs (cs : List Addr) (X : Cx) (ifs : List Expr) (f : Nv → Option Bool) : Prop where
  h : PTs X ifs (tPT X.K cs f)
section
variable {cs : List Addr} {X : Cx} {c : Expr} {ga : Nv → Option Bool}
theorem pts_imp {ifs : List Expr} {t t' : TT} (h : PTs X ifs t) (i : ∀ σ H Q, t' σ H Q → t σ H Q) : PTs X ifs t' := ⟨fun pins s σ H Q I q => h.run pins s σ H Q I (i σ H Q q)⟩
theorem ets_nil : ETs cs X [] (fun _ => some true) := ⟨pts_imp pts_nil fun σ H Q ⟨Z, F, ρ, b, R, e, q⟩ => by
  cases e
  exact q F H (Ext.refl F) R⟩
theorem ets_one (h : ET cs X c ga) : ETs cs X [c] ga := ⟨pts_one h.h⟩
end
section
variable {K : PySem.W.Frag} {cs : List Addr} {Z Z' F H F' H' : Hp} {σ : L2.St} {ρ : Nv} {i : Nat}
/-- behind the block -/
theorem Rep.restore {w : Option V} {c : Option Cell} (R : Rep K cs Z F H σ ρ) (hn : noMine ρ i = true) (hc : ∀ c', c = some c' → c'.mine = false) (x : Ext F F') (hz : ∀ a o, Z a = some o → Z' a = some o) (R' : Rep K cs Z' F' H' (σ.set i w) (ρ.set i c)) : Rep K cs Z F' H' σ ρ := by
  have nm : ∀ {j : Nat} {e : Cell}, ρ[j]? = some (some e) → e.mine = true → j ≠ i := fun {j e} h1 h2 z => by
    subst z
    unfold noMine at hn
    rw [h1] at hn
    simp [h2] at hn
  refine ⟨R.len, R'.fh, fun a o h => R'.zh a o (hz a o h), fun j e h1 h2 => ?_, fun j d h1 => ?_, R.inj, R.io, R'.tab⟩
  · have hj := nm h1 h2
    obtain ⟨a, q1, q2, q3, q4⟩ := R'.mine j e (by rw [List.getElem?_set_ne (Ne.symm hj)]; exact h1) h2
    rw [List.getElem?_set_ne (Ne.symm hj)] at q1
    refine ⟨a, q1, q2, ?_, q4⟩
    cases hza : Z a with
    | none => rfl
    | some o => rw [hz a o hza] at q3; cases q3
  · obtain ⟨v, q1, q2⟩ := R.sh j d h1
    exact ⟨v, q1, q2.ext x⟩
/-- an object of nobody's is set aside -/
theorem Rep.aside {p : Addr} {o : HO} (R : Rep K cs Z F H σ ρ) (hp : H p = some o) (fp : F p = none) (mp : ¬ Mine σ ρ p) : Rep K cs (upd Z p o) F H σ ρ := by
  refine ⟨R.len, R.fh, fun a u h => ?_, fun j e h1 h2 => ?_, R.sh, R.inj, R.io, R.tab⟩
  · by_cases ha : a = p
    · subst ha
      rw [upd_same] at h
      cases h
      exact ⟨hp, fp⟩
    · rw [upd_ne ha] at h
      exact R.zh a u h
  · obtain ⟨a, q1, q2, q3, q4⟩ := R.mine j e h1 h2
    have ha : a ≠ p := fun z => mp ⟨j, e, h1, h2, by rw [← z]; exact q1⟩
    exact ⟨a, q1, q2, by rw [upd_ne ha]; exact q3, q4⟩
/-- .. and changed there -/
theorem Rep.asideSet {p : Addr} {o o' : HO} (R : Rep K cs (upd Z p o) F H σ ρ) : Rep K cs (upd Z p o') F (upd H p o') σ ρ := by
  obtain ⟨hp, fp⟩ := R.zh p o upd_same
  refine ⟨R.len, fun a u h => ?_, fun a u h => ?_, fun j e h1 h2 => ?_, R.sh, R.inj, R.io, R.tab⟩
  · rw [upd_ne (ne_of_none h fp)]
    exact R.fh a u h
  · by_cases ha : a = p
    · subst ha
      rw [upd_same] at h ⊢
      exact ⟨h, fp⟩
    · rw [upd_ne ha] at h
      rw [upd_ne ha]
      exact R.zh a u (by rw [upd_ne ha]; exact h)
  · obtain ⟨a, q1, q2, q3, q4⟩ := R.mine j e h1 h2
    have ha : a ≠ p := fun z => by rw [z, upd_same] at q3; cases q3
    exact ⟨a, q1, q2, by rw [upd_ne ha] at q3 ⊢; exact q3, q4.ext (Ext.refl F) (upd_ne ha)⟩
end
section
variable {cs : List Addr} {X : Cx} {elt iter : Expr} {ifs : List Expr} {scope : Scope} {x : Str} {i : Nat} {px pos : Pos} {f : Nv → Option (List D)} {t : Nv → Option Bool} {fe : Nv → Option D}
def lcV (i : Nat) (f : Nv → Option (List D)) (t : Nv → Option Bool) (fe : Nv → Option D) : Nv → Option D := fun ρ => (f ρ).bind fun ds => if noMine ρ i = true ∧ ds.length ≤ 100000 then (lcD i t fe ρ ds).map .list else none
theorem lcD_len {t : Nv → Option Bool} {fe : Nv → Option D} {ρ : Nv} : ∀ {ds : List D} {ys : List D}, lcD i t fe ρ ds = some ys → ys.length ≤ ds.length
  | [], _, h => by
    cases h
    exact Nat.le_refl _
  | d :: ds, ys, h => by
    obtain ⟨b, _, h2⟩ := Option.bind_eq_some_iff.mp h
    split at h2
    · obtain ⟨y, _, h3⟩ := Option.bind_eq_some_iff.mp h2
      obtain ⟨zs, h4, rfl⟩ := Option.map_eq_some_iff.mp h3
      have := lcD_len h4
      simp only [List.length_cons]
      omega
    · have := lcD_len h2
      simp only [List.length_cons]
      omega
theorem e_lc (hc : X.calm = true) (hN : X.N.Nodup) (hix : X.N[i]? = some x) (hi : EI cs X SetP (.Name x px) iter f) (ok : BlkOk X.N X.env.scope scope [(x, i)])
    (hl : ∀ (s : Shared) (H : Hp) (C : Addr) (cl : List (Str × Addr)) (fp : List Addr), (X.blk s H scope (compEnvC scope cl C X.env) fp).env.scope.names.lookup x = some .local)
    (ht : ∀ (s : Shared) (H : Hp) (C : Addr) (cl : List (Str × Addr)) (fp : List Addr), ETs cs (X.blk s H scope (compEnvC scope cl C X.env) fp) ifs t)
    (he : ∀ (s : Shared) (H : Hp) (C : Addr) (cl : List (Str × Addr)) (fp : List Addr), EP' cs (X.blk s H scope (compEnvC scope cl C X.env) fp) elt fe) (hs : ∀ x, foldedSetIterable iter X.env x = pure x := by intro _; rfl) :
    EN cs X (.ListComp elt [⟨.Name x px, iter, ifs, 0⟩] scope pos) (lcV i f t fe) := by
  refine ⟨pe_imp (pe_lc (own := [(x, i)]) (g := gName i) (tt := tPT X.K cs t) (te := tP X.K cs fe) hc hN hi.h ok (fun s H C cl fp => pg_name (X := X.blk s H scope (compEnvC scope cl C X.env) fp) (i := i) hN hix (.inl (hl s H C cl fp)) (.inr (hl s H C cl fp))) (fun s H C cl fp => (ht s H C cl fp).h) (fun s H C cl fp => (he s H C cl fp).h) hs) ?_⟩
  rintro σ H Q ⟨Z, F, ρ, d, R, ef, q⟩
  obtain ⟨ds, e1, e2⟩ := Option.bind_eq_some_iff.mp ef
  split at e2
  · rename_i hb
    obtain ⟨hn, hdl⟩ := hb
    obtain ⟨ys, e3, rfl⟩ := Option.map_eq_some_iff.mp e2
    refine ⟨Z, F, ρ, ds, R, e1, fun J P F1 H1 x1 R1 p1 hP S D hD => ?_⟩
    -- D, the new list, is set aside
    obtain ⟨R2, fD, zD, mD⟩ := R1.made (o := .lst []) hD
    have R3 := R2.aside upd_same fD mD
    have R4 : Rep X.K cs (upd Z D (.lst [])) F1 (upd H1 D (.lst [])) (σ.set i none) (ρ.set i none) := R3.drop i none
    have pS : P F1 (σ.set i none) (ρ.set i none) := hP _ _ _ _ _ _ hn p1
    refine ⟨fun k m H2 => k + m = ds.length ∧ ∃ F2 acc zs rest, Ext F1 F2 ∧ Rep X.K cs (upd Z D (.lst acc)) F2 H2 (σ.set i none) (ρ.set i none) ∧ P F2 (σ.set i none) (ρ.set i none) ∧ Rps X.K F2 acc zs ∧ acc.length ≤ k ∧ lcD i t fe ρ (ds.drop k) = some rest ∧ ys = zs ++ rest,
      ⟨ds.length, by omega, F1, [], [], ys, Ext.refl F1, R4, pS, .nil, Nat.le_refl _, by rw [List.drop_zero]; exact e3, rfl⟩, ?_⟩
    rintro k m H2 ⟨hm, F2, acc, zs, rest, x2, R5, p5, r5, la, e5, hy⟩
    by_cases hlt : k < ds.length
    · have hd : ds.drop k = ds[k] :: ds.drop (k + 1) := List.drop_eq_getElem_cons hlt
      rw [hd] at e5
      obtain ⟨b, e6, e7⟩ := Option.bind_eq_some_iff.mp e5
      obtain ⟨hgo, hyl⟩ := S.go _ F2 H2 _ _ k ds[k] R5 p5 (List.getElem?_eq_getElem hlt)
      refine .inr ⟨hgo, fun H3 => ∃ m', m' < m ∧ (k + 1) + m' = ds.length ∧ ∃ F3 acc zs rest, Ext F1 F3 ∧ Rep X.K cs (upd Z D (.lst acc)) F3 H3 (σ.set i none) (ρ.set i none) ∧ P F3 (σ.set i none) (ρ.set i none) ∧ Rps X.K F3 acc zs ∧ acc.length ≤ k + 1 ∧ lcD i t fe ρ (ds.drop (k + 1)) = some rest ∧ ys = zs ++ rest, fun H3 h => h, fun v H3 hyv => ?_⟩
      obtain ⟨F3, x3, R6, r6⟩ := hyl v H3 hyv
      have R7 := R6.setSh i r6
      have sset : ∀ w : Option V, (σ.set i none).set i w = σ.set i w := fun w => by rw [List.set_set]
      have rset : ∀ c : Option Cell, (ρ.set i none).set i c = ρ.set i c := fun c => by rw [List.set_set]
      rw [sset, rset] at R7
      refine ⟨?_, ?_⟩
      · show ((σ.set i none).set i (some v)).set i none = σ.set i none
        rw [List.set_set, List.set_set]
      · have hw : List.set (wipe σ (List.map (fun x => x.snd) [(x, i)])) i (some v) = σ.set i (some v) := sset (some v)
        rw [hw]
        refine ⟨_, F3, _, b, R7, e6, fun F4 H4 x4 R8 => ?_⟩
        have back : ∀ {F5 H5 : Hp} {acc' : List V}, Rep X.K cs (upd Z D (.lst acc')) F5 H5 (σ.set i (some v)) (ρ.set i (some (.sh ds[k]))) → Rep X.K cs (upd Z D (.lst acc')) F5 H5 (σ.set i none) (ρ.set i none) := fun {F5 H5 acc'} r => by
          have := r.drop i none
          rw [List.set_set, List.set_set] at this
          exact this
        by_cases hb : b = true
        · rw [if_pos hb] at e7
          show if b = true then _ else _
          rw [if_pos hb]
          obtain ⟨y, e8, e9⟩ := Option.bind_eq_some_iff.mp e7
          obtain ⟨rest', e10, rfl⟩ := Option.map_eq_some_iff.mp e9
          refine ⟨_, F4, _, y, R8, e8, fun u F5 H5 x5 R9 r9 => ⟨acc, (R9.zh D _ upd_same).1, ?_, ?_⟩⟩
          · have : (100000 : Nat) ≤ sizeLine := by decide
            omega
          · have x25 : Ext F2 F5 := (x3.trans x4).trans x5
            refine ⟨m - 1, by omega, by omega, F5, acc ++ [u], zs ++ [y], rest', x2.trans x25, back R9.asideSet, S.mono _ _ _ _ x25 p5, (r5.ext x25).app (.cons r9 .nil), ?_, e10, ?_⟩
            · rw [List.length_append]
              simp only [List.length_cons, List.length_nil]
              omega
            · rw [hy, List.append_assoc]
              rfl
        · rw [if_neg hb] at e7
          show if b = true then _ else _
          rw [if_neg hb]
          have x24 : Ext F2 F4 := x3.trans x4
          exact ⟨m - 1, by omega, by omega, F4, acc, zs, rest, x2.trans x24, back R8, S.mono _ _ _ _ x24 p5, r5.ext x24, by omega, e7, hy⟩
    · have hd : ds.drop k = [] := List.drop_of_length_le (by omega)
      rw [hd] at e5
      cases e5
      rw [List.append_nil] at hy
      refine .inl ⟨S.stop _ F2 H2 _ _ k R5 p5 (by omega), ?_⟩
      obtain ⟨hDH, hDF⟩ := R5.zh D _ upd_same
      have RB : Rep X.K cs Z F2 H2 σ ρ := R1.restore hn (fun _ z => by cases z) x2 (fun a o h => by
        have ha : a ≠ D := ne_of_none h zD
        rw [upd_ne ha]
        exact h) R5
      refine q D F2 H2 (x1.trans x2) RB hDF zD mD ⟨acc, hDH, ?_⟩
      rw [hy]
      exact r5
  · cases e2
end
end DS

namespace GxA
open PySem L2 GenW
open PyProof.Rows (AllBare)

/-! ## all(elt for x in it): the generator runs while all asks for it -/
/-- the generator's own frame -/
def gcx (X : Cx) (A : Around) (s0 : Shared) (H0 : Hp) (env : Env) (ex : List Addr) (pn : List (Addr × Obj)) (N : List Str) : Cx :=
  { X with A := A, N := N, s_0 := s0, H_0 := H0, env := env, outer := X.stack, stack := env :: X.stack, ex := ex, fn := fun _ => false, calm := true, pn := pn, xe := fun _ _ => False }
structure GScp (scope : Scope) (x : Str) : Prop where
  kind : scope.kind = .function
  co : scope.isCoroutine = false
  cell : ∀ y ∈ scope.names, y.2 ≠ .cell
  free : ∀ y ∈ scope.names, y.2 ≠ .free
  dot : scope.names.lookup (".0" : Str) = some NameKind.local
  loc : scope.names.lookup x = some .local
theorem lk_mem {α : Type} : ∀ {l : List (Str × α)} {n : Str} {k : α}, l.lookup n = some k → (n, k) ∈ l
  | (m, v) :: r, n, k, h => by
    rw [List.lookup_cons] at h
    split at h
    · rename_i e
      cases h
      rw [eq_of_beq e]
      exact List.mem_cons_self
    · exact List.mem_cons_of_mem _ (lk_mem h)
section
variable {X : Cx} {pins : List (Addr × Obj)} {σ : L2.St} {H : Hp} {s s' : Shared}
theorem Inv.gens (I : Inv X pins σ H s) (ho : s'.os = s.os) (hh : s'.heap = s.heap) (hb : AllBare s'.gens) : Inv X pins σ H s' :=
  ⟨I.ok, ho.trans I.os, hb, by rw [hh]; exact I.base, by rw [hh]; exact I.loc, by rw [hh]; exact I.cell, I.free, I.freeC, by rw [hh]; exact I.pin, by rw [hh]; exact I.hok, I.len⟩
end
abbrev gexp (elt iter : Expr) (x : Str) (px gpos : Pos) (scope : Scope) : Expr := .GeneratorExp elt [⟨.Name x px, iter, [], 0⟩] scope gpos
section
variable {A : Around} {elt iter : Expr} {x : Str} {px gpos : Pos} {scope : Scope} {it : Addr} {env : Env}
theorem over_loop_handled : (A.over (.compLoop (gexp elt iter x px gpos scope) 0 (.ref it) .none env) []).handled = A.handled := rfl
theorem over_loop_depth : (A.over (.compLoop (gexp elt iter x px gpos scope) 0 (.ref it) .none env) []).depth = A.depth + 1 := rfl
theorem over_loop_units : (A.over (.compLoop (gexp elt iter x px gpos scope) 0 (.ref it) .none env) []).units ≤ A.units + 3 := Nat.le_of_eq rfl
theorem over_loop_frames {l : List Env} (h : A.frames = some l) : (A.over (.compLoop (gexp elt iter x px gpos scope) 0 (.ref it) .none env) []).frames = some (env :: l) := by
  simp [Around.over, h, pushEnvs, envsOf, Code.envs, Code.env?, Code.isFrame, Code.weight, Code.frames, Code.isInlined]
end
abbrev gC (X : Cx) (A2 : Around) (elt iter : Expr) (x : Str) (px gpos : Pos) (scope : Scope) (it : Addr) (s0 : Shared) (H0 : Hp) (env : Env) (fp : List Addr) (pn : List (Addr × Obj)) : Cx :=
  gcx X (A2.over (.compLoop (gexp elt iter x px gpos scope) 0 (.ref it) .none env) []) s0 H0 env fp pn [x]
/-- what is asked: W goes on turn by turn -/
def tAllG (P : Addr) (wi : TI) (te : TE) : TE := fun σ H Q => wi σ H fun J H1 => H1 P = some (.ext (DS.tabP P)) ∧ ∃ W : Nat → Nat → Hp → Prop, (∃ m, W 0 m H1) ∧ ∀ i m H2, W i m H2 →
  (J.stop i H2 ∧ Q (.bl true) H2) ∨ (J.go i H2 ∧ ∀ y H3, J.yld i H2 y H3 → te [some y] H3 fun v H4 => ∃ b, v = .bl b ∧ if b = true then ∃ m', m' < m ∧ W (i + 1) m' H4 else Q (.bl false) H4)

section
variable {X : Cx} {elt iter : Expr} {x : Str} {px gpos : Pos} {scope : Scope} {wi : TI} {te : TE} {k : Nat}

/-- the protocol: True goes on, False is the end -/
def YB (X : Cx) (pn : List (Addr × Obj)) (Gx : Cx) (Q : VK) : Protocol := fun n s₀ v s kap => ∃ b σ H, v = .bool b ∧ Inv Gx [] σ H s ∧ (b = false → Q (.bl false) H) ∧
  (b = true → ∀ s', s'.os = s.os → s'.heap = s.heap → AllBare s'.gens → kap (.send .none) s')
def RB (Gx : Cx) (Q : VK) : GenEnd := fun n s₀ r s => r = .ok .next ∧ (∃ σ H, Inv Gx [] σ H s ∧ Q (.bl true) H)

theorem seg_turns {A2 : Around} {s0 : Shared} {H0 : Hp} {env : Env} {fp : List Addr} {pn : List (Addr × Obj)} {it : Addr} {tn : Nat → Heap → Prop} {J : It} {Q : VK} {W : Nat → Nat → Hp → Prop}
    (S : GScp scope x) (henv : env.scope = scope)
    (hel : PE (gC X A2 elt iter x px gpos scope it s0 H0 env fp pn) elt te)
    (T : Turn X.prog X.w X.K (.Name x px) J fp it tn)
    (hfp : ∀ {H : Hp}, (∀ b ∈ fp, H b = none) → ∀ b ∈ fp, FpOk (gC X A2 elt iter x px gpos scope it s0 H0 env fp pn) [] H b)
    (turn : ∀ i m H2, W i m H2 → (J.stop i H2 ∧ Q (.bl true) H2) ∨ (J.go i H2 ∧ ∀ y H3, J.yld i H2 y H3 → te [some y] H3 fun v H4 => ∃ b, v = .bl b ∧ if b = true then ∃ m', m' < m ∧ W (i + 1) m' H4 else Q (.bl false) H4)) :
    ∀ (n i m : Nat) (s₀ s : Shared) (σ : L2.St) (H : Hp), m < n → W i m H → Inv (gC X A2 elt iter x px gpos scope it s0 H0 env fp pn) [] σ H s → tn i s.heap → (∀ b ∈ fp, H b = none) →
      Seg (model X.prog X.w) A2 (RB (gC X A2 elt iter x px gpos scope it s0 H0 env fp pn) Q) (YB X pn (gC X A2 elt iter x px gpos scope it s0 H0 env fp pn) Q) n s₀
        (.compLoop (gexp elt iter x px gpos scope) 0 (.ref it) .none env) ((model X.prog X.w).den (.compLoop (gexp elt iter x px gpos scope) 0 (.ref it) .none env)) [] s := by
  intro n
  induction n with
  | zero => intro i m s₀ s σ H hm; exact absurd hm (Nat.not_lt_zero m)
  | succ n ih =>
    intro i m s₀ s σ H hm hw I st hf
    have kx : env.kindOf x = some .local := by
      show env.scope.names.lookup x = _
      rw [henv]
      exact S.loc
    show Seg _ A2 _ _ _ s₀ _ ((compTurn (gexp elt iter x px gpos scope) 0 (.ref it) .none env).onRaise (leaving env)) [] s
    rw [compTurn_gen, Sem.onRaise_eq_wrap]
    refine seg_bind_wrap (wpAny_standAt ?_)
    rcases turn i m H hw with ⟨hstop, hq⟩ | ⟨hgo, hgoes⟩
    · refine seg_bind_wrap (thn (T.done (gC X A2 elt iter x px gpos scope it s0 H0 env fp pn) rfl rfl rfl rfl i [] s σ H _ I (hfp hf) st hstop) fun r s1 ⟨hr, I1⟩ => ?_)
      subst hr
      exact seg_end (.ok .next) ⟨rfl, σ, H, I1, hq⟩
    · refine seg_bind_wrap (thn (T.item (gC X A2 elt iter x px gpos scope it s0 H0 env fp pn) rfl rfl rfl rfl i [] s σ H _ I (hfp hf) st hgo) fun r s1 ⟨u, hr, h1⟩ => ?_)
      subst hr
      refine seg_bind_wrap (thn h1 fun _ s2 ⟨y, H2, I2, ry, hy, st2, hf2⟩ => ?_)
      have I2' := I2.pinned (hfp hf2) (T.obj _ _ st2)
      have hlen : σ.length = 1 := I2.len
      refine seg_bind_wrap (wpAny_mono ((pg_name (i := 0) (X := gC X A2 elt iter x px gpos scope it s0 H0 env fp pn) (List.nodup_cons.mpr ⟨by simp, List.nodup_nil⟩) rfl (.inl kx) (.inr kx)).run _ s2 σ H2 y u (fun σ' H' => σ' = [some y] ∧ H' = H2) I2' ry ?_) (fun _ s3 ⟨σ3, H3, I3, e1, e2⟩ => ?_) fun _ _ z => False.elim z)
      · match σ, hlen with
        | [z], _ => exact ⟨rfl, rfl⟩
      subst e1 e2
      simp only [List.forIn_nil]
      refine seg_bind_wrap (wpAny_pure ?_)
      simp only [if_true]
      have hyo : ∀ v, yieldOut env v = yieldValue v := fun v => by simp only [yieldOut, henv, S.co, Bool.false_eq_true, if_false]
      simp only [hyo]
      rw [Sem.bind_eq_wrap', Sem.bind_eq_wrap', Sem.wrap_wrap, Sem.wrap_wrap]
      refine seg_wrap (wpAny_mono (hel.run _ s3 [some y] _ _ I3 (hgoes y _ hy)) (fun v s4 ⟨v', H4, I4, rv, b, eb, hb⟩ => ?_) fun _ _ z => False.elim z)
      subst eb
      obtain rfl : v = Value.bool b := rv
      have st4 : tn (i + 1) s4.heap := T.keep _ _ _ st2 fun c hc o e => (I4.pin (c, o) (List.mem_append_right _ (List.mem_append_right _ (mem_pinsAt hc e)))).1
      have hf4 : ∀ c ∈ fp, H4 c = none := fun c hc => by
        obtain ⟨o, ho, _⟩ := T.obj _ _ st2 c hc
        exact (I4.pin (c, o) (List.mem_append_right _ (List.mem_append_right _ (mem_pinsAt hc ho)))).2.1
      have I5 := I4.unpinned
      refine seg_at (seg_yield rfl rfl rfl ⟨b, [some y], H4, rfl, I5, fun hbf => ?_, fun hbt s' ho hh hba => ?_⟩)
      · rw [hbf, if_neg Bool.false_ne_true] at hb
        exact hb
      · rw [hbt, if_pos rfl] at hb
        obtain ⟨m', hm', hw'⟩ := hb
        exact seg_again rfl (ih (i + 1) m' s' s' [some y] H4 (by omega) hw' (Inv.gens I5 ho hh hba) (by rw [hh]; exact st4) hf4)

theorem seg_first {A2 : Around} {env : Env} {fp : List Addr} {it : Addr} {tn : Nat → Heap → Prop} {J : It} {R : GenEnd} {Y : Protocol} {n : Nat} {s₀ s : Shared}
    (T : Turn X.prog X.w X.K (.Name x px) J fp it tn) (st : tn 0 s.heap)
    (loop : Seg (model X.prog X.w) A2 R Y n s₀ (.compLoop (gexp elt iter x px gpos scope) 0 (.ref it) .none env) ((model X.prog X.w).den (.compLoop (gexp elt iter x px gpos scope) 0 (.ref it) .none env)) [] s) :
    Seg (model X.prog X.w) A2 R Y n s₀ (.compStart (gexp elt iter x px gpos scope) 0 (.ref it) .none env) ((model X.prog X.w).den (.compStart (gexp elt iter x px gpos scope) 0 (.ref it) .none env)) [] s := by
  show Seg _ A2 _ _ _ s₀ _ ((compStart (gexp elt iter x px gpos scope) 0 (.ref it) .none env).onRaise (leaving env)) [] s
  unfold compStart
  rw [Sem.onRaise_eq_wrap]
  show Seg _ A2 _ _ _ s₀ _ ((ask >>= _).wrap _ _ _ _) [] s
  refine seg_bind_wrap (wpAny_askSetting ?_)
  split
  · exact seg_again rfl loop
  · first
      | exact seg_bind_wrap (wpAny_rule (seg_bind_wrap (wpAny_standAt (seg_bind_wrap (T.self _ 0 s _ _ st (seg_again rfl loop))))))
      | (refine seg_bind_wrap (wpAny_rule ?_); show Seg _ A2 _ _ _ s₀ _ ((standAt iter.pos >>= _).wrap _ _ _ _) [] s; exact seg_bind_wrap (wpAny_standAt (seg_bind_wrap (T.self _ 0 s _ _ st (seg_again rfl loop)))))

theorem all_turns {Gx : Cx} {pn : List (Addr × Obj)} {pins : List (Addr × Obj)} {σ : L2.St} {Q : VK} {a : Addr} {g : Nat} (hh : X.A.handled = none) (hd : X.A.depth < recursionLimit)
    (hpin : ∀ (σ' : L2.St) (H' : Hp) (s' : Shared), Inv Gx [] σ' H' s' → s'.heap.IsGen a g) (back : ∀ (σ' : L2.St) (H' : Hp) (s' : Shared), Inv Gx [] σ' H' s' → Inv X pins σ H' s') :
    ∀ (n : Nat) (s : Shared) (gs : GenState), s.heap.IsGen a g → s.heap.NoLimit → s.gens[g]? = some gs → gs.Goes (model X.prog X.w) X.A.in1.in1 (RB Gx Q) (YB X pn Gx Q) n (.send .none) (s.setGen g .running) →
      codeAny (model X.prog X.w) X.A (.builtin "all.loop" ⟨[.ref a], []⟩) (fun r s' => match r with
        | .ok (.ret v) => EP X pins σ Q v s'
        | .ok _ => False
        | .error e => X.xe e s') s := by
  intro n
  induction n with
  | zero =>
    intro s gs hg hl hgs hgo
    refine codeAny_builtin PySem.F.entry_all_loop ?_
    rw [Around.under_plainId PySem.F.plain_all_loop _]
    show wpAny _ X.A.in1 (pyNext (.ref a) >>= _) _ _ s
    refine wpAny_bind (wpAny_pyNext_genexpQ (A := X.A.in1) (P := fun _ _ s1 => ∃ σ1 H1, Inv Gx [] σ1 H1 s1 ∧ Q (.bl true) H1) hh hl hd hg hgs hgo (fun v s₁ gs' hb hv => ?_) (fun s₁ hp h' hk => ?_))
    · obtain ⟨b, σ1, H1, rfl, I1, hF, hT⟩ := hv
      refine wpAny_bind (wpAny_holding (wpAny_truthy_bool ?_))
      refine wpAny_bind (wpAny_letGo ?_)
      cases b with
      | true => exact (hT rfl s₁ rfl rfl I1.bare).elim
      | false =>
        simp only [Bool.false_eq_true, if_false]
        refine wpAny_bind (wpAny_rule (wpAny_pure ?_))
        exact ⟨.bl false, H1, back _ _ _ (Inv.gens I1 rfl rfl (allBare_setGen I1.bare hb)), rfl, hF rfl⟩
    · obtain ⟨σ1, H1, I1, q1⟩ := hp
      refine wpAny_bind (wpAny_rule (wpAny_pure ?_))
      have I2 := Inv.gens (s' := s₁.setGen g .finished) I1 rfl rfl (allBare_setGen I1.bare rfl)
      exact ⟨.bl true, H1, back _ _ _ (I2.kept (t' := (s₁.setGen g .finished).toks) hk), rfl, q1⟩
  | succ n ih =>
    intro s gs hg hl hgs hgo
    have hgl : g < s.gens.size := (Array.getElem?_eq_some_iff.mp hgs).1
    refine codeAny_builtin PySem.F.entry_all_loop ?_
    rw [Around.under_plainId PySem.F.plain_all_loop _]
    show wpAny _ X.A.in1 (pyNext (.ref a) >>= _) _ _ s
    refine wpAny_bind (wpAny_gsz (n := g + 1) hgl (wpAny_pyNext_genexpQ (A := X.A.in1) (P := fun _ _ s1 => ∃ σ1 H1, Inv Gx [] σ1 H1 s1 ∧ Q (.bl true) H1) hh hl hd hg hgs hgo (fun v s₁ gs' hb hv => ?_) (fun s₁ hp h' hk => ?_)))
    · intro hsz
      obtain ⟨b, σ1, H1, rfl, I1, hF, hT⟩ := hv
      refine wpAny_bind (wpAny_holding (wpAny_truthy_bool ?_))
      refine wpAny_bind (wpAny_letGo ?_)
      have hgl1 : g < s₁.gens.size := by
        have h2 : (s₁.setGen g gs').gens.size = s₁.gens.size := setGen_size s₁ g gs'
        have h3 : g + 1 ≤ (s₁.setGen g gs').gens.size := hsz
        omega
      have I2 := Inv.gens (s' := s₁.setGen g gs') I1 rfl rfl (allBare_setGen I1.bare hb)
      cases b with
      | true =>
        simp only [if_true]
        refine wpAny_pure ⟨plainId_quiet PySem.F.plain_all_loop _, ih _ gs' (hpin _ _ _ I2) I2.nolimit (setGen_at hgl1) ?_⟩
        exact hT rfl _ rfl rfl (allBare_setGen (allBare_setGen I1.bare hb) rfl)
      | false =>
        simp only [Bool.false_eq_true, if_false]
        refine wpAny_bind (wpAny_rule (wpAny_pure ?_))
        exact ⟨.bl false, H1, back _ _ _ I2, rfl, hF rfl⟩
    · intro _
      obtain ⟨σ1, H1, I1, q1⟩ := hp
      refine wpAny_bind (wpAny_rule (wpAny_pure ?_))
      have I2 := Inv.gens (s' := s₁.setGen g .finished) I1 rfl rfl (allBare_setGen I1.bare rfl)
      exact ⟨.bl true, H1, back _ _ _ (I2.kept (t' := (s₁.setGen g .finished).toks) hk), rfl, q1⟩

theorem clo_none {cells : List (Str × Addr)} : ∀ {names : List (Str × NameKind)} {acc : List (Str × Addr)}, (∀ y ∈ names, y.2 ≠ .free) → cloFrom cells names acc = acc
  | [], acc, _ => rfl
  | (n, k) :: r, acc, h => by
    have hk : k ≠ .free := h (n, k) List.mem_cons_self
    unfold cloFrom
    cases k <;> first | exact absurd rfl hk | (exact clo_none fun y hy => h y (List.mem_cons_of_mem _ hy))

/-- the generator's frame at its begin -/
theorem inv_gen {pins : List (Addr × Obj)} {σ : L2.St} {H : Hp} {s2 s5 : Shared} {A' : Around} {env : Env} {fp : List Addr} {a : Addr} {go : Obj} (I : Inv X pins σ H s2) (S : GScp scope x) (henv : env.scope = scope) (hglob : env.globals = X.env.globals) (hblt : env.builtins = builtinsNs) (hcells : env.cells = [])
    (hfr : env.frame = some env.locals) (hlo : s2.heap.objs.size ≤ env.locals) (hA : A'.handled = none) (hAf : A'.frames = some (env :: X.stack)) (hfp : ∀ b ∈ fp, FpOk X pins H b ∧ b < s2.heap.objs.size)
    (hos : s5.os = s2.os) (hba : AllBare s5.gens) (hun : Un (frs X.stack) fp H H s2.heap s5.heap) (hok : HOk X.prog X.w H s5.heap) (hns : ∃ m, s5.heap.Ns env.locals m)
    (ha : s5.heap.get? a = some go) (hag : env.locals < a) (hgo : ∀ v, go.data ≠ .cell v) :
    Inv (gcx X A' s2 H env fp [(a, go)] [x]) [] [none] H s5 := by
  have noc : ∀ y c, env.cells.lookup y = some c → False := fun y c e => by
    rw [hcells] at e
    cases e
  have hn : ∀ {b : Addr}, s2.heap.objs.size ≤ b → H b = none := fun {b} hb => I.hok.fresh hb
  have nost : ∀ {b : Addr}, s2.heap.objs.size ≤ b → b ∉ frs X.stack := fun {b} hb hm => by
    rcases List.mem_cons.mp (I.stkSub b hm) with z | z
    · have := I.lt
      rw [z] at hb
      exact absurd (Nat.lt_of_lt_of_le this hb) (Nat.lt_irrefl _)
    · exact I.nofs hb z
  refine ⟨⟨I.ok.mod, ?_, hglob.trans I.ok.glob, hblt, hlo, fun y z c h1 _ => (noc y c h1).elim, fun y hy => ?_, fun y c _ h => (noc y c h).elim, fun _ => hA, hAf, .inr ⟨rfl, hfr⟩, fun b hb => ⟨?_, fun y c h => (noc y c h).elim⟩, I.bs, Nat.le_trans I.ok.bsz I.sz, fun b o e hb => ?_, fun b hb hm => ?_, I.stack, I.stkFree⟩,
    hos, hba, hun, ?_, fun y c h => (noc y c h).elim, hn hlo, fun y c h => (noc y c h).elim, fun p hp => ?_, hok, rfl⟩
  · show env.scope.kind = _
    rw [henv]
    exact S.kind
  · have hy : env.scope.names.lookup y = some .cell ∨ env.scope.names.lookup y = some .free := hy
    rw [henv] at hy
    rcases hy with hy | hy
    · exact absurd rfl (S.cell _ (lk_mem hy))
    · exact absurd rfl (S.free _ (lk_mem hy))
  · exact Nat.ne_of_lt (Nat.lt_of_lt_of_le (hfp b hb).2 hlo)
  · obtain ⟨⟨_, _, _, h4, _⟩, _⟩ := hfp b hb
    rcases h4 with z | z
    · exact I.ok.noex b o e z
    · have := Heap.lt_size (I.ok.bs b o e).1
      exact absurd (Nat.lt_of_lt_of_le this z) (Nat.lt_irrefl _)
  · obtain ⟨⟨_, h2, h3, _⟩, _⟩ := hfp b hb
    rcases List.mem_cons.mp (I.stkSub b hm) with z | z
    · exact h2 z
    · exact h3 z
  · obtain ⟨m, hm⟩ := hns
    refine ⟨m, hm, fun i y v e1 e2 => ?_⟩
    cases i with
    | zero => cases e2
    | succ i => simp at e2
  · rw [List.append_nil] at hp
    rw [List.mem_singleton.mp hp]
    have hs : s2.heap.objs.size ≤ a := Nat.le_trans hlo (Nat.le_of_lt hag)
    exact ⟨ha, hn hs, Nat.ne_of_gt hag, nost hs, hgo⟩

theorem room_gen {A2 : Around} {k : Nat} (hr : Room (k + 1) A2) (env : Env) (it : Addr) : Room k (A2.in1.in1.over (.compLoop (gexp elt iter x px gpos scope) 0 (.ref it) .none env) []) := by
  refine ⟨hr.hd, ?_, ?_⟩
  · have := hr.dp
    rw [over_loop_depth]
    show A2.depth + 1 + 3 * k + 5 < _
    omega
  · have h1 := hr.un
    have h2 := over_loop_units (A := A2.in1.in1) (elt := elt) (iter := iter) (x := x) (px := px) (gpos := gpos) (scope := scope) (it := it) (env := env)
    have h3 : A2.in1.in1.units = A2.units + 2 := rfl
    omega
theorem pe_allG {c P : Addr} {p pos : Pos} (hr : Room (k + 1) X.A) (hc : X.calm = true) (hg : Gl X "all") (hm : X.mg "all" = none) (hb : bootBuiltins "all" = some (.builtin "all")) (TB : GxR.TabB X.base X.mg c P) (hcode : X.env.code = .ref c) (S : GScp scope x) (hi : PI X (.Name x px) iter wi)
    (hel : ∀ (A' : Around) (s0 : Shared) (H0 : Hp) (C : Addr) (code : Value) (ex : List Addr) (pn : List (Addr × Obj)), Room k A' → PE (gcx X A' s0 H0 (genEnv scope [] C code builtinsNs X.env) ex pn [x]) elt te)
    (hs : ∀ v, genFold iter X.env v = pure v)
    (he : starEach [gexp elt iter x px gpos scope] X.env = (false, eval (gexp elt iter x px gpos scope) X.env) :: starEach [] X.env := by rfl) :
    PE X (.Call (.Name "all" p) [gexp elt iter x px gpos scope] [] pos) (tAllG P wi te) := by
  refine ⟨fun pins s σ H Q I h => ?_⟩
  refine wpAny_Call_Name_kw (ld_blt I hg hm hb ?_)
  refine PyProof.Rows.callWith_builtin1 ?_ he (by rfl)
  rw [he]
  show wpAny _ _ (spliced ((false, eval (gexp elt iter x px gpos scope) X.env) :: backTo pos (starEach [] X.env))) _ _ s
  refine Calls.spliced_cons ?_
  have clo : closureFor scope X.env = pure [] := by
    rw [closure_ok (fun y hy z => absurd z (S.free y hy)), clo_none S.free]
  refine wpAny_GeneratorExp_make S.co clo S.cell S.dot S.kind hr.depth ?_ hs
  refine thn (hi.run pins s σ H _ I h) fun xv s1 h1 => thn h1 fun itv s2 h2 => ?_
  obtain ⟨it, fp, tn, J, H2, rfl, I2, T, st2, hfp, hP, W, ⟨m0, hw0⟩, turn⟩ := h2
  refine ⟨I2.nolimit, ?_⟩
  obtain ⟨⟨ps, hPs, ht⟩, _⟩ := (show ObjOk X.prog X.w H2 s2.heap P (.ext (DS.tabP P)) from I2.hok P _ hP)
  have cd : PySem.W.CodeHd s2.heap c P := TB.code.keeps I2.bk
  have cont : ∀ (code : Value) (h3 : Heap) (tk : Nat) (ps' : Array Value), Heap.ExtBut P s2.heap h3 → s2.heap.objs.size ≤ h3.objs.size → h3.get? P = some { cls := .none, data := .fields ps' } → TriplesOk ps'.toList →
      wpAny (model X.prog X.w) X.A (builtinsFor X.env.globals X.env.builtins) (fun bi s₄ =>
        ∀ h', h'.Ns s₄.heap.objs.size (fun y => if y = ".0" then some (Value.ref it) else none) → Heap.SameBut s₄.heap.objs.size (s₄.heap.push { cls := .type "frame", data := .dict #[] }) h' →
          wpAny (model X.prog X.w) X.A (spliced (backTo pos (starEach [] X.env))) (fun us s9 => wpAny (model X.prog X.w) X.A (call (.builtin "all") (.ref h'.objs.size :: us)) (EP X pins σ Q) X.xe s9) X.xe
            { s₄ with
              gens := s₄.gens.push (.fresh (.compStart (gexp elt iter x px gpos scope) 0 (.ref it) .none (genEnv scope [] s₄.heap.objs.size code bi X.env))),
              toks := s₄.toks + 1 + 1 + 1,
              heap := h'.push { cls := .type "generator", data := .fields #[.int s₄.gens.size 0, .str "<genexpr>" (s₄.toks + 1), .str (X.env.qual ++ "<genexpr>") (s₄.toks + 1 + 1)] } }) X.xe { s2 with heap := h3, toks := tk } := by
    intro code h3 tk ps' hx hsz hP3 ht3
    obtain ⟨bm, ob, e1, e2, e3, e4, e5, e6, e7, e8⟩ := TB.bm
    have keep3 : ∀ b u, b ≠ P → s2.heap.get? b = some u → h3.get? b = some u := fun b u hb e => hx b u hb e
    refine wpAny_builtinsFor (m := X.mg) (by rw [I2.ok.glob]; exact (I2.mod.glob.keeps I2.bk).extBut hx TB.gP) e1 e2 (keep3 _ _ e4 (I2.bk _ _ e5)) e6 e7 e8 ?_
    intro h' hn' hs'
    refine Calls.spliced_nil ?_
    have hsz' : h'.objs.size = h3.objs.size + 1 := by rw [hs'.1, Heap.size_push]
    generalize hgo : ({ cls := .type "generator", data := .fields #[.int s2.gens.size 0, .str "<genexpr>" (tk + 1), .str (X.env.qual ++ "<genexpr>") (tk + 1 + 1)] } : Obj) = go
    have hgc : go.cls = .type "generator" := by rw [← hgo]
    have hgd : go.data = .fields #[.int s2.gens.size 0, .str "<genexpr>" (tk + 1), .str (X.env.qual ++ "<genexpr>") (tk + 1 + 1)] := by rw [← hgo]
    have hgs : go.slots = #[] := by rw [← hgo]
    have hgp : (h'.push go).get? h'.objs.size = some go := by
      rw [← hgo]
      exact Heap.get?_push_size _ rfl
    have isg : ∀ {hh : Heap}, hh.get? h'.objs.size = some go → hh.IsGen h'.objs.size s2.gens.size := fun {hh} e => ⟨go, _, _, e, hgc, hgd, hgs⟩
    have keep5 : ∀ b u, b ≠ P → s2.heap.get? b = some u → (h'.push go).get? b = some u := fun b u hb e => by
      have q := keep3 b u hb e
      exact Heap.get?_push_of_some _ (hs'.extBut b u (Nat.ne_of_lt (Heap.lt_size q)) (Heap.get?_push_of_some _ q))
    have hPlt : P < h3.objs.size := Heap.lt_size hP3
    have hP5 : (h'.push go).get? P = some { cls := .none, data := .fields ps' } := Heap.get?_push_of_some _ (hs'.extBut P _ (Nat.ne_of_lt hPlt) (Heap.get?_push_of_some _ hP3))
    have nP : ∀ b, H2 b = none → b ≠ P := fun b hb z => by
      rw [z, hP] at hb
      cases hb
    have un5 : Un (frs X.stack) fp H2 H2 s2.heap (h'.push go) := by
      refine ⟨fun b o e n _ _ => keep5 b o (nP b n) e, fun b o e n _ _ => ⟨o.slots, keep5 b o (nP b n) e⟩, fun b o _ n _ => n, fun b o e _ => ?_, fun b xs q => q, fun b o u q => q, fun b qs q => ⟨#[], by rw [q]; simp⟩⟩
      by_cases hb : b = P
      · rw [hb]
        exact ⟨_, hP5⟩
      · exact ⟨o, keep5 b o hb e⟩
    have ok5 : HOk X.prog X.w H2 (h'.push go) := fun b o e => by
      by_cases hb : b = P
      · subst hb
        rw [hP] at e
        cases e
        obtain ⟨_, _, q3⟩ := (show ObjOk X.prog X.w H2 s2.heap b (.ext (DS.tabP b)) from I2.hok b _ hP)
        exact ⟨⟨ps', hP5, ht3⟩, ⟨_, hP5⟩, q3⟩
      · refine (I2.hok b o e).stay (fun d v hd q => keep5 d v (fun z => ?_) q) (fun _ q => q) fun _ _ q => q
        rcases hd with z2 | z2
        · exact hb (z2.symm.trans z)
        · rw [z, hP] at z2
          cases z2
    have flt : ∀ b ∈ fp, b < s2.heap.objs.size := fun b hb => by
      obtain ⟨o, ho, _⟩ := T.obj _ _ st2 b hb
      exact Heap.lt_size ho
    have fst : ∀ b ∈ fp, b ∉ frs X.stack := fun b hb hm => by
      obtain ⟨_, q2, q3, _⟩ := hfp b hb
      rcases List.mem_cons.mp (I2.stkSub b hm) with z | z
      · exact q2 z
      · exact q3 z
    have st5 : tn 0 (h'.push go) := T.keep _ _ _ st2 fun b hb o e => keep5 b o (nP b (hfp b hb).1) e
    have ba5 : AllBare (s2.gens.push (.fresh (.compStart (gexp elt iter x px gpos scope) 0 (.ref it) .none (genEnv scope [] h3.objs.size code builtinsNs X.env)))) := I2.bare.push rfl
    have IG : ∀ (s5 : Shared), s5.os = s2.os → s5.heap = h'.push go → AllBare s5.gens → Inv (gC X X.A.in1.in1 elt iter x px gpos scope it s2 H2 (genEnv scope [] h3.objs.size code builtinsNs X.env) fp [(h'.objs.size, go)]) [] [none] H2 s5 := fun s5 h5o h5h h5b => by
      have hns5 : ∃ m, s5.heap.Ns h3.objs.size m := ⟨fun y => if y = ".0" then some (Value.ref it) else none, by
        rw [h5h]
        exact hn'.push _⟩
      exact inv_gen I2 S rfl rfl rfl rfl rfl hsz (show X.A.in1.in1.handled = none from hr.hd) (over_loop_frames (show X.A.in1.in1.frames = some X.stack from I2.ok.frames)) (fun b hb => ⟨hfp b hb, flt b hb⟩) h5o h5b (by rw [h5h]; exact un5) (by rw [h5h]; exact ok5) hns5 (by rw [h5h]; exact hgp) (by show h3.objs.size < _; omega) fun v z => by rw [hgd] at z; cases z
    refine call_function_tree PySem.F.kind_all PySem.F.plain_all PySem.F.entry_all (PySem.F.args_all1 _) ?_
    unfold Builtin.«all»
    refine wpAny_bind (m := oneArg "all" _) (wpAny_pure ?_)
    refine wpAny_bind (wpAny_pyIter_gen (isg hgp) ?_)
    refine wpAny_pure ⟨plainId_quiet PySem.F.plain_all_loop _, ?_⟩
    refine all_turns (Gx := gC X X.A.in1.in1 elt iter x px gpos scope it s2 H2 (genEnv scope [] h3.objs.size code builtinsNs X.env) fp [(h'.objs.size, go)]) (pn := [(h'.objs.size, go)]) hr.hd hr.depth (fun σ' H' s' I' => isg (I'.pin (h'.objs.size, go) (List.mem_append_left _ List.mem_cons_self)).1) (fun σ' H' s' I' => ?_) (m0 + 1) _ _ (isg hgp) ?_ (Array.getElem?_push_size ..) ?_
    · exact I2.call' (ch := fp) I'.os I'.base I'.hok I'.bare fun b hb => by
        obtain ⟨_, q2, q3, q4, q5, q6⟩ := hfp b hb
        exact ⟨q4, q2, q5, q6⟩
    · exact (IG { s2 with gens := s2.gens.push (.fresh (.compStart (gexp elt iter x px gpos scope) 0 (.ref it) .none (genEnv scope [] h3.objs.size code builtinsNs X.env))), toks := tk + 1 + 1 + 1, heap := h'.push go } rfl rfl ba5).nolimit
    · refine ⟨rfl, seg_first T st5 (seg_turns S rfl (hel _ _ _ _ _ _ _ (room_gen hr _ _)) T (fun {H'} hn b hb => ?_) turn (m0 + 1) 0 m0 _ _ [none] H2 (Nat.lt_succ_self m0) hw0 (IG _ rfl rfl (allBare_setGen ba5 rfl)) st5 fun b hb => (hfp b hb).1)⟩
      refine ⟨hn b hb, Nat.ne_of_lt (Nat.lt_of_lt_of_le (flt b hb) hsz), fst b hb, .inl hb, fun y cc e => (by cases e), fun p hp => ?_⟩
      rw [List.append_nil] at hp
      rw [List.mem_singleton.mp hp]
      have h9 : s2.heap.objs.size < h'.objs.size := by omega
      exact Nat.ne_of_gt (Nat.lt_trans (flt b hb) h9)
  cases hf : codeAmong gpos ps.toList with
  | none =>
    refine wpAny_genexprCodeX hcode (cd.code hPs ht) (cd.tab hPs) hf fun c' h' tk hx hge hlt hco' _ htab' _ => ?_
    obtain ⟨o1, vs, f1, tf, fl, tg, inF, tx, tt, op, _, _, _, _, _, _, _, _, _, htr, _⟩ := hco'
    exact cont _ h' tk _ hx (Nat.le_trans hge (Nat.le_of_lt hlt)) htab'.2 htr
  | some cv =>
    refine wpAny_genexprCode_hit hcode (cd.code hPs ht) hf ?_
    exact cont cv s2.heap s2.toks ps (Heap.ExtBut.refl _ _) (Nat.le_refl _) hPs ht
end
end GxA

namespace DS
open PySem L2

/-! ## all over a generator expression -/
def allD (fe : Nv → Option D) : List D → Option Bool
  | [] => some true
  | d :: ds => (fe [some (.sh d)]).bind fun r => (asB r).bind fun b => if b = true then allD fe ds else some false
section
variable {cs : List Addr} {X : Cx} {elt iter : Expr} {x : Str} {px gpos p pos : Pos} {scope : Scope} {f : Nv → Option (List D)} {fe : Nv → Option D} {k : Nat} {c P : Addr}
theorem e_allG (hr : Room (k + 1) X.A) (hc : X.calm = true) (hg : Gl X "all") (hm : X.mg "all" = none) (TB : GxR.TabB X.base X.mg c P) (hcode : X.env.code = .ref c) (hP : P ∈ cs) (S : GxA.GScp scope x) (hi : EI cs X AnyP (.Name x px) iter f)
    (hel : ∀ (A' : Around) (s0 : Shared) (H0 : Hp) (C : Addr) (code : Value) (ex : List Addr) (pn : List (Addr × Obj)), Room k A' → EP' cs (GxA.gcx X A' s0 H0 (genEnv scope [] C code builtinsNs X.env) ex pn [x]) elt fe)
    (hb : bootBuiltins "all" = some (.builtin "all") := by decide +kernel)
    (hs : ∀ v, genFold iter X.env v = pure v := by intro _; rfl)
    (he : starEach [GxA.gexp elt iter x px gpos scope] X.env = (false, eval (GxA.gexp elt iter x px gpos scope) X.env) :: starEach [] X.env := by rfl) :
    EP' cs X (.Call (.Name "all" p) [.GeneratorExp elt [⟨.Name x px, iter, [], 0⟩] scope gpos] [] pos) (fun ρ => (f ρ).bind fun ds => (allD fe ds).map .bool) := by
  refine ⟨pe_imp (GxA.pe_allG (te := tP X.K cs fe) hr hc hg hm hb TB hcode S hi.h (fun A' s0 H0 C code ex pn h => (hel A' s0 H0 C code ex pn h).h) hs he) ?_⟩
  rintro σ H Q ⟨Z, F, ρ, d, R, ef, q⟩
  obtain ⟨ds, e1, e2⟩ := Option.bind_eq_some_iff.mp ef
  obtain ⟨b, e3, rfl⟩ := Option.map_eq_some_iff.mp e2
  refine ⟨Z, F, ρ, ds, R, e1, fun J Pr F1 H1 x1 R1 p1 hP' Sr => ⟨R1.fh _ _ (R1.tab P hP), ?_⟩⟩
  refine ⟨fun i m H2 => i + m = ds.length ∧ ∃ F2, Ext F1 F2 ∧ Rep X.K cs Z F2 H2 σ ρ ∧ Pr F2 σ ρ ∧ allD fe (ds.drop i) = some b, ⟨ds.length, by omega, F1, Ext.refl F1, R1, p1, by rw [List.drop_zero]; exact e3⟩, ?_⟩
  rintro i m H2 ⟨hmi, F2, x2, R2, p2, e4⟩
  by_cases hlt : i < ds.length
  · have hd : ds.drop i = ds[i] :: ds.drop (i + 1) := List.drop_eq_getElem_cons hlt
    rw [hd] at e4
    obtain ⟨r, e5, e6⟩ := Option.bind_eq_some_iff.mp e4
    obtain ⟨b', e7, e8⟩ := Option.bind_eq_some_iff.mp e6
    have hr' := asB_some e7
    obtain ⟨hgo, hyl⟩ := Sr.go Z F2 H2 σ ρ i ds[i] R2 p2 (List.getElem?_eq_getElem hlt)
    refine .inr ⟨hgo, fun y H3 hy => ?_⟩
    obtain ⟨F3, x3, R3, r3⟩ := hyl y H3 hy
    refine ⟨oth F3 H3, F3, [some (.sh ds[i])], r, R3.lend (.cons r3 .nil), e5, fun v F4 H4 x4 R4 r4 => ⟨b', (hr' ▸ r4).isbl, ?_⟩⟩
    have RB := R3.back x4 R4
    by_cases hb' : b' = true
    · rw [if_pos hb'] at e8
      rw [if_pos hb']
      exact ⟨m - 1, by omega, by omega, F4, (x2.trans x3).trans x4, RB, Sr.mono _ _ _ _ (x3.trans x4) p2, e8⟩
    · rw [if_neg hb'] at e8
      rw [if_neg hb']
      cases e8
      exact q _ F4 H4 (((x1.trans x2).trans x3).trans x4) RB (.bl false)
  · have hd : ds.drop i = [] := List.drop_of_length_le (by omega)
    rw [hd] at e4
    cases e4
    exact .inl ⟨Sr.stop Z F2 H2 σ ρ i R2 p2 (by omega), q _ F2 H2 (x1.trans x2) R2 (.bl true)⟩
end

/-! ## a def whose code object is known -/
structure FunC (K : PySem.W.Frag) (x qual : Str) (st : Stmt) (f : Addr) (fd : FuncData) (c : Addr) : Prop where
  ex : ∃ (oc : Value) (od : Option Addr) (kV doc pm : Value) (an : Option Addr) (ct : Value) (osl : Array (Option Value)),
    fd = PySem.W.fnOf x qual (defArgs st) (defBody st) (defScope st) .none kV doc pm an (.ref c) ct ∧ K.lookup f = some ⟨oc, od, .func fd, osl⟩ ∧ PySem.W.codeIn K (.ref c) qual = true
  kp : PySem.W.keepIn K (.ref f) = true
theorem FunC.fn {K : PySem.W.Frag} {x qual : Str} {st : Stmt} {f : Addr} {fd : FuncData} {c : Addr} (F : FunC K x qual st f fd c) : Fun K x qual st f fd := by
  obtain ⟨oc, od, kV, doc, pm, an, ct, osl, h⟩ := F.ex
  exact ⟨⟨oc, od, kV, doc, pm, an, _, ct, osl, h⟩, F.kp⟩
theorem fnc_mk {K : PySem.W.Frag} {x qual : Str} {st : Stmt} {f c : Addr} {oc : Value} {od an : Option Addr} {osl : Array (Option Value)} {kV doc pm ct : Value} (l : K.lookup f = some ⟨oc, od, .func (PySem.W.fnOf x qual (defArgs st) (defBody st) (defScope st) .none kV doc pm an (.ref c) ct), osl⟩)
    (hc : PySem.W.codeIn K (.ref c) qual = true) (k : PySem.W.keepIn K (.ref f) = true) : FunC K x qual st f (PySem.W.fnOf x qual (defArgs st) (defBody st) (defScope st) .none kV doc pm an (.ref c) ct) c := ⟨⟨oc, od, kV, doc, pm, an, ct, osl, rfl, l, hc⟩, k⟩
theorem fn_dsC {P : Program} {w : World} {K : PySem.W.Frag} {mg : Str → Option Value} {base : Heap} {cs : List Addr} {x qual : Str} {st : Stmt} {f c : Addr} {fd : FuncData} {N ps : List Str} {k : Nat} {ms : List Md} {sem : List D → Option Ou} (F : FunC K x qual st f fd c) (S : FnScope N ps (defScope st)) (hm : ms.length = ps.length)
    (hbody : ∀ (A : Around) (outer : List Env) (s : Shared) (H : Hp) (E : XK), Room k (A.deeper (PyProof.Rows.envOfC qual (defScope st) s.heap.objs.size f (.ref c))) →
      ∃ g, SDs cs (cxOf CX0 P w K mg base N qual (defScope st) f (.ref c) A outer s H E).nox E (defBody st) g ∧ Comes ms (N.length - ps.length) g sem) :
    FnOk P w K mg base CX0 (k + 1) f fd ps (spD K cs ms sem) := by
  obtain ⟨oc, od, kV, doc, pm, an, ct, osl, rfl, lk, hcd⟩ := F.ex
  refine fn_of lk hcd S (fun vs H Q E h => ?_) fun A outer s H vs Q E hr h => ?_
  · obtain ⟨_, _, _, _, hv, _⟩ := h
    rw [hv, hm]
  · obtain ⟨g, h1, h2⟩ := hbody A outer s H E hr
    exact ⟨_, h1.h.nox, body_ends hm h2 h⟩

/-! ## the law's end, with tables of code objects -/
open Classical
/-- tables, as things that are known -/
noncomputable def toX (cs : List Addr) (H : Hp) : Hp := fun a => if a ∈ cs then some (.ext (tabP a)) else H a
noncomputable def unX (cs : List Addr) (T : Addr → Array Value) (H : Hp) : Hp := fun a => if a ∈ cs then some (.tbl (T a)) else H a
theorem tab_stay (p : Addr) : ∀ h1 h2 : Heap, tabP p h1 → (∀ o, h1.get? p = some o → h2.get? p = some o) → tabP p h2 := fun h1 h2 ⟨ps, e, t⟩ k => ⟨ps, k _ e, t⟩
theorem tri0 : TriplesOk ([] : List Value) := by
  first
    | trivial
    | exact ⟨rfl⟩
    | (unfold TriplesOk; simp)
section
variable {P : Program} {w : World} {K : PySem.W.Frag} {mg : Str → Option Value} {base : Heap} {CX : CXT} {k : Nat} {f : Addr} {fd : FuncData} {ps : List Str} {sp : Sp} {cs : List Addr}
/-- the law's promise over tables as the head leaves them: what is wanted does not hang on the heap -/
noncomputable def spTab (cs : List Addr) (sp : Sp) : Sp := fun vs H Q E => (∀ p ∈ cs, H p = some (.tbl #[])) ∧ (∀ v H1 H2, Q v H1 → Q v H2) ∧ sp vs (toX cs H) (fun v H' => Q v H' ∧ ∀ p ∈ cs, H' p = some (.ext (tabP p))) E
theorem toX_none {H : Hp} (h : ∀ p ∈ cs, H p = some (.tbl #[])) {b : Addr} : toX cs H b = none ↔ H b = none := by
  unfold toX
  by_cases hb : b ∈ cs
  · rw [if_pos hb, h b hb]
    simp
  · rw [if_neg hb]
theorem fn_tab (F : FnOk P w K mg base CX0 k f fd ps sp) : FnOk P w K mg base CX0 k f fd ps (spTab cs sp) := by
  refine ⟨fun vs H Q E h => F.len _ _ _ _ h.2.2, fun A outer s H args us vs Q E hr e0 hb hv h => ?_⟩
  obtain ⟨hT, hQ, hs⟩ := h
  have kp : ∀ b o, H b = some o → b ∉ cs → toX cs H b = some o := fun b o e hb => by
    unfold toX
    rw [if_neg hb]
    exact e
  have ok : HOk P w (toX cs H) s.heap := fun b o e => by
    unfold toX at e
    by_cases hb : b ∈ cs
    · rw [if_pos hb] at e
      cases e
      have q : s.heap.get? b = some { cls := .none, data := .fields #[] } := e0.hok b _ (hT b hb)
      exact ⟨⟨#[], q, tri0⟩, ⟨_, q⟩, tab_stay b⟩
    · rw [if_neg hb] at e
      refine (e0.hok b o e).stay (fun _ _ _ q => q) (fun d q => kp d _ q fun z => ?_) fun d xs q => kp d _ q fun z => ?_
      · rw [hT d z] at q
        cases q
      · rw [hT d z] at q
        cases q
  have e1 : Env0 P w K mg base A outer s (toX cs H) := ⟨e0.frames, e0.mod, fun b o e => ⟨(e0.bs b o e).1, (toX_none hT).mpr (e0.bs b o e).2⟩, e0.bsz, e0.funs, fun b hb => (toX_none hT).mpr (e0.frf b hb), ok, e0.bare⟩
  refine codeAny_mono (F.run A outer s (toX cs H) args us vs _ E hr e1 hb hv hs) fun r s' hq => ?_
  cases r with
  | error e => exact hq.elim
  | ok fl =>
    cases fl with
    | next => exact hq
    | brk => exact hq
    | cont => exact hq
    | ret u =>
      obtain ⟨v, H', os, bare, un, hok, rv, q, hx⟩ := hq
      have ht : ∀ p, ∃ T : Array Value, p ∈ cs → s'.heap.get? p = some { cls := .none, data := .fields T } := fun p => by
        by_cases hp : p ∈ cs
        · obtain ⟨⟨T, e, _⟩, _⟩ := (show ObjOk P w H' s'.heap p (.ext (tabP p)) from hok p _ (hx p hp))
          exact ⟨T, fun _ => e⟩
        · exact ⟨#[], fun z => absurd z hp⟩
      have T : Addr → Array Value := fun p => Classical.choose (ht p)
      have hT' : ∀ p ∈ cs, s'.heap.get? p = some { cls := .none, data := .fields (Classical.choose (ht p)) } := fun p hp => Classical.choose_spec (ht p) hp
      have ku : ∀ b o, H' b = some o → b ∉ cs → unX cs (fun p => Classical.choose (ht p)) H' b = some o := fun b o e hb => by
        unfold unX
        rw [if_neg hb]
        exact e
      refine ⟨v, unX cs (fun p => Classical.choose (ht p)) H', os, bare, ⟨fun b o e n hb1 hb2 => un.keep b o e ((toX_none hT).mpr n) hb1 hb2, fun b o e n hb1 hb2 => un.slot b o e ((toX_none hT).mpr n) hb1 hb2, fun b o e n hb2 => ?_, fun b o e hb2 => un.there b o e hb2, fun b xs e => ?_, fun b o u e => ?_, fun b ps e => ?_⟩, fun b o e => ?_, rv, hQ _ _ _ q⟩
      · have h1 := un.free b o e ((toX_none hT).mpr n) hb2
        unfold unX
        rw [if_neg fun z => by rw [hx b z] at h1; cases h1]
        exact h1
      · have hb : b ∉ cs := fun z => by rw [hT b z] at e; cases e
        exact ku b _ (un.tups b xs (kp b _ e hb)) hb
      · have hb : b ∉ cs := fun z => by rw [hT b z] at e; cases e
        exact ku b _ (un.frzs b o u (kp b _ e hb)) hb
      · by_cases hb : b ∈ cs
        · rw [hT b hb] at e
          cases e
          refine ⟨Classical.choose (ht b), ?_⟩
          unfold unX
          rw [if_pos hb]
          simp
        · obtain ⟨more, h1⟩ := un.tbls b ps (kp b _ e hb)
          exact ⟨more, ku b _ h1 hb⟩
      · unfold unX at e
        by_cases hb : b ∈ cs
        · rw [if_pos hb] at e
          cases e
          exact hT' b hb
        · rw [if_neg hb] at e
          refine (hok b o e).stay (fun _ _ _ q => q) (fun d q => ku d _ q fun z => ?_) fun d xs q => ku d _ q fun z => ?_
          · rw [hx d z] at q
            cases q
          · rw [hx d z] at q
            cases q
/-- what the law is to do: True, whatever the script -/
noncomputable def semLaw (n : Nat) : List D → Option Ou := fun ds => if ∃ ns : List Int, ds = [.list (ns.map .int)] ∧ ns.length ≤ n then some (.ret (.bool true) false []) else none
theorem rps_ints {F : Hp} : ∀ ns : List Int, Rps K F (ns.map V.int) (ns.map PyData.int)
  | [] => .nil
  | n :: ns => .cons (.int n) (rps_ints ns)
theorem law_asks {n : Nat} {H : Hp} {a : Addr} {ns : List Int} (hT : ∀ p ∈ cs, H p = some (.tbl #[])) (hl : ns.length ≤ n) (hS : SqL K H a (ns.map V.int)) :
    spTab cs (spD K cs [.ro] (semLaw n)) [.ref a] H (fun v _ => v = .bl true) fun _ _ _ => False := by
  refine ⟨hT, fun v H1 H2 q => q, fun _ => none, toX cs H, [.list (ns.map .int)], .ret (.bool true) false [], rfl, rfl, rfl, ?_, ?_, ?_⟩
  · refine rep_sh (vs := [.ref a]) (ds := [.list (ns.map .int)]) rfl (fun _ _ h => h) (fun _ _ h => by cases h) (.cons (.lst ?_ (rps_ints ns)) .nil) fun p hp => ?_
    · rcases hS with (h | ⟨o, h⟩) | h
      · refine .inl (.inl ?_)
        unfold toX
        rw [if_neg fun z => by rw [hT a z] at h; cases h]
        exact h
      · refine .inl (.inr ⟨o, ?_⟩)
        unfold toX
        rw [if_neg fun z => by rw [hT a z] at h; cases h]
        exact h
      · exact .inr h
    · unfold toX
      rw [if_pos hp]
  · unfold semLaw
    rw [if_pos ⟨ns, rfl, hl⟩]
  · intro v F' H' x R' res
    unfold ResV at res
    rw [if_neg Bool.false_ne_true] at res
    exact ⟨res.isbl, fun p hp => R'.fh _ _ (R'.tab p hp)⟩
end
end DS

namespace DS
open PySem L2

/-! ## a def that may be called by its name -/
structure Cal (P : Program) (w : World) (K : PySem.W.Frag) (mg : Str → Option Value) (base : Heap) (cs : List Addr) (x : Str) (k : Nat) (ps : List Str) (ms : List Md) (sem : List D → Option Ou) : Prop where
  ex : ∃ f fd, FnOk P w K mg base CX0 k f fd ps (spD K cs ms sem) ∧ mg x = some (.ref f) ∧ PySem.W.keepIn K (.ref f) = true ∧ Binds K fd ps []
/-- the place's program, view and so on -/
structure AtX (X : Cx) (P : Program) (w : World) (K : PySem.W.Frag) (mg : Str → Option Value) (base : Heap) : Prop where
  prog : X.prog = P
  w : X.w = w
  K : X.K = K
  mg : X.mg = mg
  base : X.base = base
section
variable {P : Program} {w : World} {K : PySem.W.Frag} {mg : Str → Option Value} {base : Heap} {cs : List Addr} {X : Cx} {e : Expr} {es : List Expr} {pos p : Pos} {fr : Nv → Option (List D)} {x : Str} {k j : Nat} {ps : List Str} {ms : List Md} {sem : List D → Option Ou}
theorem c_call (C : Cal P w K mg base cs x k ps ms sem) (hX : AtX X P w K mg base) (hro : ∀ m ∈ ms, m = .ro) (hr : Room j X.A) (hj : k ≤ j) (hg : Gl X x) (ha : EPs cs X (e :: es) fr) (hdb : (x == ("__debug__" : Str)) = false := by decide)
    (he : starEach (e :: es) X.env = (false, eval e X.env) :: starEach es X.env := by rfl) (hpl : (backTo pos (starEach es X.env)).any (·.1) = false := by rfl) : EP' cs X (.Call (.Name x p) (e :: es) [] pos) (callS ms.length sem fr) := by
  obtain ⟨rfl, rfl, rfl, rfl, rfl⟩ := hX
  obtain ⟨f, fd, h1, h2, h3, h4⟩ := C.ex
  exact e_call h1 hro (hr.mono hj) hg h2 h3 h4 pass0 ha hdb he hpl
theorem c_callO (C : Cal P w K mg base cs x k ps ms sem) (hX : AtX X P w K mg base) (hro : ∀ m ∈ ms, m = .ro) (hr : Room j X.A) (hj : k ≤ j) (hg : Gl X x) (ha : EPs cs X (e :: es) fr) (hdb : (x == ("__debug__" : Str)) = false := by decide)
    (he : starEach (e :: es) X.env = (false, eval e X.env) :: starEach es X.env := by rfl) (hpl : (backTo pos (starEach es X.env)).any (·.1) = false := by rfl) : EN cs X (.Call (.Name x p) (e :: es) [] pos) (callO ms.length sem fr) := by
  obtain ⟨rfl, rfl, rfl, rfl, rfl⟩ := hX
  obtain ⟨f, fd, h1, h2, h3, h4⟩ := C.ex
  exact e_callO h1 hro (hr.mono hj) hg h2 h3 h4 pass0 ha hdb he hpl
theorem c_callF (C : Cal P w K mg base cs x k ps ms sem) (hX : AtX X P w K mg base) (hro : ∀ m ∈ ms, m = .ro) (hr : Room j X.A) (hj : k ≤ j) (hg : Gl X x) (ha : EWs cs X (e :: es) fr) (hdb : (x == ("__debug__" : Str)) = false := by decide)
    (he : starEach (e :: es) X.env = (false, eval e X.env) :: starEach es X.env := by rfl) (hpl : (backTo pos (starEach es X.env)).any (·.1) = false := by rfl) : EP' cs X (.Call (.Name x p) (e :: es) [] pos) (callF ms.length sem fr) := by
  obtain ⟨rfl, rfl, rfl, rfl, rfl⟩ := hX
  obtain ⟨f, fd, h1, h2, h3, h4⟩ := C.ex
  exact e_callF h1 hro (hr.mono hj) hg h2 h3 h4 pass0 ha hdb he hpl
/-- f() -/
def call0 (sem : List D → Option Ou) : Nv → Option D := fun _ => match sem [] with
  | some (.ret d _ _) => some d
  | _ => none
theorem c_call0 (C : Cal P w K mg base cs x k ps [] sem) (hX : AtX X P w K mg base) (hr : Room j X.A) (hj : k ≤ j) (hg : Gl X x) (hdb : (x == ("__debug__" : Str)) = false := by decide) : EP' cs X (.Call (.Name x p) [] [] pos) (call0 sem) := by
  obtain ⟨rfl, rfl, rfl, rfl, rfl⟩ := hX
  obtain ⟨f, fd, h1, h2, h3, h4⟩ := C.ex
  refine ⟨pe_imp (pe_call0 h1 (hr.mono hj) hg h2 h3 h4 .nil (pass0 (X := X)) hdb) fun σ H Q ⟨Z, F0, ρ, d, R, ef, q⟩ => ?_⟩
  unfold call0 at ef
  split at ef
  · rename_i d' own outs es
    cases ef
    refine ⟨oth F0 H, F0, [], _, rfl, rfl, rfl, R.lend (vs := []) .nil, es, fun v F2 H2 x2 R2 res => ?_⟩
    have RB := R.back x2 R2
    unfold ResV at res
    split at res
    · obtain ⟨p', rfl, h1, h2, h3, h4⟩ := res
      obtain ⟨z1, z2⟩ := R.backN h2
      obtain ⟨o, g1, g2⟩ := h4.rp
      exact q _ _ _ (x2.trans (Ext.upd h1)) (RB.give g1 h1 z1 z2) (g2 _ (Ext.upd h1) upd_same)
    · exact q v F2 H2 x2 RB res
  · cases ef
end
/-! ## y = [.. for .. in ..] on one row -/
section
variable {cs : List Addr} {X : Cx} {E : XK} {elt iter : Expr} {ifs : List Expr} {scope : Scope} {x y : Str} {i j : Nat} {px py pos spos : Pos} {f : Nv → Option (List D)} {t : Nv → Option Bool} {fe : Nv → Option D}
/-- what a comprehension's reading gives: (it is the reading of e_lc) -/
theorem t_lc (σ : L2.St) (H : Hp) (Q : VK) (h : tN X.K cs (lcV i f t fe) σ H Q) : tLc (tI X.K cs SetP f) (gName i) (tPT X.K cs t) (tP X.K cs fe) [i] σ H Q := by
  obtain ⟨Z, F, ρ, d, R, ef, q⟩ := h
  obtain ⟨ds, e1, e2⟩ := Option.bind_eq_some_iff.mp ef
  split at e2
  · rename_i hb
    obtain ⟨hn, hdl⟩ := hb
    obtain ⟨ys, e3, rfl⟩ := Option.map_eq_some_iff.mp e2
    refine ⟨Z, F, ρ, ds, R, e1, fun J P F1 H1 x1 R1 p1 hP S D hD => ?_⟩
    obtain ⟨R2, fD, zD, mD⟩ := R1.made (o := .lst []) hD
    have R3 := R2.aside upd_same fD mD
    have R4 : Rep X.K cs (upd Z D (.lst [])) F1 (upd H1 D (.lst [])) (σ.set i none) (ρ.set i none) := R3.drop i none
    have pS : P F1 (σ.set i none) (ρ.set i none) := hP _ _ _ _ _ _ hn p1
    refine ⟨fun k m H2 => k + m = ds.length ∧ ∃ F2 acc zs rest, Ext F1 F2 ∧ Rep X.K cs (upd Z D (.lst acc)) F2 H2 (σ.set i none) (ρ.set i none) ∧ P F2 (σ.set i none) (ρ.set i none) ∧ Rps X.K F2 acc zs ∧ acc.length ≤ k ∧ lcD i t fe ρ (ds.drop k) = some rest ∧ ys = zs ++ rest,
      ⟨ds.length, by omega, F1, [], [], ys, Ext.refl F1, R4, pS, .nil, Nat.le_refl _, by rw [List.drop_zero]; exact e3, rfl⟩, ?_⟩
    rintro k m H2 ⟨hm, F2, acc, zs, rest, x2, R5, p5, r5, la, e5, hy⟩
    by_cases hlt : k < ds.length
    · have hd : ds.drop k = ds[k] :: ds.drop (k + 1) := List.drop_eq_getElem_cons hlt
      rw [hd] at e5
      obtain ⟨b, e6, e7⟩ := Option.bind_eq_some_iff.mp e5
      obtain ⟨hgo, hyl⟩ := S.go _ F2 H2 _ _ k ds[k] R5 p5 (List.getElem?_eq_getElem hlt)
      refine .inr ⟨hgo, fun H3 => ∃ m', m' < m ∧ (k + 1) + m' = ds.length ∧ ∃ F3 acc zs rest, Ext F1 F3 ∧ Rep X.K cs (upd Z D (.lst acc)) F3 H3 (σ.set i none) (ρ.set i none) ∧ P F3 (σ.set i none) (ρ.set i none) ∧ Rps X.K F3 acc zs ∧ acc.length ≤ k + 1 ∧ lcD i t fe ρ (ds.drop (k + 1)) = some rest ∧ ys = zs ++ rest, fun H3 h => h, fun v H3 hyv => ?_⟩
      obtain ⟨F3, x3, R6, r6⟩ := hyl v H3 hyv
      have R7 := R6.setSh i r6
      have sset : ∀ w : Option V, (σ.set i none).set i w = σ.set i w := fun w => by rw [List.set_set]
      have rset : ∀ c : Option Cell, (ρ.set i none).set i c = ρ.set i c := fun c => by rw [List.set_set]
      rw [sset, rset] at R7
      refine ⟨?_, ?_⟩
      · show ((σ.set i none).set i (some v)).set i none = σ.set i none
        rw [List.set_set, List.set_set]
      · have hw : List.set (wipe σ [i]) i (some v) = σ.set i (some v) := sset (some v)
        rw [hw]
        refine ⟨_, F3, _, b, R7, e6, fun F4 H4 x4 R8 => ?_⟩
        have back : ∀ {F5 H5 : Hp} {acc' : List V}, Rep X.K cs (upd Z D (.lst acc')) F5 H5 (σ.set i (some v)) (ρ.set i (some (.sh ds[k]))) → Rep X.K cs (upd Z D (.lst acc')) F5 H5 (σ.set i none) (ρ.set i none) := fun {F5 H5 acc'} r => by
          have := r.drop i none
          rw [List.set_set, List.set_set] at this
          exact this
        by_cases hb : b = true
        · rw [if_pos hb] at e7
          show if b = true then _ else _
          rw [if_pos hb]
          obtain ⟨y, e8, e9⟩ := Option.bind_eq_some_iff.mp e7
          obtain ⟨rest', e10, rfl⟩ := Option.map_eq_some_iff.mp e9
          refine ⟨_, F4, _, y, R8, e8, fun u F5 H5 x5 R9 r9 => ⟨acc, (R9.zh D _ upd_same).1, ?_, ?_⟩⟩
          · have : (100000 : Nat) ≤ sizeLine := by decide
            omega
          · have x25 : Ext F2 F5 := (x3.trans x4).trans x5
            refine ⟨m - 1, by omega, by omega, F5, acc ++ [u], zs ++ [y], rest', x2.trans x25, back R9.asideSet, S.mono _ _ _ _ x25 p5, (r5.ext x25).app (.cons r9 .nil), ?_, e10, ?_⟩
            · rw [List.length_append]
              simp only [List.length_cons, List.length_nil]
              omega
            · rw [hy, List.append_assoc]
              rfl
        · rw [if_neg hb] at e7
          show if b = true then _ else _
          rw [if_neg hb]
          have x24 : Ext F2 F4 := x3.trans x4
          exact ⟨m - 1, by omega, by omega, F4, acc, zs, rest, x2.trans x24, back R8, S.mono _ _ _ _ x24 p5, r5.ext x24, by omega, e7, hy⟩
    · have hd : ds.drop k = [] := List.drop_of_length_le (by omega)
      rw [hd] at e5
      cases e5
      rw [List.append_nil] at hy
      refine .inl ⟨S.stop _ F2 H2 _ _ k R5 p5 (by omega), ?_⟩
      obtain ⟨hDH, hDF⟩ := R5.zh D _ upd_same
      have RB : Rep X.K cs Z F2 H2 σ ρ := R1.restore hn (fun _ z => by cases z) x2 (fun a o h => by
        have ha : a ≠ D := ne_of_none h zD
        rw [upd_ne ha]
        exact h) R5
      refine q D F2 H2 (x1.trans x2) RB hDF zD mD ⟨acc, hDH, ?_⟩
      rw [hy]
      exact r5
  · cases e2
theorem sd_setLc (hc : X.calm = true) (hN : X.N.Nodup) (hy : X.N[j]? = some y) (hyl : X.env.scope.names.lookup y = some .local) (hsw : swapsWith (.ListComp elt [⟨.Name x px, iter, ifs, 0⟩] scope pos) (some (.Name y py)) spos.line X.env = pure true)
    (hix : X.N[i]? = some x) (hi : EI cs X SetP (.Name x px) iter f) (ok : BlkOk X.N X.env.scope scope [(x, i)])
    (hl : ∀ (s : Shared) (H : Hp) (C : Addr) (cl : List (Str × Addr)) (fp : List Addr), (X.blk s H scope (compEnvC scope cl C X.env) fp).env.scope.names.lookup x = some .local)
    (ht : ∀ (s : Shared) (H : Hp) (C : Addr) (cl : List (Str × Addr)) (fp : List Addr), ETs cs (X.blk s H scope (compEnvC scope cl C X.env) fp) ifs t)
    (he : ∀ (s : Shared) (H : Hp) (C : Addr) (cl : List (Str × Addr)) (fp : List Addr), EP' cs (X.blk s H scope (compEnvC scope cl C X.env) fp) elt fe) (hs : ∀ x, foldedSetIterable iter X.env x = pure x := by intro _; rfl) :
    SD cs X E (.Assign [.Name y py] (.ListComp elt [⟨.Name x px, iter, ifs, 0⟩] scope pos) spos) (setN j (lcV i f t fe)) := by
  refine ⟨ps_imp (ps_setLc (i := j) (own := [(x, i)]) (g := gName i) (tt := tPT X.K cs t) (te := tP X.K cs fe) hc hN hy hyl hsw hi.h ok (fun s H C cl fp => pg_name (X := X.blk s H scope (compEnvC scope cl C X.env) fp) (i := i) hN hix (.inl (hl s H C cl fp)) (.inr (hl s H C cl fp))) (fun s H C cl fp => (ht s H C cl fp).h) (fun s H C cl fp => (he s H C cl fp).h) hs) ?_⟩
  rintro D σ H ⟨Z, F, ρ, r, R, ef, w⟩
  obtain ⟨d, e1, rfl⟩ := Option.map_eq_some_iff.mp ef
  exact t_lc σ H _ ⟨Z, F, ρ, d, R, e1, fun p F1 H1 x1 R1 fp zp mp o => w _ F1 H1 (by rw [List.length_set]) x1 (R1.setOw j fp zp mp o)⟩
theorem sd_setLcS (hc : X.calm = true) (hN : X.N.Nodup) (hy : X.N[j]? = some y) (hyl : X.env.scope.names.lookup y = some .local) (hsw : swapsWith (.ListComp elt [⟨.Name x px, iter, ifs, 0⟩] scope pos) (some (.Name y py)) spos.line X.env = pure true)
    (hix : X.N[i]? = some x) (hi : EI cs X SetP (.Name x px) iter f) (ok : BlkOk X.N X.env.scope scope [(x, i)])
    (hl : ∀ (s : Shared) (H : Hp) (C : Addr) (cl : List (Str × Addr)) (fp : List Addr), (X.blk s H scope (compEnvC scope cl C X.env) fp).env.scope.names.lookup x = some .local)
    (ht : ∀ (s : Shared) (H : Hp) (C : Addr) (cl : List (Str × Addr)) (fp : List Addr), ETs cs (X.blk s H scope (compEnvC scope cl C X.env) fp) ifs t)
    (he : ∀ (s : Shared) (H : Hp) (C : Addr) (cl : List (Str × Addr)) (fp : List Addr), EP' cs (X.blk s H scope (compEnvC scope cl C X.env) fp) elt fe) (hs : ∀ x, foldedSetIterable iter X.env x = pure x := by intro _; rfl) :
    SD cs X E (.Assign [.Name y py] (.ListComp elt [⟨.Name x px, iter, ifs, 0⟩] scope pos) spos) (setS j (lcV i f t fe)) := by
  refine ⟨ps_imp (ps_setLc (i := j) (own := [(x, i)]) (g := gName i) (tt := tPT X.K cs t) (te := tP X.K cs fe) hc hN hy hyl hsw hi.h ok (fun s H C cl fp => pg_name (X := X.blk s H scope (compEnvC scope cl C X.env) fp) (i := i) hN hix (.inl (hl s H C cl fp)) (.inr (hl s H C cl fp))) (fun s H C cl fp => (ht s H C cl fp).h) (fun s H C cl fp => (he s H C cl fp).h) hs) ?_⟩
  rintro D σ H ⟨Z, F, ρ, r, R, ef, w⟩
  obtain ⟨d, e1, rfl⟩ := Option.map_eq_some_iff.mp ef
  refine t_lc σ H _ ⟨Z, F, ρ, d, R, e1, fun p F1 H1 x1 R1 fp zp mp o => ?_⟩
  obtain ⟨ob, h1, h2⟩ := o.rp
  exact w _ _ H1 (by rw [List.length_set]) (x1.trans (Ext.upd fp)) ((R1.give h1 fp zp mp).setSh j (h2 _ (Ext.upd fp) upd_same))
end

/-! ## small things -/
theorem hu65 {k : Nat} {A : Around} (h : Room k A) : A.units + 65 < cLine := by have := h.un; omega
theorem e_gint {cs : List Addr} {X : Cx} {x : Str} {i : Int} {pos : Pos} (hg : Gl X x) (h : ∃ t, X.mg x = some (.int i t)) (hd : (x == ("__debug__" : Str)) = false := by decide) : EP' cs X (.Name x pos) (fun _ => some (.int i)) := by
  obtain ⟨t, h⟩ := h
  exact e_glob (pe_glob (v := .int i) hg h ⟨t, rfl⟩ hd) fun F => .int i
end DS

namespace DS
open PySem L2
instance : DecidableEq Md := fun a b => by
  cases a <;> cases b <;> first | exact isTrue rfl | exact isFalse fun h => by cases h

/-! ## what a def comes to, where it changes none of its arguments -/
def shs (ds : List D) (n : Nat) : Nv := (ds.map fun d => some (.sh d)) ++ List.replicate n none
def fin0 (k : Nat) : SR → Option Ou
  | .nx ρ => if k ≤ ρ.length then some (.ret .none false []) else none
  | .rt d own ρ => if k ≤ ρ.length then some (.ret d own []) else none
  | .exc c => some (.exc c)
  | _ => none
/-- its meaning by its body's: k arguments, n names more -/
def semR (k n : Nat) (g : Nv → Option SR) : List D → Option Ou := fun ds => if ds.length = k then (g (shs ds n)).bind (fin0 k) else none
theorem outs_ro : ∀ {ms : List Md} {vs : List V} {ρ : Nv}, (∀ m ∈ ms, m = .ro) → vs.length = ms.length → ms.length ≤ ρ.length → outsOf ms vs ρ = some []
  | [], _, _, _, _, _ => rfl
  | m :: ms, [], _, _, h, _ => by cases h
  | m :: ms, v :: vs, [], _, _, h => by simp at h
  | m :: ms, v :: vs, r :: ρ, h, h1, h2 => by
    have e : m = .ro := h m List.mem_cons_self
    subst e
    show outsOf ms vs ρ = some []
    exact outs_ro (fun m hm => h m (List.mem_cons_of_mem _ hm)) (by simpa using h1) (by simpa using h2)
theorem comes_ro {ms : List Md} {n : Nat} {g : Nv → Option SR} (hro : ∀ m ∈ ms, m = .ro) : Comes ms n g (semR ms.length n g) := fun vs ds o hv hd _ h => by
  unfold semR at h
  rw [if_pos hd] at h
  unfold runD
  rw [argNv_ro hro hv hd]
  obtain ⟨r, e1, e2⟩ := Option.bind_eq_some_iff.mp h
  show (g (shs ds n)).bind _ = _
  rw [e1]
  show finD ms vs r = some o
  cases r with
  | nx ρ =>
    unfold fin0 at e2
    dsimp only at e2
    split at e2
    · rename_i hl
      cases e2
      show (outsOf ms vs ρ).map _ = _
      rw [outs_ro hro hv hl]
      rfl
    · cases e2
  | rt d own ρ =>
    unfold fin0 at e2
    dsimp only at e2
    split at e2
    · rename_i hl
      cases e2
      show (outsOf ms vs ρ).map _ = _
      rw [outs_ro hro hv hl]
      rfl
    · cases e2
  | bk ρ => cases e2
  | ct ρ => cases e2
  | exc c => cases e2; rfl

/-! ## steps over data -/
def sgOk (d : D) : Bool := match d with
  | .none => true
  | .bool _ => true
  | .int _ => true
  | .str x => decide (x.length ≤ 100000) && PyData.strOk x
  | _ => false
/-- data of at most this depth, its texts plain and short -/
def fine : Nat → D → Bool
  | 0, d => sgOk d
  | n + 1, .list xs => xs.all (fine n)
  | n + 1, .tuple xs => xs.all (fine n)
  | _ + 1, d => sgOk d
theorem lay_all {n : Nat} (ih : ∀ d, fine n d = true → d.canLay0 = true ∧ d.depth ≤ n) : ∀ xs : List D, xs.all (fine n) = true → PyData.canLayAll0 xs = true ∧ PyData.depthAll xs ≤ n
  | [], _ => ⟨by rw [PyData.canLayAll0], by rw [PyData.depthAll]; exact Nat.zero_le _⟩
  | x :: xs, h => by
    rw [List.all_cons, Bool.and_eq_true] at h
    obtain ⟨h1, h2⟩ := ih x h.1
    obtain ⟨h3, h4⟩ := lay_all ih xs h.2
    refine ⟨by rw [PyData.canLayAll0, h1, h3]; rfl, ?_⟩
    rw [PyData.depthAll]
    omega
theorem lay_sg {d : D} (h : sgOk d = true) : d.canLay0 = true ∧ d.depth = 0 := by
  cases d with
  | none => exact ⟨by simp [PyData.canLay0], by simp [PyData.depth]⟩
  | bool b => exact ⟨by simp [PyData.canLay0], by simp [PyData.depth]⟩
  | int i => exact ⟨by simp [PyData.canLay0], by simp [PyData.depth]⟩
  | str x =>
    have h' : decide (x.length ≤ 100000) = true ∧ PyData.strOk x = true := by simpa [sgOk] using h
    exact ⟨by rw [PyData.canLay0]; exact h'.2, by simp [PyData.depth]⟩
  | list _ => cases h
  | tuple _ => cases h
  | dict _ => cases h
theorem lay_fine : ∀ (n : Nat) (d : D), fine n d = true → d.canLay0 = true ∧ d.depth ≤ n
  | 0, d, h => by
    obtain ⟨h1, h2⟩ := lay_sg (d := d) (by unfold fine at h; exact h)
    exact ⟨h1, by omega⟩
  | n + 1, d, h => by
    cases d with
    | list xs =>
      obtain ⟨h1, h2⟩ := lay_all (lay_fine n) xs (by simpa [fine] using h)
      exact ⟨by rw [PyData.canLay0]; exact h1, by rw [PyData.depth]; omega⟩
    | tuple xs =>
      obtain ⟨h1, h2⟩ := lay_all (lay_fine n) xs (by simpa [fine] using h)
      exact ⟨by rw [PyData.canLay0]; exact h1, by rw [PyData.depth]; omega⟩
    | _ =>
      obtain ⟨h1, h2⟩ := lay_sg (by simpa [fine] using h)
      exact ⟨h1, by omega⟩
theorem shaped_fine {n : Nat} {d : D} (h : fine n d = true) (hn : n ≤ 60) : SeqAt.shaped d = true := by
  obtain ⟨h1, h2⟩ := lay_fine n d h
  unfold SeqAt.shaped
  rw [h1, Bool.true_and]
  exact decide_eq_true (by omega)
theorem shaped_int {i : Int} : SeqAt.shaped (.int i) = true := shaped_fine (n := 0) (d := .int i) rfl (by decide)
theorem shaped_none : SeqAt.shaped .none = true := shaped_fine (n := 0) (d := .none) rfl (by decide)
theorem shaped_bool {i : Bool} : SeqAt.shaped (.bool i) = true := shaped_fine (n := 0) (d := .bool i) rfl (by decide)
theorem shaped_str {x : Str} (h1 : x.length ≤ 100000) (h2 : PyData.strOk x = true) : SeqAt.shaped (.str x) = true := shaped_fine (n := 0) (d := .str x) (by simp [fine, sgOk, h1, h2]) (by decide)
theorem fine_up : ∀ {n : Nat} {d : D}, fine n d = true → fine (n + 1) d = true
  | 0, d, h => by
    cases d with
    | list _ => cases h
    | tuple _ => cases h
    | dict _ => cases h
    | _ => exact h
  | n + 1, d, h => by
    cases d with
    | list xs =>
      have h' : xs.all (fine n) = true := h
      show xs.all (fine (n + 1)) = true
      rw [List.all_eq_true] at h' ⊢
      exact fun x hx => fine_up (h' x hx)
    | tuple xs =>
      have h' : xs.all (fine n) = true := h
      show xs.all (fine (n + 1)) = true
      rw [List.all_eq_true] at h' ⊢
      exact fun x hx => fine_up (h' x hx)
    | _ => exact h
/-- an item at a rest -/
theorem atI_ok {α : Type} {xs : List α} {i : Int} (h0 : 0 ≤ i) (h1 : i < xs.length) : ∃ x, atI xs i = some x ∧ x ∈ xs := by
  have hj : i.toNat < xs.length := by omega
  refine ⟨xs[i.toNat], ?_, List.getElem_mem hj⟩
  unfold atI ixN
  rw [if_pos h0, if_pos h1]
  show xs[i.toNat]? = _
  exact List.getElem?_eq_getElem hj
theorem atI_mod {α : Type} {xs : List α} {i n : Int} (hn : 0 < n) (hl : n ≤ xs.length) : ∃ x, atI xs (i % n) = some x ∧ x ∈ xs := by
  have h1 := Int.emod_nonneg i (b := n) (by omega)
  have h2 := Int.emod_lt_of_pos i hn
  exact atI_ok h1 (by omega)
end DS

namespace DS
open PySem L2

/-! ## a body's run, step by step -/
def Rets (n : Nat) (o : Bool) (φ : D → Prop) (x : Option SR) : Prop := ∃ d ρ', x = some (.rt d o ρ') ∧ n ≤ ρ'.length ∧ φ d
section
variable {n : Nat} {φ : D → Prop} {g g' : Nv → Option SR} {ρ ρ' : Nv} {t : Nv → Option Bool} {f : Nv → Option D} {d : D} {b o : Bool}
theorem rets_nx (h1 : g ρ = some (.nx ρ')) (h2 : Rets n o φ (g' ρ')) : Rets n o φ (seqS g g' ρ) := by
  unfold seqS
  rw [h1]
  exact h2
theorem rets_rt (h1 : Rets n o φ (g ρ)) : Rets n o φ (seqS g g' ρ) := by
  obtain ⟨d, ρ', e, h⟩ := h1
  unfold seqS
  rw [e]
  exact ⟨d, ρ', rfl, h⟩
theorem rets_if (h : t ρ = some b) (h1 : b = true → Rets n o φ (g ρ)) (h2 : b = false → Rets n o φ (g' ρ)) : Rets n o φ (ifS t g g' ρ) := by
  unfold ifS
  rw [h]
  cases b with
  | true => exact h1 rfl
  | false => exact h2 rfl
/-- if t: return ..; rest -/
theorem rets_ifr (h : t ρ = some b) (h1 : b = true → Rets n o φ (g ρ)) (h2 : b = false → Rets n o φ (g' ρ)) : Rets n o φ (seqS (ifS t g (fun ρ => some (.nx ρ))) g' ρ) := by
  cases b with
  | true => exact rets_rt (rets_if h (fun _ => h1 rfl) fun z => by cases z)
  | false =>
    refine rets_nx (ρ' := ρ) ?_ (h2 rfl)
    unfold ifS
    rw [h]
    rfl
theorem rets_ret (h : f ρ = some d) (hn : n ≤ ρ.length) (hφ : φ d) : Rets n o φ ((fun ρ => (f ρ).map fun d => .rt d o ρ) ρ) := ⟨d, ρ, by show (f ρ).map _ = _; rw [h]; rfl, hn, hφ⟩
theorem setS_is {i : Nat} (h : f ρ = some d) : setS i f ρ = some (.nx (ρ.set i (some (.sh d)))) := by
  unfold setS
  rw [h]
  rfl
theorem sem_rets {k m : Nat} {ds : List D} (hk : ds.length = k) (h : Rets k o φ (g (shs ds m))) : ∃ d, semR k m g ds = some (.ret d o []) ∧ φ d := by
  obtain ⟨d, ρ', e, h1, h2⟩ := h
  refine ⟨d, ?_, h2⟩
  unfold semR
  rw [if_pos hk, e]
  show (if _ then _ else _) = _
  rw [if_pos h1]
theorem op2_is {op : D → D → Option D} {fa fb : Nv → Option D} {x y r : D} (h1 : fa ρ = some x) (h2 : fb ρ = some y) (h3 : op x y = some r) : op2 op fa fb ρ = some r := by
  unfold op2
  rw [h1, h2]
  exact h3
theorem opT_is {op : D → D → Option D} {fa fb : Nv → Option D} {x y : D} (h1 : fa ρ = some x) (h2 : fb ρ = some y) (h3 : op x y = some (.bool b)) : opT op fa fb ρ = some b := by
  unfold opT
  rw [op2_is h1 h2 h3]
  rfl
theorem callS_is {k : Nat} {sem : List D → Option Ou} {fr : Nv → Option (List D)} {ds : List D} {os : List D} (h : fr ρ = some ds) (hk : ds.length = k) (e : sem ds = some (.ret d o os)) : callS k sem fr ρ = some d := by
  unfold callS
  rw [h]
  show (if _ then _ else _) = _
  rw [if_pos hk, e]
theorem cons2_is {fa : Nv → Option D} {fr : Nv → Option (List D)} {ds : List D} (h : fa ρ = some d) (h2 : fr ρ = some ds) : cons2 fa fr ρ = some (d :: ds) := by
  unfold cons2
  rw [h, h2]
  rfl
/-- a comprehension without conditions -/
theorem lcD_all {i : Nat} {Q : D → Prop} : ∀ ds : List D, (∀ x ∈ ds, ∃ y, f (ρ.set i (some (.sh x))) = some y ∧ Q y) → ∃ ys, lcD i (fun _ => some true) f ρ ds = some ys ∧ ys.length = ds.length ∧ ∀ y ∈ ys, Q y
  | [], _ => ⟨[], rfl, rfl, fun _ h => by cases h⟩
  | x :: r, h => by
    obtain ⟨y, e1, q1⟩ := h x List.mem_cons_self
    obtain ⟨ys, e2, l2, q2⟩ := lcD_all r fun z hz => h z (List.mem_cons_of_mem _ hz)
    refine ⟨y :: ys, ?_, by rw [List.length_cons, l2, List.length_cons], fun z hz => ?_⟩
    · rw [lcD]
      show (f (ρ.set i (some (.sh x)))).bind _ = _
      rw [e1]
      show (lcD i (fun _ => some true) f ρ r).map _ = _
      rw [e2]
      rfl
    · rcases List.mem_cons.mp hz with rfl | hz
      · exact q1
      · exact q2 z hz
theorem lcV_all {i : Nat} {Q : D → Prop} {fi : Nv → Option (List D)} {ds : List D} (hi : fi ρ = some ds) (hn : noMine ρ i = true) (hl : ds.length ≤ 100000) (h : ∀ x ∈ ds, ∃ y, f (ρ.set i (some (.sh x))) = some y ∧ Q y) :
    ∃ ys, lcV i fi (fun _ => some true) f ρ = some (.list ys) ∧ ys.length = ds.length ∧ ∀ y ∈ ys, Q y := by
  obtain ⟨ys, e, h1, h2⟩ := lcD_all ds h
  refine ⟨ys, ?_, h1, h2⟩
  unfold lcV
  rw [hi]
  show (if _ then _ else _) = _
  rw [if_pos ⟨hn, hl⟩, e]
  rfl
/-- a loop that goes through, keeping what it keeps -/
theorem forS_all {a : D → Nv → Option Nv} {I : Nv → Prop} : ∀ (ds : List D) (ρ : Nv), I ρ → (∀ d ∈ ds, ∀ ρ, I ρ → ∃ ρ1 ρ2, a d ρ = some ρ1 ∧ g ρ1 = some (.nx ρ2) ∧ I ρ2) → ∃ ρ', forS a g ds ρ = some (.nx ρ') ∧ I ρ'
  | [], ρ, h, _ => ⟨ρ, rfl, h⟩
  | d :: r, ρ, h, hs => by
    obtain ⟨ρ1, ρ2, e1, e2, h2⟩ := hs d List.mem_cons_self ρ h
    obtain ⟨ρ', e3, h3⟩ := forS_all r ρ2 h2 fun z hz => hs z (List.mem_cons_of_mem _ hz)
    refine ⟨ρ', ?_, h3⟩
    rw [forS, e1]
    show (g ρ1).bind _ = _
    rw [e2]
    exact e3
end
/-! ## texts -/
def sgD (c : Nat) : D := .str ⟨#[c]⟩
theorem join_sg (cs : List Nat) : (Txt.join (⟨#[]⟩ : Str) (cs.map fun c => ⟨#[c]⟩)).cps.toList = cs := by
  show (Builtin.Str.glued _ _).cps.toList = cs
  rw [StrLaws.glued_eq_join]
  induction cs with
  | nil => rfl
  | cons c r ih =>
    match r, ih with
    | [], _ => rfl
    | d :: r, ih =>
      show ((Str.append (Str.append (⟨#[c]⟩ : Str) (⟨#[]⟩ : Str)) (Str.join ⟨#[]⟩ ((d :: r).map fun c => ⟨#[c]⟩))).cps).toList = _
      simp only [Str.append, Array.toList_append, ih]
      rfl
theorem strs_sg : ∀ cs : List Nat, strsD (cs.map sgD) = some (cs.map fun c => ⟨#[c]⟩)
  | [] => rfl
  | c :: r => by
    show (strsD (r.map sgD)).map _ = _
    rw [strs_sg r]
    rfl
theorem len_sg : ∀ cs : List Nat, ((cs.map fun c => (⟨#[c]⟩ : Str)).map (·.length)).sum = cs.length
  | [] => rfl
  | c :: r => by
    rw [List.map_cons, List.map_cons, List.sum_cons, len_sg r, List.length_cons]
    show 1 + r.length = _
    omega
theorem joinD_sg {cs : List Nat} (h : cs.length ≤ 100000) : ∃ t : Str, joinD (.str ⟨#[]⟩) (.list (cs.map sgD)) = some (.str t) ∧ t.cps.toList = cs := by
  refine ⟨_, ?_, join_sg cs⟩
  show (strsD (cs.map sgD)).bind _ = _
  rw [strs_sg]
  show (if _ then _ else _) = _
  rw [if_pos]
  rw [len_sg]
  show cs.length + _ * 0 ≤ 100000
  omega
theorem strOk_all {t : Str} : PyData.strOk t = true ↔ ∀ c ∈ t.cps.toList, c < 0x110000 := by
  unfold PyData.strOk
  rw [Array.all_eq_true_iff_forall_mem]
  simp
theorem len_list (t : Str) : t.length = t.cps.toList.length := rfl
theorem fine_str {n : Nat} {t : Str} (h1 : t.length ≤ 100000) (h2 : ∀ c ∈ t.cps.toList, c < 0x110000) : fine n (.str t) = true := by
  have : sgOk (.str t) = true := by
    unfold sgOk
    simp [h1, strOk_all.mpr h2]
  cases n with
  | zero => exact this
  | succ n => exact this
theorem str_fine {n : Nat} {t : Str} (h : fine n (.str t) = true) : t.length ≤ 100000 ∧ ∀ c ∈ t.cps.toList, c < 0x110000 := by
  have : sgOk (.str t) = true := by
    cases n with
    | zero => exact h
    | succ n => exact h
  unfold sgOk at this
  simp only [Bool.and_eq_true, decide_eq_true_eq] at this
  exact ⟨this.1, strOk_all.mp this.2⟩
theorem mem_cutS {z : Str} {lo hi : Option Int} {c : Nat} (h : c ∈ (cutS z lo hi).cps.toList) : c ∈ z.cps.toList := by
  have h' : c ∈ ((z.cps.toList.drop (HT.sIx z.length 0 lo)).take (HT.sIx z.length z.length hi - HT.sIx z.length 0 lo)) := h
  exact List.mem_of_mem_drop (List.mem_of_mem_take h')
theorem mem_app {x y : Str} {c : Nat} (h : c ∈ (x ++ y).cps.toList) : c ∈ x.cps.toList ∨ c ∈ y.cps.toList := by
  have h' : c ∈ (x.cps ++ y.cps).toList := h
  rw [Array.toList_append] at h'
  exact List.mem_append.mp h'
theorem len_app (x y : Str) : (x ++ y).length = x.length + y.length := Str.length_append x y
end DS

namespace DS
open PySem L2 PySem.Spec PyProof.Rows
/-- a promise that asks for less -/
theorem fn_sem {P : Program} {w : World} {K : PySem.W.Frag} {mg : Str → Option Value} {base : Heap} {CX : CXT} {k : Nat} {f : Addr} {fd : FuncData} {ps : List Str} {cs : List Addr} {ms : List Md} {sem sem' : List D → Option Ou} (F : FnOk P w K mg base CX k f fd ps (spD K cs ms sem)) (h : ∀ ds o, sem' ds = some o → sem ds = some o) : FnOk P w K mg base CX k f fd ps (spD K cs ms sem') := by
  have im : ∀ vs H Q E, spD K cs ms sem' vs H Q E → spD K cs ms sem vs H Q E := fun vs H Q E ⟨Z, F, ds, o, h1, h2, h3, h4, h5, h6⟩ => ⟨Z, F, ds, o, h1, h2, h3, h4, h _ _ h5, h6⟩
  exact ⟨fun vs H Q E q => F.len _ _ _ _ (im _ _ _ _ q), fun A outer s H args us vs Q E hr e0 hb hv q => F.run A outer s H args us vs Q E hr e0 hb hv (im _ _ _ _ q)⟩
/-- a def's code object and its table, by what the view shows -/
theorem tab_is {K : PySem.W.Frag} {x : Str} {f c P : Addr} {oc oe : Value} {od oe2 : Option Addr} {fd : FuncData} {sl sl2 : Array (Option Value)} {vs : Array Value} (a : PySem.W.nsIn K mainGlobals x = some (some (.ref f))) (l : K.lookup f = some ⟨oc, od, .func fd, sl⟩) (hc : fd.code = .ref c)
    (g : K.lookup c = some ⟨oe, oe2, .fields vs, sl2⟩) (v : vs[11]? = some (.ref P)) : PySem.W.tabIn K x = some (c, P) := by
  unfold PySem.W.tabIn
  simp [a, l, hc, g, v]
/-- the law's walk, where some of its defs hold generator expressions: their tables are empty behind the head -/
theorem walk_tabs {l : PySem.W.OpenLaw} {n k : Nat} {q : Program} {loose : List Str} {XP : (Str → Option Value) → Heap → Prop} {YP : World → Heap → Prop} {d : DefRec} {K : Params → PySem.W.Frag} {CX : World → CXT} {x : Str} (xs : List Str)
    (hn : l.most = some n) (hn2 : n ≤ sizeLine) (hdf : d.params.defaults = []) (hr : Room k callerA) (hrec : xs.all (fun x => ((recsOf q).find? fun e => e.name == x).isSome) = true) (hY : ∀ (w : World) (h : Heap), YP w h → (K w.params).In h)
    (F : ∀ (w : World) (mg : Str → Option Value) (fa : Addr) (h : Heap), YP w h → (K w.params).In h → h.Ns mainGlobals mg → mg d.name = some (.ref fa) →
      (∀ x c P, x ∈ xs → PySem.W.tabIn (K w.params) x = some (c, P) → PySem.W.CodeHd h c P ∧ h.get? P = some { cls := .none, data := .fields #[] }) → LamX.LawAtS l w (K w.params) (CX w) k n x mg fa h)
    (hCX : ∀ (w : World) (H : Hp) (s : Shared) (e : Value) (s' : Shared), CX w [] H s (fun _ _ _ => False) e s' → False) :
    PySem.W.WalkO q loose XP YP l.row.toRowW d [] (fun f vs => PySem.call f vs) := by
  refine Att.attach_callB hn hdf fun w s₀ s₁ mg mb fa o pm cd doc a vs ns G Y ho hd hcd hmg hobj hints hlen hbits hg => ?_
  have KX := hY w _ Y
  obtain ⟨fd, cs, sp, hT, nT, C, hb, hsp, hF⟩ := F w mg fa _ Y KX G.T.g hmg (fun x c P hx ht => by
    obtain ⟨d', hd'⟩ := Option.isSome_iff_exists.mp (List.all_eq_true.mp hrec x hx)
    exact PySem.W.tab_of G.T KX hd' ht)
  exact LamX.law_callTs KX G.T.g G.T.b G.T.builtins G.T.nolimit hg hT nT C G.T.bmain hobj hints (Nat.le_trans hlen hn2) hr hF hb (fun H hH hS => hsp H a ns hlen hbits hH hS) fun H e s' => hCX w H s₁ e s'
end DS

namespace DS
open PySem L2

/-! ## dicts: keys and values told by data -/
def keyD : D → Option Key
  | .int i => some (.inl i)
  | .str x => some (.inr x)
  | _ => none
def flatD : D → Option V
  | .none => some .non
  | .bool b => some (.bl b)
  | .int i => some (.int i)
  | .str x => some (.str x)
  | _ => none
theorem keyD_k (k : Key) : keyD (kD k) = some k := by cases k <;> rfl
theorem keyD_some {d : D} {k : Key} (h : keyD d = some k) : d = kD k := by
  cases d with
  | int i => cases h; rfl
  | str x => cases h; rfl
  | _ => cases h
theorem flatD_s {v : V} (h : flat v = true) : flatD (sD v) = some v := by
  cases v with
  | non => rfl
  | bl b => rfl
  | int i => rfl
  | str x => rfl
  | _ => cases h
theorem flatD_some {d : D} {v : V} (h : flatD d = some v) : d = sD v ∧ flat v = true := by
  cases d with
  | none => cases h; exact ⟨rfl, rfl⟩
  | bool b => cases h; exact ⟨rfl, rfl⟩
  | int i => cases h; exact ⟨rfl, rfl⟩
  | str x => cases h; exact ⟨rfl, rfl⟩
  | _ => cases h
def decK : List (D × D) → Option (List (Key × V))
  | [] => some []
  | (a, b) :: r => (keyD a).bind fun k => (flatD b).bind fun v => (decK r).map ((k, v) :: ·)
theorem decK_en : ∀ {kvs : List (Key × V)}, (kvs.all fun p => flat p.2) = true → decK (kvs.map enK) = some kvs
  | [], _ => rfl
  | (k, v) :: r, h => by
    rw [List.all_cons, Bool.and_eq_true] at h
    have ih := decK_en h.2
    show (keyD (kD k)).bind _ = _
    rw [keyD_k]
    show (flatD (sD v)).bind _ = _
    rw [flatD_s h.1]
    show (decK (r.map enK)).map _ = _
    rw [ih]
    rfl
theorem decK_enT {kvs : List (List Key × V)} {r : List (Key × V)} (h : decK (kvs.map enT) = some r) : kvs = [] := by
  cases kvs with
  | nil => rfl
  | cons p q => cases h
/-- a dict with plain keys, seen -/
theorem Rep.dk {K : PySem.W.Frag} {cs : List Addr} {Z F H : Hp} {σ : L2.St} {ρ : Nv} {v : V} {es : List (D × D)} {kvs : List (Key × V)} (R : Rep K cs Z F H σ ρ) (h : Vw K F σ ρ v (.dict es)) (e : decK es = some kvs) :
    ∃ a, v = .ref a ∧ H a = some (.dK kvs) ∧ (kvs.all fun p => flat p.2) = true := by
  have h' := R.all h
  cases h' with
  | dK r f =>
    rw [decK_en f] at e
    cases e
    exact ⟨_, rfl, r, f⟩
  | dT r f n => exact (n (decK_enT e)).elim
theorem rp_flat {K : PySem.W.Frag} {F : Hp} {v : V} (h : flat v = true) : Rp K F v (sD v) := by
  cases v with
  | non => exact .non
  | bl b => exact .bl b
  | int i => exact .int i
  | str x => exact .str x
  | _ => cases h
theorem vw_flat {K : PySem.W.Frag} {cs : List Addr} {Z F H : Hp} {σ : L2.St} {ρ : Nv} {v : V} {d : D} {w : V} (R : Rep K cs Z F H σ ρ) (h : Vw K F σ ρ v d) (e : flatD d = some w) : v = w := by
  have h' := R.all h
  cases h' with
  | non => cases e; rfl
  | bl b => cases e; rfl
  | int i => cases e; rfl
  | str x => cases e; rfl
  | _ => cases e
theorem vw_key {K : PySem.W.Frag} {cs : List Addr} {Z F H : Hp} {σ : L2.St} {ρ : Nv} {v : V} {d : D} {k : Key} (R : Rep K cs Z F H σ ρ) (h : Vw K F σ ρ v d) (e : keyD d = some k) : v = kV k := by
  have h' := R.all h
  cases h' with
  | int i => cases e; rfl
  | str x => cases e; rfl
  | _ => cases e
theorem flat_val {kvs : List (Key × V)} {k : Key} {v : V} (h : (kvs.all fun p => flat p.2) = true) (e : valV kvs k = some v) : flat v = true := by
  unfold valV at e
  obtain ⟨p, h1, rfl⟩ := Option.map_eq_some_iff.mp e
  exact List.all_eq_true.mp h p (List.mem_of_find?_eq_some h1)
/-- d[k] -/
def getKD (d k : D) : Option D := match d with
  | .dict es => (keyD k).bind fun k => (decK es).bind fun kvs => (valV kvs k).map sD
  | _ => none
/-- k in d -/
def inKD (k d : D) : Option D := match d with
  | .dict es => (keyD k).bind fun k => (decK es).map fun kvs => .bool (valV kvs k).isSome
  | _ => none
def ninKD (k d : D) : Option D := match d with
  | .dict es => (keyD k).bind fun k => (decK es).map fun kvs => .bool (!(valV kvs k).isSome)
  | _ => none
section
variable {cs : List Addr} {X : Cx} {a b : Expr} {pos : Pos} {fa fb : Nv → Option D}
theorem e_getK (hu : X.A.units + 65 < cLine) (ha : EW cs X a fa) (hb : EW cs X b fb) (hs : NoSl b) : EP' cs X (.Subscript a b pos) (op2 getKD fa fb) := ⟨pe_imp (pe_dget (by omega) ha.h hb.h hs) fun σ H Q ⟨Z, F, ρ, d, R, ef, q⟩ => by
  unfold op2 at ef
  obtain ⟨x, ea, ef⟩ := Option.bind_eq_some_iff.mp ef
  obtain ⟨y, eb, ef⟩ := Option.bind_eq_some_iff.mp ef
  refine ⟨Z, F, ρ, x, R, ea, fun v F1 H1 e1 R1 w1 => ⟨Z, F1, ρ, y, R1, eb, fun u F2 H2 e2 R2 w2 => ?_⟩⟩
  unfold getKD at ef
  split at ef
  · obtain ⟨k, h1, ef⟩ := Option.bind_eq_some_iff.mp ef
    obtain ⟨kvs, h2, ef⟩ := Option.bind_eq_some_iff.mp ef
    obtain ⟨z, h3, rfl⟩ := Option.map_eq_some_iff.mp ef
    obtain ⟨p, rfl, g1, g2⟩ := R2.dk (w1.ext e2) h2
    have gk := vw_key R2 w2 h1
    subst gk
    exact ⟨p, z, rfl, by rw [← h3]; exact DGet.k g1, q z F2 H2 (e1.trans e2) R2 (rp_flat (flat_val g2 h3))⟩
  · cases ef⟩
theorem e_inK (hu : X.A.units + 65 < cLine) (ha : EW cs X a fa) (hb : EW cs X b fb) (hm : behindInMarks .In b = false) : EP' cs X (.Compare a [.In] [b] pos) (op2 inKD fa fb) := ⟨pe_imp (pe_cmp (pc_din (by omega) ha.h hb.h) hm) fun σ H Q ⟨Z, F, ρ, d, R, ef, q⟩ => by
  unfold op2 at ef
  obtain ⟨x, ea, ef⟩ := Option.bind_eq_some_iff.mp ef
  obtain ⟨y, eb, ef⟩ := Option.bind_eq_some_iff.mp ef
  refine ⟨Z, F, ρ, x, R, ea, fun v F1 H1 e1 R1 w1 => ⟨Z, F1, ρ, y, R1, eb, fun u F2 H2 e2 R2 w2 => ?_⟩⟩
  unfold inKD at ef
  split at ef
  · obtain ⟨k, h1, ef⟩ := Option.bind_eq_some_iff.mp ef
    obtain ⟨kvs, h2, rfl⟩ := Option.map_eq_some_iff.mp ef
    obtain ⟨p, rfl, g1, g2⟩ := R2.dk w2 h2
    have gk := vw_key R2 (w1.ext e2) h1
    subst gk
    exact ⟨p, _, rfl, DGet.k g1, q _ F2 H2 (e1.trans e2) R2 (.bl _)⟩
  · cases ef⟩
theorem e_ninK (hu : X.A.units + 65 < cLine) (ha : EW cs X a fa) (hb : EW cs X b fb) (hm : behindInMarks .NotIn b = false) : EP' cs X (.Compare a [.NotIn] [b] pos) (op2 ninKD fa fb) := ⟨pe_imp (pe_cmp (pc_dnotin (by omega) ha.h hb.h) hm) fun σ H Q ⟨Z, F, ρ, d, R, ef, q⟩ => by
  unfold op2 at ef
  obtain ⟨x, ea, ef⟩ := Option.bind_eq_some_iff.mp ef
  obtain ⟨y, eb, ef⟩ := Option.bind_eq_some_iff.mp ef
  refine ⟨Z, F, ρ, x, R, ea, fun v F1 H1 e1 R1 w1 => ⟨Z, F1, ρ, y, R1, eb, fun u F2 H2 e2 R2 w2 => ?_⟩⟩
  unfold ninKD at ef
  split at ef
  · obtain ⟨k, h1, ef⟩ := Option.bind_eq_some_iff.mp ef
    obtain ⟨kvs, h2, rfl⟩ := Option.map_eq_some_iff.mp ef
    obtain ⟨p, rfl, g1, g2⟩ := R2.dk w2 h2
    have gk := vw_key R2 (w1.ext e2) h1
    subst gk
    exact ⟨p, _, rfl, DGet.k g1, q _ F2 H2 (e1.trans e2) R2 (.bl _)⟩
  · cases ef⟩
theorem et_inK (hu : X.A.units + 65 < cLine) (ha : EW cs X a fa) (hb : EW cs X b fb) (hm : behindInMarks .In b = false) : ET cs X (.Compare a [.In] [b] pos) (opT inKD fa fb) := ⟨pt_imp (pt_cmp (pc_din (by omega) ha.h hb.h) hm) fun σ H Q ⟨Z, F, ρ, k0, R, ef, q⟩ => by
  unfold opT op2 at ef
  obtain ⟨r0, ef, er⟩ := Option.bind_eq_some_iff.mp ef
  obtain ⟨x, ea, ef⟩ := Option.bind_eq_some_iff.mp ef
  obtain ⟨y, eb, ef⟩ := Option.bind_eq_some_iff.mp ef
  refine ⟨Z, F, ρ, x, R, ea, fun v F1 H1 e1 R1 w1 => ⟨Z, F1, ρ, y, R1, eb, fun u F2 H2 e2 R2 w2 => ?_⟩⟩
  unfold inKD at ef
  split at ef
  · obtain ⟨k, h1, ef⟩ := Option.bind_eq_some_iff.mp ef
    obtain ⟨kvs, h2, rfl⟩ := Option.map_eq_some_iff.mp ef
    obtain ⟨p, rfl, g1, g2⟩ := R2.dk w2 h2
    have gk := vw_key R2 (w1.ext e2) h1
    subst gk
    cases er
    exact ⟨p, _, rfl, DGet.k g1, _, rfl, q F2 H2 (e1.trans e2) R2⟩
  · cases ef⟩
theorem et_ninK (hu : X.A.units + 65 < cLine) (ha : EW cs X a fa) (hb : EW cs X b fb) (hm : behindInMarks .NotIn b = false) : ET cs X (.Compare a [.NotIn] [b] pos) (opT ninKD fa fb) := ⟨pt_imp (pt_cmp (pc_dnotin (by omega) ha.h hb.h) hm) fun σ H Q ⟨Z, F, ρ, k0, R, ef, q⟩ => by
  unfold opT op2 at ef
  obtain ⟨r0, ef, er⟩ := Option.bind_eq_some_iff.mp ef
  obtain ⟨x, ea, ef⟩ := Option.bind_eq_some_iff.mp ef
  obtain ⟨y, eb, ef⟩ := Option.bind_eq_some_iff.mp ef
  refine ⟨Z, F, ρ, x, R, ea, fun v F1 H1 e1 R1 w1 => ⟨Z, F1, ρ, y, R1, eb, fun u F2 H2 e2 R2 w2 => ?_⟩⟩
  unfold ninKD at ef
  split at ef
  · obtain ⟨k, h1, ef⟩ := Option.bind_eq_some_iff.mp ef
    obtain ⟨kvs, h2, rfl⟩ := Option.map_eq_some_iff.mp ef
    obtain ⟨p, rfl, g1, g2⟩ := R2.dk w2 h2
    have gk := vw_key R2 (w1.ext e2) h1
    subst gk
    cases er
    exact ⟨p, _, rfl, DGet.k g1, _, rfl, q F2 H2 (e1.trans e2) R2⟩
  · cases ef⟩
/-- {} -/
theorem e_dnew : EN cs X (.Dict [] [] pos) (fun _ => some (.dict [])) := ⟨pe_imp pe_dnewK fun σ H Q ⟨Z, F, ρ, d, R, ef, q⟩ p hp => by
  cases ef
  obtain ⟨R1, fp, zp, mp⟩ := R.made (o := .dK []) hp
  exact q p F _ (Ext.refl F) R1 fp zp mp (.inl ⟨[], upd_same, rfl, rfl⟩)⟩
/-- list(d) -/
def listKD : List D → Option D
  | [.dict es] => (decK es).map fun kvs => .list (kvs.map fun kv => kD kv.1)
  | _ => none
theorem rp_key {K : PySem.W.Frag} {F : Hp} (k : Key) : Rp K F (kV k) (kD k) := by
  cases k with
  | inl i => exact .int i
  | inr x => exact .str x
theorem rps_keys {K : PySem.W.Frag} {F : Hp} : ∀ kvs : List (Key × V), Rps K F (kvs.map fun kv => kV kv.1) (kvs.map fun kv => kD kv.1)
  | [] => .nil
  | p :: r => .cons (rp_key p.1) (rps_keys r)
theorem cn_listK (hc : X.calm = true) : CallR X (.type "list") (rNs X.K cs listKD) := by
  rintro pins s σ H xs us Q I r ⟨Z, F, σ', ρ, ds, d, R, w, e, q⟩
  unfold listKD at e
  split at e
  · obtain ⟨kvs, e1, rfl⟩ := Option.map_eq_some_iff.mp e
    obtain ⟨v, rfl, w1⟩ := vws1 w
    obtain ⟨a, rfl, h1, h2⟩ := R.dk w1 e1
    refine call_list_dK hc pins s σ H _ us Q I r ⟨a, kvs, rfl, h1, fun l hl => ?_⟩
    obtain ⟨R4, fp, zp, mp⟩ := R.made (o := .lst (kvs.map fun kv => kV kv.1)) hl
    exact q l F _ (Ext.refl F) R4 fp zp mp ⟨_, upd_same, rps_keys kvs⟩
  · cases e
end

/-! ## what a frame's own things become -/
def Cell.put : Cell → D → Cell
  | .sh _, d => .sh d
  | .ow _, d => .ow d
  | .io a _, d => .io a d
theorem Cell.put_mine {c : Cell} {d : D} : (c.put d).mine = c.mine := by cases c <;> rfl
theorem Cell.put_got {c : Cell} {d : D} : (c.put d).got = d := by cases c <;> rfl
section
variable {K : PySem.W.Frag} {cs : List Addr} {Z F H : Hp} {σ : L2.St} {ρ : Nv} {c : Cell} {d : D} {a : Addr} {i : Nat} {o : HO}
theorem Rep.mut (R : Rep K cs Z F H σ ρ) (h1 : ρ[i]? = some (some c)) (h2 : c.mine = true) (h3 : σ[i]? = some (some (.ref a))) (ow : Own K F (upd H a o) a d) : Rep K cs Z F (upd H a o) σ (ρ.set i (some (c.put d))) := by
  obtain ⟨a', e', fa, za, _⟩ := R.mine i c h1 h2
  rw [h3] at e'
  cases e'
  have hl : i < ρ.length := (List.getElem?_eq_some_iff.mp h1).1
  have hset : ∀ {j : Nat} {e : Cell}, (ρ.set i (some (c.put d)))[j]? = some (some e) → (j = i ∧ e = c.put d) ∨ (j ≠ i ∧ ρ[j]? = some (some e)) := fun {j e} h => by
    by_cases hj : j = i
    · subst hj
      rw [List.getElem?_set_self hl] at h
      cases h
      exact .inl ⟨rfl, rfl⟩
    · rw [List.getElem?_set_ne (Ne.symm hj)] at h
      exact .inr ⟨hj, h⟩
  refine ⟨by rw [List.length_set]; exact R.len, fun b u e => ?_, fun b u e => ?_, fun j e g1 g2 => ?_, fun j e g1 => ?_, fun j k c1 c2 b g1 g2 g3 g4 g5 g6 => ?_, fun j b e g1 => ?_, R.tab⟩
  · rw [upd_ne (ne_of_none e fa)]
    exact R.fh b u e
  · obtain ⟨q1, q2⟩ := R.zh b u e
    rw [upd_ne (ne_of_none e za)]
    exact ⟨q1, q2⟩
  · rcases hset g1 with ⟨rfl, rfl⟩ | ⟨hj, g⟩
    · exact ⟨a, h3, fa, za, by rw [Cell.put_got]; exact ow⟩
    · obtain ⟨b, q1, q2, q3, q4⟩ := R.mine j e g g2
      have hne : b ≠ a := fun z => hj (R.inj j i e c a g g2 h1 h2 (by rw [← z]; exact q1) h3)
      exact ⟨b, q1, q2, q3, q4.ext (Ext.refl F) (upd_ne hne)⟩
  · rcases hset g1 with ⟨rfl, e2⟩ | ⟨hj, g⟩
    · cases c with
      | sh _ => cases h2
      | ow _ => cases e2
      | io _ _ => cases e2
    · exact R.sh j e g
  · have f1 : ∃ c1', ρ[j]? = some (some c1') ∧ c1'.mine = true := by
      rcases hset g1 with ⟨rfl, rfl⟩ | ⟨_, g⟩
      · exact ⟨c, h1, h2⟩
      · exact ⟨c1, g, g2⟩
    have f2 : ∃ c2', ρ[k]? = some (some c2') ∧ c2'.mine = true := by
      rcases hset g3 with ⟨rfl, rfl⟩ | ⟨_, g⟩
      · exact ⟨c, h1, h2⟩
      · exact ⟨c2, g, g4⟩
    obtain ⟨d1, x1, y1⟩ := f1
    obtain ⟨d2, x2, y2⟩ := f2
    exact R.inj j k d1 d2 b x1 y1 x2 y2 g5 g6
  · rcases hset g1 with ⟨rfl, e2⟩ | ⟨hj, g⟩
    · cases c with
      | sh _ => cases h2
      | ow _ => cases e2
      | io _ _ =>
        cases e2
        exact R.io j _ _ h1
    · exact R.io j b e g
end
/-- a change of what slot i names -/
def mutS (i : Nat) (op : D → Option D) : Nv → Option SR := fun ρ => match ρ[i]? with
  | some (some c) => if c.mine = true then (op c.got).map fun d => .nx (ρ.set i (some (c.put d))) else none
  | _ => none
def appD (x : D) : D → Option D
  | .list xs => if xs.length < 100000 then some (.list (xs ++ [x])) else none
  | _ => none
def revD : D → Option D
  | .list xs => some (.list xs.reverse)
  | _ => none
def appS (i : Nat) (fa : Nv → Option D) : Nv → Option SR := fun ρ => (fa ρ).bind fun x => mutS i (appD x) ρ
/-- d[k] = v on data -/
def putD (k v : D) : D → Option D
  | .dict es => (keyD k).bind fun k => (flatD v).bind fun v => (decK es).bind fun kvs => if kvs.length < 100000 then some (.dict ((putK kvs k v).map enK)) else none
  | _ => none
def putS (i : Nat) (fk fv : Nv → Option D) : Nv → Option SR := fun ρ => (fv ρ).bind fun v => (fk ρ).bind fun k => mutS i (putD k v) ρ
section
variable {cs : List Addr} {X : Cx} {E : XK} {e k : Expr} {x : Str} {p pos apos cpos : Pos} {i : Nat} {fa fk : Nv → Option D}
theorem mutS_some {op : D → Option D} {ρ : Nv} {r : SR} (h : mutS i op ρ = some r) : ∃ c d, ρ[i]? = some (some c) ∧ c.mine = true ∧ op c.got = some d ∧ r = .nx (ρ.set i (some (c.put d))) := by
  unfold mutS at h
  split at h
  · rename_i c hc
    split at h
    · rename_i hm
      obtain ⟨d, h1, rfl⟩ := Option.map_eq_some_iff.mp h
      exact ⟨c, d, hc, hm, h1, rfl⟩
    · cases h
  · cases h
/-- xs.append(e) -/
theorem sd_app (h : PE X (.Name x p) (tVar i)) (ha : EP' cs X e fa) (hbase : attributeBase (.Name x p) "append" X.env (eval (.Name x p) X.env) = eval (.Name x p) X.env := by rfl)
    (hfew : ((backTo cpos (starEach [e] X.env)).all (fun x => !x.1) && (backToKw cpos (keywordEach [] X.env)).all (fun x => x.1.isSome)
      && decide (([e] : List Expr).length + ([] : List Keyword).length + (if ([] : List Keyword).isEmpty then 0 else 1) < 30)) = true := by rfl)
    (hline : (apos.endLine == cpos.line) = true := by rfl) (hs : starEach [e] X.env = (false, eval e X.env) :: starEach [] X.env := by rfl) (hplain : (backTo cpos (starEach [] X.env)).any (·.1) = false := by rfl)
    (hsw : swapsWith (.Call (.Attribute (.Name x p) "append" apos) [e] [] cpos) none pos.line X.env = pure false := by rfl) :
    SD cs X E (.Expr (.Call (.Attribute (.Name x p) "append" apos) [e] [] cpos) pos) (appS i fa) :=
  ⟨ps_imp (ps_expr (pe_bm PySem.F.plainAttrs_list PySem.F.slot_list_append PySem.F.type_list_append mt_append h (pa_cons ha.h pa_nil hs) hbase hfew hline hs hplain) hsw) fun D σ H ⟨Z, F, ρ, r, R, ef, w⟩ => by
  obtain ⟨y, e1, e2⟩ := Option.bind_eq_some_iff.mp ef
  obtain ⟨c, d, hc, hm, e3, rfl⟩ := mutS_some e2
  obtain ⟨a, h1, fa0, za, ow⟩ := R.mine i c hc hm
  unfold appD at e3
  split at e3
  · rename_i xs hg
    split at e3
    · rename_i hlen
      cases e3
      rw [hg] at ow
      obtain ⟨vs, g1, g2⟩ := ow
      refine ⟨.ref a, h1, .inl ⟨rfl, vs, .inl (.inl g1)⟩, Z, F, ρ, y, R, e1, fun v F1 H1 x1 R1 r1 => ?_⟩
      obtain ⟨a', h1', _, _, ow'⟩ := R1.mine i c hc hm
      rw [h1] at h1'
      cases h1'
      rw [hg] at ow'
      obtain ⟨vs', g1', g2'⟩ := ow'
      have hz : vs'.length < sizeLine := by
        rw [g2'.len]
        have : (100000 : Nat) ≤ sizeLine := by decide
        omega
      exact ⟨a, vs', v, rfl, rfl, g1', hz, w σ F1 _ rfl x1 (R1.mut hc hm h1 ⟨_, upd_same, g2'.app (.cons r1 .nil)⟩)⟩
    · cases e3
  · cases e3⟩
/-- xs.reverse() -/
theorem sd_rev (h : PE X (.Name x p) (tVar i)) (hbase : attributeBase (.Name x p) "reverse" X.env (eval (.Name x p) X.env) = eval (.Name x p) X.env := by rfl) (hline : (apos.endLine == cpos.line) = true := by rfl)
    (hsw : swapsWith (.Call (.Attribute (.Name x p) "reverse" apos) [] [] cpos) none pos.line X.env = pure false := by rfl) :
    SD cs X E (.Expr (.Call (.Attribute (.Name x p) "reverse" apos) [] [] cpos) pos) (mutS i revD) :=
  ⟨ps_imp (ps_expr (pe_bm0 PySem.F.plainAttrs_list PySem.F.slot_list_reverse PySem.F.type_list_reverse mt_reverse h hbase hline) hsw) fun D σ H ⟨Z, F, ρ, r, R, ef, w⟩ => by
  obtain ⟨c, d, hc, hm, e3, rfl⟩ := mutS_some ef
  obtain ⟨a, h1, fa0, za, ow⟩ := R.mine i c hc hm
  unfold revD at e3
  split at e3
  · rename_i xs hg
    cases e3
    rw [hg] at ow
    obtain ⟨vs, g1, g2⟩ := ow
    exact ⟨.ref a, h1, .inl ⟨rfl, vs, .inl (.inl g1)⟩, a, vs, rfl, rfl, g1, w σ F _ rfl (Ext.refl F) (R.mut hc hm h1 ⟨_, upd_same, g2.rev⟩)⟩
  · cases e3⟩
/-- d[k] = v, d this frame's own or lent -/
theorem sd_put {spos : Pos} (hu : X.A.units + 65 < cLine) (h : PE X (.Name x p) (tVar i)) (hk : EW cs X k fk) (hv : EP' cs X e fa) (hs : swapsWith e (some (.Subscript (.Name x p) k spos)) pos.line X.env = pure false := by rfl) :
    SD cs X E (.Assign [.Subscript (.Name x p) k spos] e pos) (putS i fk fa) :=
  ⟨ps_imp (ps_dput (by omega) h hk.h hv.h hs) fun D σ H ⟨Z, F, ρ, r, R, ef, w⟩ => by
  obtain ⟨y, e1, e2⟩ := Option.bind_eq_some_iff.mp ef
  obtain ⟨z, e3, e4⟩ := Option.bind_eq_some_iff.mp e2
  obtain ⟨c, d, hc, hm, e5, rfl⟩ := mutS_some e4
  refine ⟨Z, F, ρ, y, R, e1, fun v F1 H1 x1 R1 r1 => ?_⟩
  obtain ⟨a, h1, fa0, za, _⟩ := R1.mine i c hc hm
  refine ⟨.ref a, h1, Z, F1, ρ, z, R1, e3, fun u F2 H2 x2 R2 w2 => ?_⟩
  obtain ⟨a', h1', _, _, ow⟩ := R2.mine i c hc hm
  rw [h1] at h1'
  cases h1'
  unfold putD at e5
  split at e5
  · rename_i es hg
    obtain ⟨k', q1, e5⟩ := Option.bind_eq_some_iff.mp e5
    obtain ⟨v', q2, e5⟩ := Option.bind_eq_some_iff.mp e5
    obtain ⟨kvs, q3, e5⟩ := Option.bind_eq_some_iff.mp e5
    split at e5
    · rename_i hlen
      cases e5
      have gk := vw_key R2 w2 q1
      subst gk
      have gv := vw_flat R1 (.inl r1) q2
      subst gv
      obtain ⟨_, fv⟩ := flatD_some q2
      rw [hg] at ow
      rcases ow with ⟨kvs', g1, g2, g3⟩ | ⟨kvs', g1, g2, g3, g4⟩
      · rw [g3, decK_en g2] at q3
        cases q3
        have hz : kvs.length < sizeLine := by
          have : (100000 : Nat) ≤ sizeLine := by decide
          omega
        refine ⟨a, _, rfl, .inl ⟨kvs, k', g1, rfl, hz, rfl⟩, w σ F2 _ rfl (x1.trans x2) (R2.mut hc hm h1 (.inl ⟨_, upd_same, ?_, rfl⟩))⟩
        rw [List.all_eq_true]
        intro q hq
        unfold putK at hq
        split at hq
        · obtain ⟨q0, hq0, rfl⟩ := List.mem_map.mp hq
          split
          · exact fv
          · exact List.all_eq_true.mp g2 _ hq0
        · rcases List.mem_append.mp hq with hq | hq
          · exact List.all_eq_true.mp g2 _ hq
          · rcases List.mem_cons.mp hq with rfl | hq
            · exact fv
            · cases hq
      · rw [g3] at q3
        exact (g4 (decK_enT q3)).elim
    · cases e5
  · cases e5⟩
/-- a name's own list or dict, shared from now on -/
def shrS (i : Nat) : Nv → Option Nv := fun ρ => match ρ[i]? with
  | some (some (.ow d)) => some (ρ.set i (some (.sh d)))
  | some (some (.sh _)) => some ρ
  | _ => none
theorem sd_share {st : Stmt} {g : Nv → Option SR} (i : Nat) (h : SD cs X E st g) : SD cs X E st (fun ρ => (shrS i ρ).bind g) := ⟨ps_imp h.h fun D σ H ⟨Z, F, ρ, r, R, ef, w⟩ => by
  obtain ⟨ρ', e1, e2⟩ := Option.bind_eq_some_iff.mp ef
  unfold shrS at e1
  split at e1
  · rename_i d hd
    cases e1
    obtain ⟨a, h1, fa0, za, ow⟩ := R.mine i _ hd rfl
    obtain ⟨o, g1, g2⟩ := ow.rp
    have RD : Rep X.K cs Z F H σ (ρ.set i none) := by
      have := R.drop i (some (.ref a))
      have es : σ.set i (some (.ref a)) = σ := by
        refine List.ext_getElem? fun j => ?_
        by_cases hj : j = i
        · subst hj
          rw [List.getElem?_set_self (by rw [List.getElem?_eq_some_iff] at h1; exact h1.1), h1]
        · rw [List.getElem?_set_ne (Ne.symm hj)]
      rw [es] at this
      exact this
    have nm : ¬ Mine σ (ρ.set i none) a := fun ⟨j, c, q1, q2, q3⟩ => by
      by_cases hj : j = i
      · subst hj
        by_cases hl : j < ρ.length
        · rw [List.getElem?_set_self hl] at q1
          cases q1
        · rw [List.getElem?_eq_none (by rw [List.length_set]; omega)] at q1
          cases q1
      · rw [List.getElem?_set_ne (Ne.symm hj)] at q1
        exact hj (R.inj j i c _ a q1 q2 hd rfl q3 h1)
    have RG := RD.give g1 fa0 za nm
    have RS := RG.setSh i (g2 _ (Ext.upd fa0) upd_same)
    rw [List.set_set] at RS
    have es : σ.set i (some (.ref a)) = σ := by
      refine List.ext_getElem? fun j => ?_
      by_cases hj : j = i
      · subst hj
        rw [List.getElem?_set_self (by rw [List.getElem?_eq_some_iff] at h1; exact h1.1), h1]
      · rw [List.getElem?_set_ne (Ne.symm hj)]
    rw [es] at RS
    exact ⟨Z, _, _, r, RS, e2, w.ext (Ext.upd fa0)⟩
  · cases e1
    exact ⟨Z, F, _, r, R, e2, w⟩
  · cases e1⟩
end
end DS

namespace DS
open PySem L2

/-! ## targets that are tuples -/
section
variable {cs : List Addr} {X : Cx} {E : XK} {e a b tg : Expr} {pos : Pos} {fa fb : Nv → Option D} {ga : D → Nv → Option Nv} {fr : Nv → Option (List D)}
theorem sd_asgT (he : EP' cs X e fa) (hg : GD cs X tg ga) (hs : swapsWithSole [tg] e pos.line X.env = pure false := by rfl) (hw : swappedStores [tg] e X.env = pure none := by rfl)
    (h1 : (assignEach [tg] X.env).map (·.2) = [assign tg X.env] := by rfl) : SD cs X E (.Assign [tg] e pos) (fun ρ => (fa ρ).bind fun d => (ga d ρ).map .nx) := ⟨ps_imp (ps_asg he.h hg.h hs hw h1) fun D σ H ⟨Z, F, ρ, r, R, ef, w⟩ => by
  obtain ⟨d, e1, e2⟩ := Option.bind_eq_some_iff.mp ef
  obtain ⟨ρ', e3, rfl⟩ := Option.map_eq_some_iff.mp e2
  exact ⟨Z, F, ρ, d, R, e1, fun v F1 H1 x1 R1 r1 => ⟨Z, F1, ρ, d, ρ', R1, r1, e3, fun σ' F2 H2 l2 x2 R2 => w σ' F2 H2 l2 (x1.trans x2) R2⟩⟩⟩
/-- a, b = x, y -/
def parS (i j : Nat) (fr : Nv → Option (List D)) : Nv → Option SR := fun ρ => (fr ρ).bind fun ds => match ds with
  | [x, y] => some (.nx ((ρ.set i (some (.sh x))).set j (some (.sh y))))
  | _ => none
theorem sd_par {i j : Nat} {x y : Str} {px py pt : Pos} {kt k2 : Nat} {pt2 : Pos} (hc : X.calm = true) (hN : X.N.Nodup) (hi : X.N[i]? = some x) (hj : X.N[j]? = some y) (hij : i ≠ j)
    (hx : X.env.scope.names.lookup x = some .local) (hy : X.env.scope.names.lookup y = some .local) (ha : EPs cs X [a, b] fr)
    (hw : swappedStores [.Tuple [.Name x px, .Name y py] kt pt] (.Tuple [a, b] k2 pt2) X.env = pure (some [x, y]) := by rfl)
    (hs : swapsWithSole [.Tuple [.Name x px, .Name y py] kt pt] (.Tuple [a, b] k2 pt2) pos.line X.env = pure false := by rfl) :
    SD cs X E (.Assign [.Tuple [.Name x px, .Name y py] kt pt] (.Tuple [a, b] k2 pt2) pos) (parS i j fr) := ⟨ps_imp (ps_par hc hN hi hj hij hx hy ha.h hw hs) fun D σ H ⟨Z, F, ρ, r, R, ef, w⟩ => by
  obtain ⟨ds, e1, e2⟩ := Option.bind_eq_some_iff.mp ef
  split at e2
  · rename_i d1 d2
    cases e2
    refine ⟨Z, F, ρ, _, R, e1, fun vs F1 H1 x1 R1 r1 => ?_⟩
    match vs, r1 with
    | [v, u], .cons r1 (.cons r2 .nil) => exact ⟨v, u, rfl, w _ F1 H1 (by rw [List.length_set, List.length_set]) x1 ((R1.setSh i r1).setSh j r2)⟩
  · cases e2⟩
end

/-! ## min of a list -/
def intsD : List D → Option (List Int)
  | [] => some []
  | .int i :: r => (intsD r).map (i :: ·)
  | _ => none
def leastD : List Int → Option Int
  | [] => none
  | i :: r => some (r.foldl (fun a b => if b < a then b else a) i)
def minD : List D → Option D
  | [.list xs] => (intsD xs).bind fun ns => (leastD ns).map .int
  | _ => none
theorem intsD_rps {K : PySem.W.Frag} {F : Hp} : ∀ {vs : List V} {ds : List D} {ns : List Int}, Rps K F vs ds → intsD ds = some ns → vs = ns.map V.int
  | [], [], ns, .nil, h => by cases h; rfl
  | v :: vs, d :: ds, ns, .cons a b, h => by
    cases d with
    | int i =>
      obtain ⟨r, h1, rfl⟩ := Option.map_eq_some_iff.mp h
      cases a
      rw [intsD_rps b h1]
      rfl
    | _ => cases h
theorem fold_least : ∀ (r : List Int) (i : Int), let m := r.foldl (fun a b => if b < a then b else a) i; (m = i ∨ m ∈ r) ∧ m ≤ i ∧ ∀ y ∈ r, m ≤ y
  | [], i => ⟨.inl rfl, Int.le_refl i, fun y h => by cases h⟩
  | b :: r, i => by
    have ih := fold_least r (if b < i then b else i)
    dsimp only at ih ⊢
    rw [List.foldl_cons]
    generalize hm : r.foldl (fun a b => if b < a then b else a) (if b < i then b else i) = m at ih
    obtain ⟨h1, h2, h3⟩ := ih
    have hb : (if b < i then b else i) ≤ b ∧ (if b < i then b else i) ≤ i := by split <;> omega
    refine ⟨?_, by omega, fun y hy => ?_⟩
    · rcases h1 with h1 | h1
      · by_cases hlt : b < i
        · rw [if_pos hlt] at h1
          exact .inr (by rw [h1]; exact List.mem_cons_self)
        · rw [if_neg hlt] at h1
          exact .inl h1
      · exact .inr (List.mem_cons_of_mem _ h1)
    · rcases List.mem_cons.mp hy with rfl | hy
      · omega
      · exact h3 y hy
theorem leastD_is {ns : List Int} {m : Int} (h : leastD ns = some m) : m ∈ ns ∧ ∀ y ∈ ns, m ≤ y := by
  cases ns with
  | nil => cases h
  | cons i r =>
    have q := fold_least r i
    cases h
    obtain ⟨h1, h2, h3⟩ := q
    refine ⟨?_, fun y hy => ?_⟩
    · rcases h1 with h1 | h1
      · rw [h1]
        exact List.mem_cons_self
      · exact List.mem_cons_of_mem _ h1
    · rcases List.mem_cons.mp hy with rfl | hy
      · exact h2
      · exact h3 y hy
theorem least_uniq {ns : List Int} {m m' : Int} (h1 : m ∈ ns) (h2 : ∀ y ∈ ns, m ≤ y) (h3 : m' ∈ ns) (h4 : ∀ y ∈ ns, m' ≤ y) : m = m' := by
  have := h2 m' h3
  have := h4 m h1
  omega
theorem cd_min {cs : List Addr} {X : Cx} (hc : X.calm = true) : CallR X (.builtin "min") (rDs X.K cs minD) := by
  rintro pins s σ H xs us Q I r ⟨Z, F, σ', ρ, ds, d, R, w, e, q⟩
  unfold minD at e
  split at e
  · obtain ⟨ns, e1, e2⟩ := Option.bind_eq_some_iff.mp e
    obtain ⟨m, e3, rfl⟩ := Option.map_eq_some_iff.mp e2
    obtain ⟨v, rfl, w1⟩ := vws1 w
    obtain ⟨a, vs, rfl, s1, r1⟩ := R.lst w1
    have hv := intsD_rps r1 e1
    subst hv
    obtain ⟨g1, g2⟩ := leastD_is e3
    refine cr_min hc pins s σ H _ us Q I r ⟨a, ns, rfl, s1, List.length_pos_of_mem g1, fun m' h1 h2 => ?_⟩
    have := least_uniq h1 h2 g1 g2
    subst this
    exact q _ F H (Ext.refl F) R (.int _)
  · cases e
def enumV (ds : List D) : Option (List D) := match ds with
  | [.list xs] => some (enumD xs)
  | _ => none

/-! ## while, as long as it lasts -/
theorem whileS_up {t : Nv → Option Bool} {g : Nv → Option SR} : ∀ {n : Nat} {ρ : Nv} {r : SR}, whileS t g n ρ = some r → ∀ m, n ≤ m → whileS t g m ρ = some r
  | 0, _, _, h, _, _ => by cases h
  | n + 1, ρ, r, h, 0, hm => by omega
  | n + 1, ρ, r, h, m + 1, hm => by
    rw [whileS] at h ⊢
    obtain ⟨k, e1, e2⟩ := Option.bind_eq_some_iff.mp h
    rw [e1]
    show (if k = true then _ else _) = _
    by_cases hk : k = true
    · rw [if_pos hk] at e2 ⊢
      obtain ⟨r1, e3, e4⟩ := Option.bind_eq_some_iff.mp e2
      rw [e3]
      cases r1 with
      | nx ρ' => exact whileS_up (n := n) e4 m (by omega)
      | ct ρ' => exact whileS_up (n := n) e4 m (by omega)
      | bk ρ' => exact e4
      | rt d o ρ' => exact e4
      | exc c => exact e4
    · rw [if_neg hk] at e2 ⊢
      exact e2
open Classical in
noncomputable def fuelC (t : Nv → Option Bool) (g : Nv → Option SR) (ρ : Nv) : Nat := if h : ∃ n r, whileS t g n ρ = some r then Classical.choose h else 0
noncomputable def whileC (t : Nv → Option Bool) (g : Nv → Option SR) : Nv → Option SR := fun ρ => whileS t g (fuelC t g ρ) ρ
theorem whileC_is {t : Nv → Option Bool} {g : Nv → Option SR} {n : Nat} {ρ : Nv} {r : SR} (h : whileS t g n ρ = some r) : whileC t g ρ = some r := by
  have hx : ∃ n r, whileS t g n ρ = some r := ⟨n, r, h⟩
  obtain ⟨r', h'⟩ := Classical.choose_spec hx
  unfold whileC fuelC
  rw [dif_pos hx]
  rw [h']
  have a1 := whileS_up h (max n (Classical.choose hx)) (Nat.le_max_left _ _)
  have a2 := whileS_up h' (max n (Classical.choose hx)) (Nat.le_max_right _ _)
  rw [a1] at a2
  exact a2.symm

/-! ## dict comprehensions with plain keys -/
def dcD (i : Nat) (t : Nv → Option Bool) (fk fv : Nv → Option D) (ρ : Nv) : List D → List (Key × V) → Option (List (Key × V))
  | [], acc => some acc
  | x :: xs, acc => (t (ρ.set i (some (.sh x)))).bind fun b => if b = true then (fk (ρ.set i (some (.sh x)))).bind fun y => (keyD y).bind fun k => (fv (ρ.set i (some (.sh x)))).bind fun z => (flatD z).bind fun v => dcD i t fk fv ρ xs (putK acc k v) else dcD i t fk fv ρ xs acc
def dcV (i : Nat) (f : Nv → Option (List D)) (t : Nv → Option Bool) (fk fv : Nv → Option D) : Nv → Option D := fun ρ => (f ρ).bind fun ds => if noMine ρ i = true ∧ ds.length ≤ 100000 then (dcD i t fk fv ρ ds []).map fun kvs => .dict (kvs.map enK) else none
theorem flat_put {kvs : List (Key × V)} {k : Key} {v : V} (h : (kvs.all fun p => flat p.2) = true) (hv : flat v = true) : ((putK kvs k v).all fun p => flat p.2) = true := by
  rw [List.all_eq_true] at h ⊢
  intro q hq
  unfold putK at hq
  split at hq
  · obtain ⟨q0, hq0, rfl⟩ := List.mem_map.mp hq
    split
    · exact hv
    · exact h _ hq0
  · rcases List.mem_append.mp hq with hq | hq
    · exact h _ hq
    · rcases List.mem_cons.mp hq with rfl | hq
      · exact hv
      · cases hq
section
variable {cs : List Addr} {X : Cx} {kx vx iter : Expr} {ifs : List Expr} {scope : Scope} {x : Str} {i : Nat} {px pos : Pos} {f : Nv → Option (List D)} {t : Nv → Option Bool} {fk fv : Nv → Option D}
theorem e_dc (hc : X.calm = true) (hN : X.N.Nodup) (hix : X.N[i]? = some x) (hi : EI cs X SetP (.Name x px) iter f) (ok : BlkOk X.N X.env.scope scope [(x, i)])
    (hl : ∀ (s : Shared) (H : Hp) (C : Addr) (cl : List (Str × Addr)) (fp : List Addr), (X.blk s H scope (compEnvC scope cl C X.env) fp).env.scope.names.lookup x = some .local)
    (ht : ∀ (s : Shared) (H : Hp) (C : Addr) (cl : List (Str × Addr)) (fp : List Addr), ETs cs (X.blk s H scope (compEnvC scope cl C X.env) fp) ifs t)
    (hk : ∀ (s : Shared) (H : Hp) (C : Addr) (cl : List (Str × Addr)) (fp : List Addr), EP' cs (X.blk s H scope (compEnvC scope cl C X.env) fp) kx fk)
    (he : ∀ (s : Shared) (H : Hp) (C : Addr) (cl : List (Str × Addr)) (fp : List Addr), EP' cs (X.blk s H scope (compEnvC scope cl C X.env) fp) vx fv) (hs : ∀ x, foldedSetIterable iter X.env x = pure x := by intro _; rfl) :
    EN cs X (.DictComp kx vx [⟨.Name x px, iter, ifs, 0⟩] scope pos) (dcV i f t fk fv) := by
  refine ⟨pe_imp (pe_dc (own := [(x, i)]) (g := gName i) (tt := tPT X.K cs t) (tk := tP X.K cs fk) (tv := tP X.K cs fv) hc hN hi.h ok (fun s H C cl fp => pg_name (X := X.blk s H scope (compEnvC scope cl C X.env) fp) (i := i) hN hix (.inl (hl s H C cl fp)) (.inr (hl s H C cl fp))) (fun s H C cl fp => (ht s H C cl fp).h) (fun s H C cl fp => (hk s H C cl fp).h) (fun s H C cl fp => (he s H C cl fp).h) hs) ?_⟩
  rintro σ H Q ⟨Z, F, ρ, d, R, ef, q⟩
  obtain ⟨ds, e1, e2⟩ := Option.bind_eq_some_iff.mp ef
  split at e2
  · rename_i hb
    obtain ⟨hn, hdl⟩ := hb
    obtain ⟨ys, e3, rfl⟩ := Option.map_eq_some_iff.mp e2
    refine ⟨Z, F, ρ, ds, R, e1, fun J P F1 H1 x1 R1 p1 hP S D hD => ?_⟩
    obtain ⟨R2, fD, zD, mD⟩ := R1.made (o := .dK []) hD
    have R3 := R2.aside upd_same fD mD
    have R4 : Rep X.K cs (upd Z D (.dK [])) F1 (upd H1 D (.dK [])) (σ.set i none) (ρ.set i none) := R3.drop i none
    have pS : P F1 (σ.set i none) (ρ.set i none) := hP _ _ _ _ _ _ hn p1
    refine ⟨fun k m H2 => k + m = ds.length ∧ ∃ F2 acc, Ext F1 F2 ∧ Rep X.K cs (upd Z D (.dK acc)) F2 H2 (σ.set i none) (ρ.set i none) ∧ P F2 (σ.set i none) (ρ.set i none) ∧ (acc.all fun p => flat p.2) = true ∧ acc.length ≤ k ∧ dcD i t fk fv ρ (ds.drop k) acc = some ys,
      ⟨ds.length, by omega, F1, [], Ext.refl F1, R4, pS, rfl, Nat.le_refl _, by rw [List.drop_zero]; exact e3⟩, ?_⟩
    rintro k m H2 ⟨hm, F2, acc, x2, R5, p5, r5, la, e5⟩
    by_cases hlt : k < ds.length
    · have hd : ds.drop k = ds[k] :: ds.drop (k + 1) := List.drop_eq_getElem_cons hlt
      rw [hd, dcD] at e5
      obtain ⟨b, e6, e7⟩ := Option.bind_eq_some_iff.mp e5
      obtain ⟨hgo, hyl⟩ := S.go _ F2 H2 _ _ k ds[k] R5 p5 (List.getElem?_eq_getElem hlt)
      refine .inr ⟨hgo, fun H3 => ∃ m', m' < m ∧ (k + 1) + m' = ds.length ∧ ∃ F3 acc, Ext F1 F3 ∧ Rep X.K cs (upd Z D (.dK acc)) F3 H3 (σ.set i none) (ρ.set i none) ∧ P F3 (σ.set i none) (ρ.set i none) ∧ (acc.all fun p => flat p.2) = true ∧ acc.length ≤ k + 1 ∧ dcD i t fk fv ρ (ds.drop (k + 1)) acc = some ys, fun H3 h => h, fun v H3 hyv => ?_⟩
      obtain ⟨F3, x3, R6, r6⟩ := hyl v H3 hyv
      have R7 := R6.setSh i r6
      have sset : ∀ w : Option V, (σ.set i none).set i w = σ.set i w := fun w => by rw [List.set_set]
      have rset : ∀ c : Option Cell, (ρ.set i none).set i c = ρ.set i c := fun c => by rw [List.set_set]
      rw [sset, rset] at R7
      refine ⟨?_, ?_⟩
      · show ((σ.set i none).set i (some v)).set i none = σ.set i none
        rw [List.set_set, List.set_set]
      · have hw : List.set (wipe σ (List.map (fun x => x.snd) [(x, i)])) i (some v) = σ.set i (some v) := sset (some v)
        rw [hw]
        refine ⟨_, F3, _, b, R7, e6, fun F4 H4 x4 R8 => ?_⟩
        have back : ∀ {F5 H5 : Hp} {acc' : List (Key × V)}, Rep X.K cs (upd Z D (.dK acc')) F5 H5 (σ.set i (some v)) (ρ.set i (some (.sh ds[k]))) → Rep X.K cs (upd Z D (.dK acc')) F5 H5 (σ.set i none) (ρ.set i none) := fun {F5 H5 acc'} r => by
          have := r.drop i none
          rw [List.set_set, List.set_set] at this
          exact this
        by_cases hb : b = true
        · rw [if_pos hb] at e7
          show if b = true then _ else _
          rw [if_pos hb]
          obtain ⟨y, e8, e9⟩ := Option.bind_eq_some_iff.mp e7
          obtain ⟨ky, e10, e11⟩ := Option.bind_eq_some_iff.mp e9
          obtain ⟨z, e12, e13⟩ := Option.bind_eq_some_iff.mp e11
          obtain ⟨vz, e14, e15⟩ := Option.bind_eq_some_iff.mp e13
          refine ⟨_, F4, _, y, R8, e8, fun u F5 H5 x5 R9 r9 => ⟨_, F5, _, z, R9, e12, fun u2 F6 H6 x6 R10 r10 => ?_⟩⟩
          have gk := vw_key R9 (.inl r9) e10
          subst gk
          have gv := vw_flat R10 (.inl r10) e14
          subst gv
          obtain ⟨_, fz⟩ := flatD_some e14
          refine ⟨acc, ky, rfl, (R10.zh D _ upd_same).1, ?_, ?_⟩
          · have : (100000 : Nat) ≤ sizeLine := by decide
            omega
          · have x26 : Ext F2 F6 := ((x3.trans x4).trans x5).trans x6
            have hl := length_putK acc ky u2
            exact ⟨m - 1, by omega, by omega, F6, putK acc ky u2, x2.trans x26, back R10.asideSet, S.mono _ _ _ _ x26 p5, flat_put r5 fz, by omega, e15⟩
        · rw [if_neg hb] at e7
          show if b = true then _ else _
          rw [if_neg hb]
          have x24 : Ext F2 F4 := x3.trans x4
          exact ⟨m - 1, by omega, by omega, F4, acc, x2.trans x24, back R8, S.mono _ _ _ _ x24 p5, r5, by omega, e7⟩
    · have hd : ds.drop k = [] := List.drop_of_length_le (by omega)
      rw [hd] at e5
      cases e5
      refine .inl ⟨S.stop _ F2 H2 _ _ k R5 p5 (by omega), ?_⟩
      obtain ⟨hDH, hDF⟩ := R5.zh D _ upd_same
      have RB : Rep X.K cs Z F2 H2 σ ρ := R1.restore hn (fun _ z => by cases z) x2 (fun a o h => by
        have ha : a ≠ D := ne_of_none h zD
        rw [upd_ne ha]
        exact h) R5
      exact q D F2 H2 (x1.trans x2) RB hDF zD mD (.inl ⟨_, hDH, r5, rfl⟩)
  · cases e2
end
end DS

namespace DS
open PySem L2
open Classical

/-! ## calls that change one argument -/
/-- the arguments: that at slot j is lent, the others are shared -/
inductive ArgX (K : PySem.W.Frag) (F : Hp) (σ : L2.St) (ρ : Nv) (j : Nat) : List Md → List V → List D → Prop
  | io {c : Cell} {a : Addr} {vs : List V} {ds : List D} {ms : List Md} : ρ[j]? = some (some c) → c.mine = true → σ[j]? = some (some (.ref a)) → (∀ m ∈ ms, m = .ro) → ms.length = ds.length → Rps K F vs ds → ArgX K F σ ρ j (.io :: ms) (.ref a :: vs) (c.got :: ds)
  | ro {v : V} {d : D} {ms : List Md} {vs : List V} {ds : List D} : Rp K F v d → ArgX K F σ ρ j ms vs ds → ArgX K F σ ρ j (.ro :: ms) (v :: vs) (d :: ds)
section
variable {K : PySem.W.Frag} {cs : List Addr} {Z F F' H H' : Hp} {σ σ' : L2.St} {ρ ρ' : Nv} {j : Nat} {ms : List Md} {vs : List V} {ds : List D}
/-- how the arguments lie -/
theorem ArgX.look (A : ArgX K F σ ρ j ms vs ds) : ∃ (pos : Nat) (c : Cell) (a : Addr), ρ[j]? = some (some c) ∧ c.mine = true ∧ σ[j]? = some (some (.ref a)) ∧ vs.length = ms.length ∧ ds.length = ms.length ∧ ioOk ms vs = true ∧ vs[pos]? = some (.ref a) ∧
    (∀ i c', (argNv ms vs ds)[i]? = some (some c') → (∃ d v, c' = .sh d ∧ vs[i]? = some v ∧ Rp K F v d) ∨ (i = pos ∧ c' = .io a c.got)) ∧ (argNv ms vs ds).length = vs.length ∧
    ∀ d', (outNv ms vs [d'])[pos]? = some (some (.io a d')) := by
  induction A with
  | @io c a vs ds ms h1 h2 h3 hro hl r =>
    have hv : vs.length = ms.length := by rw [r.len, hl]
    refine ⟨0, c, a, h1, h2, h3, by simp [hv], by simp [hl], show ioOk ms vs = true from ioOk_ro hro, rfl, fun i c' h => ?_, ?_, fun d' => rfl⟩
    · have e : argNv (.io :: ms) (.ref a :: vs) (c.got :: ds) = some (.io a c.got) :: argNv ms vs ds := rfl
      rw [e, argNv_ro hro hv hl.symm] at h
      cases i with
      | zero =>
        cases h
        exact .inr ⟨rfl, rfl⟩
      | succ i =>
        obtain ⟨d, g1, rfl⟩ := shs_get (i := i) (by simpa using h)
        obtain ⟨v, g2, g3⟩ := r.get g1
        exact .inl ⟨d, v, rfl, by simpa using g2, g3⟩
    · have e : argNv (.io :: ms) (.ref a :: vs) (c.got :: ds) = some (.io a c.got) :: argNv ms vs ds := rfl
      rw [e, argNv_ro hro hv hl.symm, List.length_cons, List.length_map, List.length_cons, r.len]
  | @ro v d ms vs ds r A ih =>
    obtain ⟨pos, c, a, h1, h2, h3, h4, h5, h6, h7, h8, h9, h10⟩ := ih
    have e : argNv (.ro :: ms) (v :: vs) (d :: ds) = some (.sh d) :: argNv ms vs ds := rfl
    refine ⟨pos + 1, c, a, h1, h2, h3, by simp [h4], by simp [h5], ?_, by simpa using h7, fun i c' h => ?_, by rw [e, List.length_cons, h9, List.length_cons], fun d' => ?_⟩
    · cases v <;> exact h6
    · rw [e] at h
      cases i with
      | zero =>
        cases h
        exact .inl ⟨d, v, rfl, rfl, r⟩
      | succ i =>
        rcases h8 i c' (by simpa using h) with ⟨d', v', g1, g2, g3⟩ | ⟨g1, g2⟩
        · exact .inl ⟨d', v', g1, by simpa using g2, g3⟩
        · exact .inr ⟨by omega, g2⟩
    · have e2 : outNv (.ro :: ms) (v :: vs) [d'] = none :: outNv ms vs [d'] := by cases v <;> rfl
      rw [e2]
      simpa using h10 d'
theorem ArgX.ext (e : Ext F F') (A : ArgX K F σ ρ j ms vs ds) : ArgX K F' σ ρ j ms vs ds := by
  induction A with
  | io h1 h2 h3 hro hl r => exact .io h1 h2 h3 hro hl (r.ext e)
  | ro r _ ih => exact .ro (r.ext e) ih
/-- what is others' for the callee: all but what is lent -/
noncomputable def othX (a : Addr) (F H : Hp) : Hp := fun b => if b = a then none else oth F H b
theorem othX_of {a b : Addr} {o : HO} (hb : b ≠ a) (h : F b = none) (e : H b = some o) : othX a F H b = some o := by
  unfold othX
  rw [if_neg hb]
  exact oth_of h e
theorem of_othX {a b : Addr} {o : HO} (h : othX a F H b = some o) : H b = some o ∧ F b = none ∧ b ≠ a := by
  unfold othX at h
  split at h
  · cases h
  · rename_i hb
    obtain ⟨h1, h2⟩ := of_oth h
    exact ⟨h1, h2, hb⟩
end
section
variable {K : PySem.W.Frag} {cs : List Addr} {Z F F' H H' : Hp} {σ : L2.St} {ρ : Nv} {j : Nat} {ms : List Md} {vs : List V} {ds : List D} {c : Cell} {a : Addr} {d' v : D}
theorem Rep.lendX (R : Rep K cs Z F H σ ρ) (A : ArgX K F σ ρ j ms vs ds) (h1 : ρ[j]? = some (some c)) (h2 : c.mine = true) (h3 : σ[j]? = some (some (.ref a))) :
    Rep K cs (othX a F H) F H (vs.map some) (argNv ms vs ds) := by
  obtain ⟨pos, c0, a0, g1, g2, g3, g4, g5, g6, g7, g8, g9, g10⟩ := A.look
  rw [h1] at g1
  cases g1
  rw [h3] at g3
  cases g3
  obtain ⟨a', q1, q2, q3, q4⟩ := R.mine j c h1 h2
  rw [h3] at q1
  cases q1
  refine ⟨by rw [List.length_map, g9], R.fh, fun b o h => ?_, fun i e k1 k2 => ?_, fun i d k1 => ?_, fun i k e1 e2 b k1 k2 k3 k4 _ _ => ?_, fun i b d k1 => ?_, R.tab⟩
  · obtain ⟨x1, x2, _⟩ := of_othX h
    exact ⟨x1, x2⟩
  · rcases g8 i e k1 with ⟨d, v, rfl, _, _⟩ | ⟨rfl, rfl⟩
    · cases k2
    · refine ⟨a, by rw [List.getElem?_map, g7]; rfl, q2, ?_, q4⟩
      unfold othX
      rw [if_pos rfl]
  · rcases g8 i _ k1 with ⟨d', v, e, x1, x2⟩ | ⟨_, e⟩
    · cases e
      exact ⟨v, by rw [List.getElem?_map, x1]; rfl, x2⟩
    · cases e
  · rcases g8 i e1 k1 with ⟨_, _, rfl, _, _⟩ | ⟨r1, _⟩
    · cases k2
    · rcases g8 k e2 k3 with ⟨_, _, rfl, _, _⟩ | ⟨r2, _⟩
      · cases k4
      · rw [r1, r2]
  · rcases g8 i _ k1 with ⟨_, _, e, _, _⟩ | ⟨r1, e⟩
    · cases e
    · cases e
      rw [r1, List.getElem?_map, g7]
      rfl
theorem Rep.backX (R : Rep K cs Z F H σ ρ) (A : ArgX K F σ ρ j ms vs ds) (h1 : ρ[j]? = some (some c)) (h2 : c.mine = true) (h3 : σ[j]? = some (some (.ref a))) (e : Ext F F') (R' : Rep K cs (othX a F H) F' H' (vs.map some) (outNv ms vs [d'])) :
    Rep K cs Z F' H' σ (ρ.set j (some (c.put d'))) := by
  obtain ⟨pos, c0, a0, g1, g2, g3, g4, g5, g6, g7, g8, g9, g10⟩ := A.look
  rw [h1] at g1
  cases g1
  rw [h3] at g3
  cases g3
  obtain ⟨a', q1, q2, q3, q4⟩ := R.mine j c h1 h2
  rw [h3] at q1
  cases q1
  obtain ⟨b', p1, p2, p3, p4⟩ := R'.mine pos _ (g10 d') rfl
  rw [List.getElem?_map, g7] at p1
  cases p1
  have hl : j < ρ.length := (List.getElem?_eq_some_iff.mp h1).1
  have hset : ∀ {i : Nat} {e : Cell}, (ρ.set j (some (c.put d')))[i]? = some (some e) → (i = j ∧ e = c.put d') ∨ (i ≠ j ∧ ρ[i]? = some (some e)) := fun {i e} h => by
    by_cases hj : i = j
    · subst hj
      rw [List.getElem?_set_self hl] at h
      cases h
      exact .inl ⟨rfl, rfl⟩
    · rw [List.getElem?_set_ne (Ne.symm hj)] at h
      exact .inr ⟨hj, h⟩
  refine ⟨by rw [List.length_set]; exact R.len, R'.fh, fun b o h => ?_, fun i e1 k1 k2 => ?_, fun i d k1 => ?_, fun i k c1 c2 b k1 k2 k3 k4 k5 k6 => ?_, fun i b e1 k1 => ?_, R'.tab⟩
  · obtain ⟨x1, x2⟩ := R.zh b o h
    exact R'.zh b o (othX_of (ne_of_none h q3) x2 x1)
  · rcases hset k1 with ⟨rfl, rfl⟩ | ⟨hj, k⟩
    · exact ⟨a, h3, p2, q3, by rw [Cell.put_got]; exact p4⟩
    · obtain ⟨b, x1, x2, x3, x4⟩ := R.mine i e1 k k2
      have hne : b ≠ a := fun z => hj (R.inj i j e1 c a k k2 h1 h2 (by rw [← z]; exact x1) h3)
      obtain ⟨ob, x5, _⟩ := x4.rp
      obtain ⟨x6, x7⟩ := R'.zh b ob (othX_of hne x2 x5)
      exact ⟨b, x1, x7, x3, x4.ext e (by rw [x6, x5])⟩
  · rcases hset k1 with ⟨rfl, e2⟩ | ⟨hj, k⟩
    · cases c with
      | sh _ => cases h2
      | ow _ => cases e2
      | io _ _ => cases e2
    · obtain ⟨v, x1, x2⟩ := R.sh i d k
      exact ⟨v, x1, x2.ext e⟩
  · have f1 : ∃ c1', ρ[i]? = some (some c1') ∧ c1'.mine = true := by
      rcases hset k1 with ⟨rfl, rfl⟩ | ⟨_, g⟩
      · exact ⟨c, h1, h2⟩
      · exact ⟨c1, g, k2⟩
    have f2 : ∃ c2', ρ[k]? = some (some c2') ∧ c2'.mine = true := by
      rcases hset k3 with ⟨rfl, rfl⟩ | ⟨_, g⟩
      · exact ⟨c, h1, h2⟩
      · exact ⟨c2, g, k4⟩
    obtain ⟨d1, x1, y1⟩ := f1
    obtain ⟨d2, x2, y2⟩ := f2
    exact R.inj i k d1 d2 b x1 y1 x2 y2 k5 k6
  · rcases hset k1 with ⟨rfl, e2⟩ | ⟨hj, k⟩
    · cases c with
      | sh _ => cases h2
      | ow _ => cases e2
      | io _ _ =>
        cases e2
        exact R.io i _ _ h1
    · exact R.io i b e1 k
end

/-! ### expressions that change what slot j names -/
def tX (K : PySem.W.Frag) (cs : List Addr) (f : Nv → Option (D × Nv)) : TE := fun σ H Q => ∃ Z F ρ d ρ', Rep K cs Z F H σ ρ ∧ f ρ = some (d, ρ') ∧ ∀ v F' H', Ext F F' → Rep K cs Z F' H' σ ρ' → Rp K F' v d → Q v H'
def tXT (K : PySem.W.Frag) (cs : List Addr) (f : Nv → Option (Bool × Nv)) : TT := fun σ H Q => ∃ Z F ρ b ρ', Rep K cs Z F H σ ρ ∧ f ρ = some (b, ρ') ∧ ∀ F' H', Ext F F' → Rep K cs Z F' H' σ ρ' → Q b H'
def tAX (K : PySem.W.Frag) (cs : List Addr) (ms : List Md) (j : Nat) (f : Nv → Option (List D)) : TA := fun σ H Q => ∃ Z F ρ ds, Rep K cs Z F H σ ρ ∧ f ρ = some ds ∧ ∀ vs F' H', Ext F F' → Rep K cs Z F' H' σ ρ → ArgX K F' σ ρ j ms vs ds → Q vs H'
section
variable (cs : List Addr) (X : Cx)
structure EX (e : Expr) (f : Nv → Option (D × Nv)) : Prop where
  h : PE X e (tX X.K cs f)
structure EXT (e : Expr) (f : Nv → Option (Bool × Nv)) : Prop where
  h : PT X e (tXT X.K cs f)
structure EXW (e : Expr) (f : Nv → Option (Bool × Nv)) : Prop where
  h : PW X e (tXT X.K cs f)
structure EXs (ms : List Md) (j : Nat) (es : List Expr) (f : Nv → Option (List D)) : Prop where
  h : PA X es (tAX X.K cs ms j f)
end
def nmM (j : Nat) : Nv → Option D := fun ρ => match ρ[j]? with
  | some (some c) => if c.mine = true then some c.got else none
  | _ => none
theorem nmM_some {j : Nat} {ρ : Nv} {d : D} (h : nmM j ρ = some d) : ∃ c, ρ[j]? = some (some c) ∧ c.mine = true ∧ c.got = d := by
  unfold nmM at h
  split at h
  · rename_i c hc
    split at h
    · rename_i hm
      cases h
      exact ⟨c, hc, hm, rfl⟩
    · cases h
  · cases h
section
variable {cs : List Addr} {X : Cx} {E : XK} {e a b : Expr} {es rest : List Expr} {x : Str} {p pos : Pos} {ms : List Md} {j : Nat} {fa : Nv → Option D} {fr : Nv → Option (List D)} {gx : Nv → Option (Bool × Nv)} {fx : Nv → Option (D × Nv)} {ga : Nv → Option Bool} {g g' : Nv → Option SR}
theorem eps_len {K : PySem.W.Frag} {F : Hp} {vs : List V} {ds : List D} (h : Rps K F vs ds) : vs.length = ds.length := h.len
theorem x_io (h : PE X (.Name x p) (tVar j)) (hr : EPs cs X es fr) (hro : ∀ m ∈ ms, m = .ro) (n : Nat) (hn : ms.length = n) (hs : starEach (.Name x p :: es) X.env = (false, eval (.Name x p) X.env) :: starEach es X.env := by rfl) :
    EXs cs X (.io :: ms) j (.Name x p :: es) (fun ρ => (nmM j ρ).bind fun d => (fr ρ).bind fun ds => if ds.length = n then some (d :: ds) else none) := ⟨pa_imp (pa_cons h hr.h hs) fun σ H Q ⟨Z, F, ρ, ds, R, ef, q⟩ => by
  obtain ⟨d, e1, e2⟩ := Option.bind_eq_some_iff.mp ef
  obtain ⟨ds', e3, e4⟩ := Option.bind_eq_some_iff.mp e2
  split at e4
  · rename_i hl
    cases e4
    obtain ⟨c, hc, hm, rfl⟩ := nmM_some e1
    obtain ⟨a, h1, _⟩ := R.mine j c hc hm
    exact ⟨.ref a, h1, Z, F, ρ, ds', R, e3, fun vs F1 H1 x1 R1 r1 => q _ F1 H1 x1 R1 (.io hc hm h1 hro (by rw [hn, hl]) r1)⟩
  · cases e4⟩
theorem x_ro (ha : EP' cs X e fa) (hr : EXs cs X ms j es fr) (hs : starEach (e :: es) X.env = (false, eval e X.env) :: starEach es X.env := by rfl) : EXs cs X (.ro :: ms) j (e :: es) (cons2 fa fr) := ⟨pa_imp (pa_cons ha.h hr.h hs) fun σ H Q ⟨Z, F, ρ, ds, R, ef, q⟩ => by
  obtain ⟨d, e1, e2⟩ := Option.bind_eq_some_iff.mp ef
  obtain ⟨ds', e3, rfl⟩ := Option.map_eq_some_iff.mp e2
  exact ⟨Z, F, ρ, d, R, e1, fun v F1 H1 x1 R1 r1 => ⟨Z, F1, ρ, ds', R1, e3, fun vs F2 H2 x2 R2 A => q _ F2 H2 (x1.trans x2) R2 (.ro (r1.ext x2) A)⟩⟩⟩
def callX (n j : Nat) (sem : List D → Option Ou) (fr : Nv → Option (List D)) : Nv → Option (D × Nv) := fun ρ => (fr ρ).bind fun ds => if ds.length = n then match sem ds, ρ[j]? with
  | some (.ret d false [d']), some (some c) => if c.mine = true then some (d, ρ.set j (some (c.put d'))) else none
  | _, _ => none
  else none
theorem x_call {P : Program} {w : World} {K : PySem.W.Frag} {mg : Str → Option Value} {base : Heap} {k l : Nat} {ps : List Str} {sem : List D → Option Ou} (C : Cal P w K mg base cs x k ps ms sem) (hX : AtX X P w K mg base) (hr : Room l X.A) (hj : k ≤ l) (hg : Gl X x) (ha : EXs cs X ms j (e :: es) fr)
    (hdb : (x == ("__debug__" : Str)) = false := by decide) (he : starEach (e :: es) X.env = (false, eval e X.env) :: starEach es X.env := by rfl) (hpl : (backTo pos (starEach es X.env)).any (·.1) = false := by rfl) :
    EX cs X (.Call (.Name x p) (e :: es) [] pos) (callX ms.length j sem fr) := by
  obtain ⟨rfl, rfl, rfl, rfl, rfl⟩ := hX
  obtain ⟨f, fd, h1, h2, h3, h4⟩ := C.ex
  refine ⟨pe_imp (pe_call h1 (hr.mono hj) hg h2 h3 h4 .nil (pass0 (X := X)) ha.h hdb he hpl) fun σ H Q ⟨Z, F0, ρ, d, ρ', R, ef, q⟩ => ?_⟩
  obtain ⟨ds, e1, e2⟩ := Option.bind_eq_some_iff.mp ef
  split at e2
  · rename_i hl
    refine ⟨Z, F0, ρ, ds, R, e1, fun vs F1 H1 x1 R1 A => ?_⟩
    split at e2
    · rename_i d0 d' c es hc
      split at e2
      · rename_i hm
        cases e2
        rw [List.append_nil]
        obtain ⟨pos, c0, a0, g1, g2, g3, g4, g5, g6, g7, g8, g9, g10⟩ := A.look
        rw [hc] at g1
        cases g1
        refine ⟨othX a0 F1 H1, F1, ds, _, g4, g5, g6, R1.lendX A hc hm g3, es, fun v F2 H2 x2 R2 res => ?_⟩
        unfold ResV at res
        rw [if_neg Bool.false_ne_true] at res
        exact q v F2 H2 (x1.trans x2) (R1.backX A hc hm g3 x2 R2) res
      · cases e2
    · cases e2
  · cases e2
theorem xt_val (h : EX cs X e fx) (he : ∀ whole, isTrue e X.env whole = (do let v ← whole; standAt e.pos; holding [v] (truthy v)) := by intro _; rfl) : EXT cs X e (fun ρ => (fx ρ).bind fun r => (truD r.1).map fun k => (k, r.2)) := ⟨pt_imp (pt_truth h.h he) fun σ H Q ⟨Z, F, ρ, k, ρ', R, ef, q⟩ => by
  obtain ⟨⟨d, ρ1⟩, e1, e2⟩ := Option.bind_eq_some_iff.mp ef
  obtain ⟨k', e3, e4⟩ := Option.map_eq_some_iff.mp e2
  cases e4
  exact ⟨Z, F, ρ, d, _, R, e1, fun v F' H' e' R' w => ⟨_, tru_of R' (.inl w) e3, q F' H' e' R'⟩⟩⟩
theorem xw_and1 (h : EXT cs X a gx) : EXW cs X (.BoolOp .And [a] pos) gx := ⟨pw_and1 h.h⟩
def andX (ga : Nv → Option Bool) (gx : Nv → Option (Bool × Nv)) : Nv → Option (Bool × Nv) := fun ρ => (ga ρ).bind fun k => if k = true then gx ρ else some (false, ρ)
theorem xw_and (ha : ET cs X a ga) (hb : EXW cs X (.BoolOp .And (b :: rest) pos) gx) : EXW cs X (.BoolOp .And (a :: b :: rest) pos) (andX ga gx) := ⟨pw_imp (pw_and ha.h hb.h) fun σ H Q ⟨Z, F, ρ, d, ρ', R, ef, q⟩ => by
  unfold andX at ef
  obtain ⟨k, ek, ef⟩ := Option.bind_eq_some_iff.mp ef
  refine ⟨Z, F, ρ, k, R, ek, fun F1 H1 e1 R1 => ?_⟩
  by_cases hk : k = true
  · rw [if_pos hk] at ef ⊢
    exact ⟨Z, F1, ρ, d, ρ', R1, ef, fun F2 H2 e2 R2 => q F2 H2 (e1.trans e2) R2⟩
  · rw [if_neg hk] at ef ⊢
    cases ef
    exact q F1 H1 e1 R1⟩
theorem xt_pw (h : EXW cs X a gx) : EXT cs X a gx := ⟨h.h.pt⟩
def ifX (gx : Nv → Option (Bool × Nv)) (g g' : Nv → Option SR) : Nv → Option SR := fun ρ => (gx ρ).bind fun r => if r.1 = true then g r.2 else g' r.2
theorem sd_ifX {sa sb : List Stmt} {c : Expr} (hc : EXT cs X c gx) (ha : SDs cs X E sa g) (hb : SDs cs X E sb g') : SD cs X E (.If c sa sb pos) (ifX gx g g') := ⟨ps_imp (ps_if hc.h ha.h hb.h) fun D σ H ⟨Z, F, ρ, r, R, ef, w⟩ => by
  obtain ⟨⟨k, ρ1⟩, e1, e2⟩ := Option.bind_eq_some_iff.mp ef
  refine ⟨Z, F, ρ, k, ρ1, R, e1, fun F1 H1 x1 R1 => ?_⟩
  by_cases hk : k = true
  · have e2' : g ρ1 = some r := by simpa [hk] using e2
    show if k = true then _ else _
    rw [if_pos hk]
    exact ⟨Z, F1, ρ1, r, R1, e2', w.ext x1⟩
  · have e2' : g' ρ1 = some r := by simpa [hk] using e2
    show if k = true then _ else _
    rw [if_neg hk]
    exact ⟨Z, F1, ρ1, r, R1, e2', w.ext x1⟩⟩
theorem sd_exprX (h : EX cs X e fx) (hs : swapsWith e none pos.line X.env = pure false := by rfl) : SD cs X E (.Expr e pos) (fun ρ => (fx ρ).map fun r => .nx r.2) := ⟨ps_imp (ps_expr h.h hs) fun D σ H ⟨Z, F, ρ, r, R, ef, w⟩ => by
  obtain ⟨⟨d, ρ1⟩, e1, rfl⟩ := Option.map_eq_some_iff.mp ef
  exact ⟨Z, F, ρ, d, ρ1, R, e1, fun v F1 H1 x1 R1 _ => w σ F1 H1 rfl x1 R1⟩⟩
def setX (i : Nat) (fx : Nv → Option (D × Nv)) : Nv → Option SR := fun ρ => (fx ρ).map fun r => .nx (r.2.set i (some (.sh r.1)))
theorem sd_setX {i : Nat} {y : Str} {pos' : Pos} (hN : X.N.Nodup) (hi : X.N[i]? = some y) (hx : Loc X.env.scope y) (h : EX cs X e fx) (hs : swapsWith e (some (.Name y pos')) pos.line X.env = pure false := by rfl) (hf : X.fn y = true ∨ X.env.scope.names.lookup y = some .local := by first | exact .inl rfl | exact .inr rfl | assumption) :
    SD cs X E (.Assign [.Name y pos'] e pos) (setX i fx) := ⟨ps_imp (ps_set hN hi hx h.h hs hf) fun D σ H ⟨Z, F, ρ, r, R, ef, w⟩ => by
  obtain ⟨⟨d, ρ1⟩, e1, rfl⟩ := Option.map_eq_some_iff.mp ef
  exact ⟨Z, F, ρ, d, ρ1, R, e1, fun v F1 H1 x1 R1 r1 => w _ F1 H1 (by rw [List.length_set]) x1 (R1.setSh i r1)⟩⟩
end

theorem callF_is {k : Nat} {sem : List D → Option Ou} {fr : Nv → Option (List D)} {ρ : Nv} {ds os : List D} {d : D} (h : fr ρ = some ds) (hk : ds.length = k) (e : sem ds = some (.ret d false os)) (hs : scal d = true) : callF k sem fr ρ = some d := by
  unfold callF
  rw [h]
  show (if _ then _ else _) = _
  rw [if_pos hk, e]
  show (if _ then _ else _) = _
  rw [if_pos hs]
theorem callX_is {k j : Nat} {sem : List D → Option Ou} {fr : Nv → Option (List D)} {ρ : Nv} {ds : List D} {d d' : D} {c : Cell} (h : fr ρ = some ds) (hk : ds.length = k) (e : sem ds = some (.ret d false [d'])) (hc : ρ[j]? = some (some c)) (hm : c.mine = true) : callX k j sem fr ρ = some (d, ρ.set j (some (c.put d'))) := by
  unfold callX
  rw [h]
  show (if _ then _ else _) = _
  rw [if_pos hk, e, hc]
  show (if _ then _ else _) = _
  rw [if_pos hm]

/-! ### what a def comes to, whatever its addresses -/
noncomputable def semM (ms : List Md) (n : Nat) (g : Nv → Option SR) : List D → Option Ou := fun ds => if h : ∃ o, ds.length = ms.length ∧ ∀ vs, vs.length = ms.length → ioOk ms vs = true → runD ms n g vs ds = some o then some (Classical.choose h) else none
theorem comes_m {ms : List Md} {n : Nat} {g : Nv → Option SR} : Comes ms n g (semM ms n g) := fun vs ds o hv hd hio hs => by
  unfold semM at hs
  split at hs
  · rename_i h
    cases hs
    exact (Classical.choose_spec h).2 vs hv hio
  · cases hs
def canon : List Md → List V
  | [] => []
  | .io :: ms => .ref 0 :: canon ms
  | .ro :: ms => .non :: canon ms
  | .mv :: ms => .non :: canon ms
theorem canon_ok : ∀ ms : List Md, (canon ms).length = ms.length ∧ ioOk ms (canon ms) = true
  | [] => ⟨rfl, rfl⟩
  | .io :: ms => ⟨by rw [canon, List.length_cons, (canon_ok ms).1, List.length_cons], (canon_ok ms).2⟩
  | .ro :: ms => ⟨by rw [canon, List.length_cons, (canon_ok ms).1, List.length_cons], (canon_ok ms).2⟩
  | .mv :: ms => ⟨by rw [canon, List.length_cons, (canon_ok ms).1, List.length_cons], (canon_ok ms).2⟩
theorem semM_is {ms : List Md} {n : Nat} {g : Nv → Option SR} {ds : List D} {o : Ou} (hd : ds.length = ms.length) (h : ∀ vs, vs.length = ms.length → ioOk ms vs = true → runD ms n g vs ds = some o) : semM ms n g ds = some o := by
  have hx : ∃ o, ds.length = ms.length ∧ ∀ vs, vs.length = ms.length → ioOk ms vs = true → runD ms n g vs ds = some o := ⟨o, hd, h⟩
  unfold semM
  rw [dif_pos hx]
  obtain ⟨c1, c2⟩ := canon_ok ms
  have a1 := (Classical.choose_spec hx).2 _ c1 c2
  rw [h _ c1 c2] at a1
  exact a1.symm
end DS

namespace K3
open PySem L2 DS
def topS (i : Nat) : Stmt := PySem.Challenge.pw_mendread_k03_shortest_texts.main.body.getD i (.Pass ⟨0, 0, 0, 0⟩)
structure Blts (mg : Str → Option Value) : Prop where
  b_all : mg "all" = none
  b_bool : mg "bool" = none
  b_dict : mg "dict" = none
  b_enumerate : mg "enumerate" = none
  b_int : mg "int" = none
  b_isinstance : mg "isinstance" = none
  b_len : mg "len" = none
  b_list : mg "list" = none
  b_min : mg "min" = none
  b_ord : mg "ord" = none
  b_range : mg "range" = none
  b_str : mg "str" = none
  b_tuple : mg "tuple" = none
  c_BLANK : ∃ t, mg "BLANK" = some (.int 32 t)
  c_MOST_LETTERS : ∃ t, mg "MOST_LETTERS" = some (.int 12 t)
  c_MOST_RULES : ∃ t, mg "MOST_RULES" = some (.int 40 t)
  c_PERCENT : ∃ t, mg "PERCENT" = some (.int 37 t)
  c_TILDE : ∃ t, mg "TILDE" = some (.int 126 t)
section
variable {P : Program} {w : World} {K : PySem.W.Frag} {mg : Str → Option Value} {base : Heap} {cs : List Addr}

/-! is_sign -/
abbrev s_is_sign : Stmt := topS 11
theorem sc_is_sign : FnScope ["thing", "number"] ["thing"] (defScope s_is_sign) := ⟨rfl, rfl, rfl, by decide +kernel, rfl, by decide +kernel, by decide +kernel⟩
noncomputable def g_is_sign : Nv → Option SR := (seqS (ifS (orT (notT (fun ρ => ((fun ρ => ((nmW 0) ρ).map fun d => .bool (isiB "str" d)) ρ).bind truD)) (opT neD (callD lenD (cons2 (nmW 0) (fun _ => some []))) (fun _ => some (.int 1))))
      (fun ρ => ((fun _ => some (.bool false)) ρ).map fun d => .rt d false ρ)
      (fun ρ => some (.nx ρ)))
    (seqS (setS 1 (callD ordD (cons2 (nmW 0) (fun _ => some []))))
    (fun ρ => ((andV (ch3 leD leD (fun _ => some (.int 32)) (nmW 1) (fun _ => some (.int 126))) (op2 neD (nmW 1) (fun _ => some (.int 37)))) ρ).map fun d => .rt d false ρ)))
noncomputable def sem_is_sign : List D → Option Ou := semR 1 1 g_is_sign
theorem co_is_sign : Comes [.ro] 1 g_is_sign sem_is_sign := comes_ro (by decide)
theorem ok_is_sign {f : Addr} {fd : FuncData} (F : Fun K "is_sign" "is_sign" s_is_sign f fd) (B : Blts mg) : FnOk P w K mg base CX0 1 f fd ["thing"] (spD K cs [.ro] sem_is_sign) := by
  refine fn_ds F sc_is_sign rfl fun cdv A outer s H E hr => ⟨g_is_sign, ?_, co_is_sign⟩
  exact (sd_cons (sd_if (et_pw (ew_or (et_not (et_val ((e_isi isi_str (by rfl) B.b_isinstance (e_nameW (pv 0)) (by rfl) B.b_str PyProof.Rows.boot_str)).w)) (ew_or1 (et_cmp (od_ne hr.units) ((e_callB cd_len (by rfl) B.b_len PySem.boot_len (ewa_cons (e_nameW (pv 0)) ewa_nil))).w (e_int).w (nomark _)))))
      (sd_one (sd_ret e_bool))
      sd_nil)
    (sd_cons (sd_set (i := 1) sc_is_sign.nd rfl (by first | exact .inl rfl | exact .inr rfl) (e_callB cd_ord (by rfl) B.b_ord PyProof.Rows.boot_ord (ewa_cons (e_nameW (pv 0)) ewa_nil)))
    (sd_one (sd_ret (e_and (e_chain od_le od_le ((e_gint (by rfl) B.c_BLANK)).w (e_nameW (pv 1)) ((e_gint (by rfl) B.c_TILDE)).w) (e_one (e_cmp (od_ne hr.units) (e_nameW (pv 1)) ((e_gint (by rfl) B.c_PERCENT)).w (nomark _))))))))

/-! is_name -/
abbrev s_is_name : Stmt := topS 12
theorem sc_is_name : FnScope ["thing"] ["thing"] (defScope s_is_name) := ⟨rfl, rfl, rfl, by decide +kernel, rfl, by decide +kernel, by decide +kernel⟩
noncomputable def g_is_name : Nv → Option SR := (seqS (ifS (orT (notT (fun ρ => ((fun ρ => ((nmW 0) ρ).map fun d => .bool (isiB "str" d)) ρ).bind truD)) (orT (opT ltD (callD lenD (cons2 (nmW 0) (fun _ => some []))) (fun _ => some (.int 1))) (opT gtD (callD lenD (cons2 (nmW 0) (fun _ => some []))) (fun _ => some (.int 12)))))
      (fun ρ => ((fun _ => some (.bool false)) ρ).map fun d => .rt d false ρ)
      (fun ρ => some (.nx ρ)))
    (fun ρ => ((fun ρ => ((fun ρ => ((nmW 0) ρ).bind asSg) ρ).bind fun ds => (allD (ch3 leD leD (fun _ => some (.str "a")) (nmW 0) (fun _ => some (.str "z"))) ds).map .bool) ρ).map fun d => .rt d false ρ))
noncomputable def sem_is_name : List D → Option Ou := semR 1 0 g_is_name
theorem co_is_name : Comes [.ro] 0 g_is_name sem_is_name := comes_ro (by decide)
theorem ok_is_name {f c T : Addr} {fd : FuncData} (F : FunC K "is_name" "is_name" s_is_name f fd c) (TB : GxR.TabB base mg c T) (hP : T ∈ cs) (B : Blts mg) : FnOk P w K mg base CX0 2 f fd ["thing"] (spD K cs [.ro] sem_is_name) := by
  refine fn_dsC F sc_is_name rfl fun A outer s H E hr => ⟨g_is_name, ?_, co_is_name⟩
  exact (sd_cons (sd_if (et_pw (ew_or (et_not (et_val ((e_isi isi_str (by rfl) B.b_isinstance (e_nameW (pv 0)) (by rfl) B.b_str PyProof.Rows.boot_str)).w)) (ew_or (et_cmp od_lt ((e_callB cd_len (by rfl) B.b_len PySem.boot_len (ewa_cons (e_nameW (pv 0)) ewa_nil))).w (e_int).w (nomark _)) (ew_or1 (et_cmp od_gt ((e_callB cd_len (by rfl) B.b_len PySem.boot_len (ewa_cons (e_nameW (pv 0)) ewa_nil))).w ((e_gint (by rfl) B.c_MOST_LETTERS)).w (nomark _))))))
      (sd_one (sd_ret e_bool))
      sd_nil)
    (sd_one (sd_ret (e_allG (by exact hr) rfl (by rfl) B.b_all (by exact TB) rfl hP ⟨rfl, rfl, by decide +kernel, by decide +kernel, by decide +kernel, by decide +kernel⟩ (i_str (e_nameW (pv 0))) (fun A' s0 H0 C code ex pn hr => (e_chain od_le od_le (e_str).w (e_nameW (pv 0)) (e_str).w))))))

/-! is_rule -/
abbrev s_is_rule : Stmt := topS 13
theorem sc_is_rule : FnScope ["thing"] ["thing"] (defScope s_is_rule) := ⟨rfl, rfl, rfl, by decide +kernel, rfl, by decide +kernel, by decide +kernel⟩
noncomputable def g_is_rule : Nv → Option SR := (seqS (ifS (notT (fun ρ => ((fun ρ => ((nmW 0) ρ).map fun d => .bool (isiB "tuple" d)) ρ).bind truD))
      (fun ρ => ((fun _ => some (.bool false)) ρ).map fun d => .rt d false ρ)
      (fun ρ => some (.nx ρ)))
    (seqS (ifS (opT eqD (callD lenD (cons2 (nmW 0) (fun _ => some []))) (fun _ => some (.int 2)))
      (fun ρ => ((andV (callS 1 sem_is_name (cons2 (op2 ixD (nmW 0) (fun _ => some (.int 0))) (fun _ => some []))) (callS 1 sem_is_sign (cons2 (op2 ixD (nmW 0) (fun _ => some (.int 1))) (fun _ => some [])))) ρ).map fun d => .rt d false ρ)
      (fun ρ => some (.nx ρ)))
    (fun ρ => ((andV (op2 eqD (callD lenD (cons2 (nmW 0) (fun _ => some []))) (fun _ => some (.int 3))) (fun ρ => ((fun ρ => ((nmP 0) ρ).bind asTu) ρ).bind fun ds => (allD (callS 1 sem_is_name (cons2 (nmP 0) (fun _ => some []))) ds).map .bool)) ρ).map fun d => .rt d false ρ)))
noncomputable def sem_is_rule : List D → Option Ou := semR 1 0 g_is_rule
theorem co_is_rule : Comes [.ro] 0 g_is_rule sem_is_rule := comes_ro (by decide)
theorem ok_is_rule {f c T : Addr} {fd : FuncData} (F : FunC K "is_rule" "is_rule" s_is_rule f fd c) (TB : GxR.TabB base mg c T) (hP : T ∈ cs) (B : Blts mg) (C_is_name : Cal P w K mg base cs "is_name" 2 ["thing"] [.ro] sem_is_name) (C_is_sign : Cal P w K mg base cs "is_sign" 1 ["thing"] [.ro] sem_is_sign) : FnOk P w K mg base CX0 4 f fd ["thing"] (spD K cs [.ro] sem_is_rule) := by
  refine fn_dsC F sc_is_rule rfl fun A outer s H E hr => ⟨g_is_rule, ?_, co_is_rule⟩
  exact (sd_cons (sd_if (et_not (et_val ((e_isi isi_tuple (by rfl) B.b_isinstance (e_nameW (pv 0)) (by rfl) B.b_tuple PyProof.Rows.boot_tuple)).w))
      (sd_one (sd_ret e_bool))
      sd_nil)
    (sd_cons (sd_if (et_cmp (od_eq hr.units) ((e_callB cd_len (by rfl) B.b_len PySem.boot_len (ewa_cons (e_nameW (pv 0)) ewa_nil))).w (e_int).w (nomark _))
      (sd_one (sd_ret (e_and (c_call C_is_name (by exact ⟨rfl, rfl, rfl, rfl, rfl⟩) (by decide) (by exact hr) (by decide) (by rfl) (ep_cons (e_ix (e_nameW (pv 0)) (e_int).w (fun _ _ => rfl)) ep_nil)) (e_one (c_call C_is_sign (by exact ⟨rfl, rfl, rfl, rfl, rfl⟩) (by decide) (by exact hr) (by decide) (by rfl) (ep_cons (e_ix (e_nameW (pv 0)) (e_int).w (fun _ _ => rfl)) ep_nil))))))
      sd_nil)
    (sd_one (sd_ret (e_and (e_cmp (od_eq hr.units) ((e_callB cd_len (by rfl) B.b_len PySem.boot_len (ewa_cons (e_nameW (pv 0)) ewa_nil))).w (e_int).w (nomark _)) (e_one (e_allG (by exact hr) rfl (by rfl) B.b_all (by exact TB) rfl hP ⟨rfl, rfl, by decide +kernel, by decide +kernel, by decide +kernel, by decide +kernel⟩ (i_tup (e_nameP (pv 0))) (fun A' s0 H0 C code ex pn hr => (c_call C_is_name (by exact ⟨rfl, rfl, rfl, rfl, rfl⟩) (by decide) (by exact hr) (by decide) (by rfl) (ep_cons (e_nameP (pv 0)) ep_nil))))))))))

/-! is_fork_rule -/
abbrev s_is_fork_rule : Stmt := topS 14
theorem sc_is_fork_rule : FnScope ["rule"] ["rule"] (defScope s_is_fork_rule) := ⟨rfl, rfl, rfl, by decide +kernel, rfl, by decide +kernel, by decide +kernel⟩
noncomputable def g_is_fork_rule : Nv → Option SR := (fun ρ => ((op2 eqD (callD lenD (cons2 (nmW 0) (fun _ => some []))) (fun _ => some (.int 3))) ρ).map fun d => .rt d false ρ)
noncomputable def sem_is_fork_rule : List D → Option Ou := semR 1 0 g_is_fork_rule
theorem co_is_fork_rule : Comes [.ro] 0 g_is_fork_rule sem_is_fork_rule := comes_ro (by decide)
theorem ok_is_fork_rule {f : Addr} {fd : FuncData} (F : Fun K "is_fork_rule" "is_fork_rule" s_is_fork_rule f fd) (B : Blts mg) : FnOk P w K mg base CX0 1 f fd ["rule"] (spD K cs [.ro] sem_is_fork_rule) := by
  refine fn_ds F sc_is_fork_rule rfl fun cdv A outer s H E hr => ⟨g_is_fork_rule, ?_, co_is_fork_rule⟩
  exact (sd_one (sd_ret (e_cmp (od_eq hr.units) ((e_callB cd_len (by rfl) B.b_len PySem.boot_len (ewa_cons (e_nameW (pv 0)) ewa_nil))).w (e_int).w (nomark _))))

/-! need_only_rules -/
abbrev s_need_only_rules : Stmt := topS 16
theorem sc_need_only_rules : FnScope ["rules", "at", "rule"] ["rules"] (defScope s_need_only_rules) := ⟨rfl, rfl, rfl, by decide +kernel, rfl, by decide +kernel, by decide +kernel⟩
noncomputable def g_need_only_rules : Nv → Option SR := (seqS (ifS (opT eqD (callD lenD (cons2 (nmW 0) (fun _ => some []))) (fun _ => some (.int 0)))
      (fun _ => none)
      (fun ρ => some (.nx ρ)))
    (fun ρ => ((fun ρ => ((cons2 (nmP 0) (fun _ => some [])) ρ).bind enumV) ρ).bind fun ds => forS (toTu 2 (toCons (toNm 1) (toCons (toNm 2) toNil))) (seqS (ifS (opT geD (nmW 1) (fun _ => some (.int 40)))
      (fun _ => none)
      (fun ρ => some (.nx ρ)))
    (ifS (notT (fun ρ => ((callS 1 sem_is_rule (cons2 (nmP 2) (fun _ => some []))) ρ).bind truD))
      (fun _ => none)
      (fun ρ => some (.nx ρ)))) ds ρ))
noncomputable def sem_need_only_rules : List D → Option Ou := semR 1 2 g_need_only_rules
theorem co_need_only_rules : Comes [.ro] 2 g_need_only_rules sem_need_only_rules := comes_ro (by decide)
theorem ok_need_only_rules {f : Addr} {fd : FuncData} (F : Fun K "need_only_rules" "need_only_rules" s_need_only_rules f fd) (B : Blts mg) (C_is_rule : Cal P w K mg base cs "is_rule" 4 ["thing"] [.ro] sem_is_rule) : FnOk P w K mg base CX0 5 f fd ["rules"] (spD K cs [.ro] sem_need_only_rules) := by
  refine fn_ds F sc_need_only_rules rfl fun cdv A outer s H E hr => ⟨g_need_only_rules, ?_, co_need_only_rules⟩
  exact (sd_cons (sd_if (et_cmp (od_eq hr.units) ((e_callB cd_len (by rfl) B.b_len PySem.boot_len (ewa_cons (e_nameW (pv 0)) ewa_nil))).w (e_int).w (nomark _))
      (sd_one sd_never)
      sd_nil)
    (sd_one (sd_for PassesOwn.never rfl (i_enum (by rfl) B.b_enumerate (ep_cons (e_nameP (pv 0)) ep_nil)) (g_tup rfl (gs_cons (g_name (i := 1) sc_need_only_rules.nd rfl (by first | exact .inl rfl | exact .inr rfl)) (gs_cons (g_name (i := 2) sc_need_only_rules.nd rfl (by first | exact .inl rfl | exact .inr rfl)) gs_nil)))
      (sd_cons (sd_if (et_cmp od_ge (e_nameW (pv 1)) ((e_gint (by rfl) B.c_MOST_RULES)).w (nomark _))
      (sd_one sd_never)
      sd_nil)
    (sd_one (sd_if (et_not (et_val ((c_call C_is_rule (by exact ⟨rfl, rfl, rfl, rfl, rfl⟩) (by decide) (by exact hr) (by decide) (by rfl) (ep_cons (e_nameP (pv 2)) ep_nil))).w))
      (sd_one sd_never)
      sd_nil))))))

/-! names_of -/
abbrev s_names_of : Stmt := topS 19
theorem sc_names_of : FnScope ["rules", "rule"] ["rules"] (defScope s_names_of) := ⟨rfl, rfl, rfl, by decide +kernel, rfl, by decide +kernel, by decide +kernel⟩
noncomputable def g_names_of : Nv → Option SR := (fun ρ => ((callD listKD (cons2 (dcV 1 (fun ρ => ((nmP 0) ρ).bind asL) (fun _ => some true) (op2 ixD (nmW 1) (fun _ => some (.int 0))) (fun _ => some (.bool true))) (fun _ => some []))) ρ).map fun d => .rt d true ρ)
noncomputable def sem_names_of : List D → Option Ou := semR 1 1 g_names_of
theorem co_names_of : Comes [.ro] 1 g_names_of sem_names_of := comes_ro (by decide)
theorem ok_names_of {f : Addr} {fd : FuncData} (F : Fun K "names_of" "names_of" s_names_of f fd) (B : Blts mg) : FnOk P w K mg base CX0 1 f fd ["rules"] (spD K cs [.ro] sem_names_of) := by
  refine fn_ds F sc_names_of rfl fun cdv A outer s H E hr => ⟨g_names_of, ?_, co_names_of⟩
  exact (sd_one (sd_retN (e_callTN (cn_listK rfl) (by rfl) B.b_list PyProof.Rows.boot_list (ewa_cons ((e_dc rfl sc_names_of.nd (i := 1) rfl ((i_list (e_nameP (pv 0)))).comp (blkOk_by (by show blkC ["rules", "rule"] (defScope s_names_of) _ _ = true; decide +kernel)) (fun _ _ _ _ _ => by rfl) (fun _ _ _ _ _ => ets_nil) (fun _ _ _ _ _ => (e_ix (e_nameW (pv 1)) (e_int).w (fun _ _ => rfl))) (fun _ _ _ _ _ => e_bool))).w ewa_nil))))

/-! need_known_names -/
abbrev s_need_known_names : Stmt := topS 17
theorem sc_need_known_names : FnScope ["rules", "known", "at", "rule", "name"] ["rules"] (defScope s_need_known_names) := ⟨rfl, rfl, rfl, by decide +kernel, rfl, by decide +kernel, by decide +kernel⟩
noncomputable def g_need_known_names : Nv → Option SR := (seqS (setS 1 (callS 1 sem_names_of (cons2 (nmP 0) (fun _ => some []))))
    (fun ρ => ((fun ρ => ((cons2 (nmP 0) (fun _ => some [])) ρ).bind enumV) ρ).bind fun ds => forS (toTu 2 (toCons (toNm 2) (toCons (toNm 3) toNil))) (ifS (fun ρ => ((callS 1 sem_is_fork_rule (cons2 (nmP 3) (fun _ => some []))) ρ).bind truD)
      (fun ρ => ((fun ρ => ((slS (nmW 3) (fun ρ => ((fun _ => some (.int 1)) ρ).bind fun x => (asI x).map some) (fun _ => some none)) ρ).bind asTu) ρ).bind fun ds => forS (toNm 4) (ifS (opT ninD' (nmW 4) (nmW 1))
      (fun _ => none)
      (fun ρ => some (.nx ρ))) ds ρ)
      (fun ρ => some (.nx ρ))) ds ρ))
noncomputable def sem_need_known_names : List D → Option Ou := semR 1 4 g_need_known_names
theorem co_need_known_names : Comes [.ro] 4 g_need_known_names sem_need_known_names := comes_ro (by decide)
theorem ok_need_known_names {f : Addr} {fd : FuncData} (F : Fun K "need_known_names" "need_known_names" s_need_known_names f fd) (B : Blts mg) (C_is_fork_rule : Cal P w K mg base cs "is_fork_rule" 1 ["rule"] [.ro] sem_is_fork_rule) (C_names_of : Cal P w K mg base cs "names_of" 1 ["rules"] [.ro] sem_names_of) : FnOk P w K mg base CX0 2 f fd ["rules"] (spD K cs [.ro] sem_need_known_names) := by
  refine fn_ds F sc_need_known_names rfl fun cdv A outer s H E hr => ⟨g_need_known_names, ?_, co_need_known_names⟩
  exact (sd_cons (sd_set (i := 1) sc_need_known_names.nd rfl (by first | exact .inl rfl | exact .inr rfl) (c_call C_names_of (by exact ⟨rfl, rfl, rfl, rfl, rfl⟩) (by decide) (by exact hr) (by decide) (by rfl) (ep_cons (e_nameP (pv 0)) ep_nil)))
    (sd_one (sd_for PassesOwn.never rfl (i_enum (by rfl) B.b_enumerate (ep_cons (e_nameP (pv 0)) ep_nil)) (g_tup rfl (gs_cons (g_name (i := 2) sc_need_known_names.nd rfl (by first | exact .inl rfl | exact .inr rfl)) (gs_cons (g_name (i := 3) sc_need_known_names.nd rfl (by first | exact .inl rfl | exact .inr rfl)) gs_nil)))
      (sd_one (sd_if (et_val ((c_call C_is_fork_rule (by exact ⟨rfl, rfl, rfl, rfl, rfl⟩) (by decide) (by exact hr) (by decide) (by rfl) (ep_cons (e_nameP (pv 3)) ep_nil))).w)
      (sd_one (sd_for PassesOwn.never rfl (i_tup (e_slS (e_nameW (pv 3)) (eo_some e_int) eo_none)) (g_name (i := 4) sc_need_known_names.nd rfl (by first | exact .inl rfl | exact .inr rfl))
      (sd_one (sd_if (et_cmp (od_nin (hu65 hr)) (e_nameW (pv 4)) (e_nameW (pv 1)) (by rfl))
      (sd_one sd_never)
      sd_nil))))
      sd_nil)))))

/-! length_by -/
abbrev s_length_by : Stmt := topS 21
theorem sc_length_by : FnScope ["rule", "lengths", "_", "one", "other"] ["rule", "lengths"] (defScope s_length_by) := ⟨rfl, rfl, rfl, by decide +kernel, rfl, by decide +kernel, by decide +kernel⟩
noncomputable def g_length_by : Nv → Option SR := (seqS (ifS (notT (fun ρ => ((callS 1 sem_is_fork_rule (cons2 (nmP 0) (fun _ => some []))) ρ).bind truD))
      (fun ρ => ((fun _ => some (.int 1)) ρ).map fun d => .rt d false ρ)
      (fun ρ => some (.nx ρ)))
    (seqS (fun ρ => ((nmP 0) ρ).bind fun d => ((toTu 3 (toCons (toNm 2) (toCons (toNm 3) (toCons (toNm 4) toNil)))) d ρ).map .nx)
    (seqS (ifS (andT (opT inKD (nmW 3) (nmW 1)) (opT inKD (nmW 4) (nmW 1)))
      (fun ρ => ((op2 addD (op2 getKD (nmW 1) (nmW 3)) (op2 getKD (nmW 1) (nmW 4))) ρ).map fun d => .rt d false ρ)
      (fun ρ => some (.nx ρ)))
    (fun ρ => ((fun _ => some .none) ρ).map fun d => .rt d false ρ))))
noncomputable def sem_length_by : List D → Option Ou := semR 2 3 g_length_by
theorem co_length_by : Comes [.ro, .ro] 3 g_length_by sem_length_by := comes_ro (by decide)
theorem ok_length_by {f : Addr} {fd : FuncData} (F : Fun K "length_by" "length_by" s_length_by f fd) (B : Blts mg) (C_is_fork_rule : Cal P w K mg base cs "is_fork_rule" 1 ["rule"] [.ro] sem_is_fork_rule) : FnOk P w K mg base CX0 2 f fd ["rule", "lengths"] (spD K cs [.ro, .ro] sem_length_by) := by
  refine fn_ds F sc_length_by rfl fun cdv A outer s H E hr => ⟨g_length_by, ?_, co_length_by⟩
  exact (sd_cons (sd_if (et_not (et_val ((c_call C_is_fork_rule (by exact ⟨rfl, rfl, rfl, rfl, rfl⟩) (by decide) (by exact hr) (by decide) (by rfl) (ep_cons (e_nameP (pv 0)) ep_nil))).w))
      (sd_one (sd_ret e_int))
      sd_nil)
    (sd_cons (sd_asgT (e_nameP (pv 0)) (g_tup rfl (gs_cons (g_name (i := 2) sc_length_by.nd rfl (by first | exact .inl rfl | exact .inr rfl)) (gs_cons (g_name (i := 3) sc_length_by.nd rfl (by first | exact .inl rfl | exact .inr rfl)) (gs_cons (g_name (i := 4) sc_length_by.nd rfl (by first | exact .inl rfl | exact .inr rfl)) gs_nil)))))
    (sd_cons (sd_if (et_pw (ew_and (et_inK (by exact hu65 hr) (e_nameW (pv 3)) (e_nameW (pv 1)) (by rfl)) (ew_and1 (et_inK (by exact hu65 hr) (e_nameW (pv 4)) (e_nameW (pv 1)) (by rfl)))))
      (sd_one (sd_ret (e_op od_add ((e_getK (by exact hu65 hr) (e_nameW (pv 1)) (e_nameW (pv 3)) (fun _ _ => rfl))).w ((e_getK (by exact hu65 hr) (e_nameW (pv 1)) (e_nameW (pv 4)) (fun _ _ => rfl))).w)))
      sd_nil)
    (sd_one (sd_ret e_none)))))

/-! keep_lesser -/
abbrev s_keep_lesser : Stmt := topS 22
theorem sc_keep_lesser : FnScope ["least", "name", "number"] ["least", "name", "number"] (defScope s_keep_lesser) := ⟨rfl, rfl, rfl, by decide +kernel, rfl, by decide +kernel, by decide +kernel⟩
noncomputable def g_keep_lesser : Nv → Option SR := (seqS (ifS (andT (opT inKD (nmW 1) (nmW 0)) (opT leD (op2 getKD (nmW 0) (nmW 1)) (nmW 2)))
      (fun ρ => ((fun _ => some (.bool false)) ρ).map fun d => .rt d false ρ)
      (fun ρ => some (.nx ρ)))
    (seqS (putS 0 (nmW 1) (nmP 2))
    (fun ρ => ((fun _ => some (.bool true)) ρ).map fun d => .rt d false ρ)))
noncomputable def sem_keep_lesser : List D → Option Ou := semM [.io, .ro, .ro] 0 g_keep_lesser
theorem co_keep_lesser : Comes [.io, .ro, .ro] 0 g_keep_lesser sem_keep_lesser := comes_m
theorem ok_keep_lesser {f : Addr} {fd : FuncData} (F : Fun K "keep_lesser" "keep_lesser" s_keep_lesser f fd) (B : Blts mg) : FnOk P w K mg base CX0 1 f fd ["least", "name", "number"] (spD K cs [.io, .ro, .ro] sem_keep_lesser) := by
  refine fn_ds F sc_keep_lesser rfl fun cdv A outer s H E hr => ⟨g_keep_lesser, ?_, co_keep_lesser⟩
  exact (sd_cons (sd_if (et_pw (ew_and (et_inK (by exact hu65 hr) (e_nameW (pv 1)) (e_nameW (pv 0)) (by rfl)) (ew_and1 (et_cmp od_le ((e_getK (by exact hu65 hr) (e_nameW (pv 0)) (e_nameW (pv 1)) (fun _ _ => rfl))).w (e_nameW (pv 2)) (nomark _)))))
      (sd_one (sd_ret e_bool))
      sd_nil)
    (sd_cons (sd_put (by exact hu65 hr) (pv 0) (e_nameW (pv 1)) (e_nameP (pv 2)))
    (sd_one (sd_ret e_bool))))

/-! lengths_of -/
abbrev s_lengths_of : Stmt := topS 20
theorem sc_lengths_of : FnScope ["rules", "lengths", "lowered", "rule", "length"] ["rules"] (defScope s_lengths_of) := ⟨rfl, rfl, rfl, by decide +kernel, rfl, by decide +kernel, by decide +kernel⟩
noncomputable def g_lengths_of : Nv → Option SR := (seqS (setN 1 (fun _ => some (.dict [])))
    (seqS (setS 2 (fun _ => some (.bool true)))
    (seqS (whileC (fun ρ => ((nmW 2) ρ).bind truD) (seqS (setS 2 (fun _ => some (.bool false)))
    (fun ρ => ((fun ρ => ((nmP 0) ρ).bind asL) ρ).bind fun ds => forS (toNm 3) (seqS (setS 4 (callF 2 sem_length_by (cons2 (nmW 3) (cons2 (nmW 1) (fun _ => some [])))))
    (ifX (andX (opT isntD (nmW 4) (fun _ => some .none)) (fun ρ => ((callX 3 1 sem_keep_lesser (fun ρ => (nmM 1 ρ).bind fun d => ((cons2 (op2 ixD (nmW 3) (fun _ => some (.int 0))) (cons2 (nmP 4) (fun _ => some []))) ρ).bind fun ds => if ds.length = 2 then some (d :: ds) else none)) ρ).bind fun r => (truD r.1).map fun k => (k, r.2)))
      (setS 2 (fun _ => some (.bool true)))
      (fun ρ => some (.nx ρ)))) ds ρ)))
    (retNm 1))))
noncomputable def sem_lengths_of : List D → Option Ou := semR 1 4 g_lengths_of
theorem co_lengths_of : Comes [.ro] 4 g_lengths_of sem_lengths_of := comes_ro (by decide)
theorem ok_lengths_of {f : Addr} {fd : FuncData} (F : Fun K "lengths_of" "lengths_of" s_lengths_of f fd) (B : Blts mg) (C_keep_lesser : Cal P w K mg base cs "keep_lesser" 1 ["least", "name", "number"] [.io, .ro, .ro] sem_keep_lesser) (C_length_by : Cal P w K mg base cs "length_by" 2 ["rule", "lengths"] [.ro, .ro] sem_length_by) : FnOk P w K mg base CX0 3 f fd ["rules"] (spD K cs [.ro] sem_lengths_of) := by
  refine fn_ds F sc_lengths_of rfl fun cdv A outer s H E hr => ⟨g_lengths_of, ?_, co_lengths_of⟩
  exact (sd_cons (sd_setN (i := 1) sc_lengths_of.nd rfl (by first | exact .inl rfl | exact .inr rfl) e_dnew)
    (sd_cons (sd_set (i := 2) sc_lengths_of.nd rfl (by first | exact .inl rfl | exact .inr rfl) e_bool)
    (sd_cons (sd_while PassesOwn.never (et_val (e_nameW (pv 2))) (sd_cons (sd_set (i := 2) sc_lengths_of.nd rfl (by first | exact .inl rfl | exact .inr rfl) e_bool)
    (sd_one (sd_for PassesOwn.never rfl (i_list (e_nameP (pv 0))) (g_name (i := 3) sc_lengths_of.nd rfl (by first | exact .inl rfl | exact .inr rfl))
      (sd_cons (sd_set (i := 4) sc_lengths_of.nd rfl (by first | exact .inl rfl | exact .inr rfl) (c_callF C_length_by (by exact ⟨rfl, rfl, rfl, rfl, rfl⟩) (by decide) (by exact hr) (by decide) (by rfl) (ewa_cons (e_nameW (pv 3)) (ewa_cons (e_nameW (pv 1)) ewa_nil))))
    (sd_one (sd_ifX (xt_pw (xw_and (et_cmp od_isnt (e_nameW (pv 4)) (e_none).w (nomark _)) (xw_and1 (xt_val (x_call C_keep_lesser (by exact ⟨rfl, rfl, rfl, rfl, rfl⟩) (by exact hr) (by decide) (by rfl) (x_io (pv 1) (ep_cons (e_ix (e_nameW (pv 3)) (e_int).w (fun _ _ => rfl)) (ep_cons (e_nameP (pv 4)) ep_nil)) (by decide) 2 rfl))))))
      (sd_one (sd_set (i := 2) sc_lengths_of.nd rfl (by first | exact .inl rfl | exact .inr rfl) e_bool))
      sd_nil)))))) (fuelC (fun ρ => ((nmW 2) ρ).bind truD) (seqS (setS 2 (fun _ => some (.bool false)))
    (fun ρ => ((fun ρ => ((nmP 0) ρ).bind asL) ρ).bind fun ds => forS (toNm 3) (seqS (setS 4 (callF 2 sem_length_by (cons2 (nmW 3) (cons2 (nmW 1) (fun _ => some [])))))
    (ifX (andX (opT isntD (nmW 4) (fun _ => some .none)) (fun ρ => ((callX 3 1 sem_keep_lesser (fun ρ => (nmM 1 ρ).bind fun d => ((cons2 (op2 ixD (nmW 3) (fun _ => some (.int 0))) (cons2 (nmP 4) (fun _ => some []))) ρ).bind fun ds => if ds.length = 2 then some (d :: ds) else none)) ρ).bind fun r => (truD r.1).map fun k => (k, r.2)))
      (setS 2 (fun _ => some (.bool true)))
      (fun ρ => some (.nx ρ)))) ds ρ))))
    (sd_one (sd_retNm (pv 1))))))

/-! need_ends -/
abbrev s_need_ends : Stmt := topS 18
theorem sc_need_ends : FnScope ["rules", "lengths", "name"] ["rules"] (defScope s_need_ends) := ⟨rfl, rfl, rfl, by decide +kernel, rfl, by decide +kernel, by decide +kernel⟩
noncomputable def g_need_ends : Nv → Option SR := (seqS (setS 1 (callS 1 sem_lengths_of (cons2 (nmP 0) (fun _ => some []))))
    (fun ρ => ((fun ρ => ((callS 1 sem_names_of (cons2 (nmP 0) (fun _ => some []))) ρ).bind asL) ρ).bind fun ds => forS (toNm 2) (ifS (opT ninKD (nmW 2) (nmW 1))
      (fun _ => none)
      (fun ρ => some (.nx ρ))) ds ρ))
noncomputable def sem_need_ends : List D → Option Ou := semR 1 2 g_need_ends
theorem co_need_ends : Comes [.ro] 2 g_need_ends sem_need_ends := comes_ro (by decide)
theorem ok_need_ends {f : Addr} {fd : FuncData} (F : Fun K "need_ends" "need_ends" s_need_ends f fd) (B : Blts mg) (C_names_of : Cal P w K mg base cs "names_of" 1 ["rules"] [.ro] sem_names_of) (C_lengths_of : Cal P w K mg base cs "lengths_of" 3 ["rules"] [.ro] sem_lengths_of) : FnOk P w K mg base CX0 4 f fd ["rules"] (spD K cs [.ro] sem_need_ends) := by
  refine fn_ds F sc_need_ends rfl fun cdv A outer s H E hr => ⟨g_need_ends, ?_, co_need_ends⟩
  exact (sd_cons (sd_set (i := 1) sc_need_ends.nd rfl (by first | exact .inl rfl | exact .inr rfl) (c_call C_lengths_of (by exact ⟨rfl, rfl, rfl, rfl, rfl⟩) (by decide) (by exact hr) (by decide) (by rfl) (ep_cons (e_nameP (pv 0)) ep_nil)))
    (sd_one (sd_for PassesOwn.never rfl (i_list (c_call C_names_of (by exact ⟨rfl, rfl, rfl, rfl, rfl⟩) (by decide) (by exact hr) (by decide) (by rfl) (ep_cons (e_nameP (pv 0)) ep_nil))) (g_name (i := 2) sc_need_ends.nd rfl (by first | exact .inl rfl | exact .inr rfl))
      (sd_one (sd_if (et_ninK (by exact hu65 hr) (e_nameW (pv 2)) (e_nameW (pv 1)) (by rfl))
      (sd_one sd_never)
      sd_nil)))))

/-! need_rules -/
abbrev s_need_rules : Stmt := topS 15
theorem sc_need_rules : FnScope ["rules"] ["rules"] (defScope s_need_rules) := ⟨rfl, rfl, rfl, by decide +kernel, rfl, by decide +kernel, by decide +kernel⟩
noncomputable def g_need_rules : Nv → Option SR := (seqS (fun ρ => ((callS 1 sem_need_only_rules (cons2 (nmP 0) (fun _ => some []))) ρ).map fun _ => .nx ρ)
    (seqS (fun ρ => ((callS 1 sem_need_known_names (cons2 (nmP 0) (fun _ => some []))) ρ).map fun _ => .nx ρ)
    (seqS (fun ρ => ((callS 1 sem_need_ends (cons2 (nmP 0) (fun _ => some []))) ρ).map fun _ => .nx ρ)
    (fun ρ => ((callD listD (cons2 (nmW 0) (fun _ => some []))) ρ).map fun d => .rt d true ρ))))
noncomputable def sem_need_rules : List D → Option Ou := semR 1 0 g_need_rules
theorem co_need_rules : Comes [.ro] 0 g_need_rules sem_need_rules := comes_ro (by decide)
theorem ok_need_rules {f : Addr} {fd : FuncData} (F : Fun K "need_rules" "need_rules" s_need_rules f fd) (B : Blts mg) (C_need_ends : Cal P w K mg base cs "need_ends" 4 ["rules"] [.ro] sem_need_ends) (C_need_known_names : Cal P w K mg base cs "need_known_names" 2 ["rules"] [.ro] sem_need_known_names) (C_need_only_rules : Cal P w K mg base cs "need_only_rules" 5 ["rules"] [.ro] sem_need_only_rules) : FnOk P w K mg base CX0 6 f fd ["rules"] (spD K cs [.ro] sem_need_rules) := by
  refine fn_ds F sc_need_rules rfl fun cdv A outer s H E hr => ⟨g_need_rules, ?_, co_need_rules⟩
  exact (sd_cons (sd_expr (c_call C_need_only_rules (by exact ⟨rfl, rfl, rfl, rfl, rfl⟩) (by decide) (by exact hr) (by decide) (by rfl) (ep_cons (e_nameP (pv 0)) ep_nil)))
    (sd_cons (sd_expr (c_call C_need_known_names (by exact ⟨rfl, rfl, rfl, rfl, rfl⟩) (by decide) (by exact hr) (by decide) (by rfl) (ep_cons (e_nameP (pv 0)) ep_nil)))
    (sd_cons (sd_expr (c_call C_need_ends (by exact ⟨rfl, rfl, rfl, rfl, rfl⟩) (by decide) (by exact hr) (by decide) (by rfl) (ep_cons (e_nameP (pv 0)) ep_nil)))
    (sd_one (sd_retN (e_callTN cn_list (by rfl) B.b_list PyProof.Rows.boot_list (ewa_cons (e_nameW (pv 0)) ewa_nil)))))))

/-! shortest -/
abbrev s_shortest : Stmt := topS 24
theorem sc_shortest : FnScope ["rules", "lengths", "name"] ["rules"] (defScope s_shortest) := ⟨rfl, rfl, rfl, by decide +kernel, rfl, by decide +kernel, by decide +kernel⟩
noncomputable def g_shortest : Nv → Option SR := (seqS (fun ρ => ((callS 1 sem_need_rules (cons2 (nmP 0) (fun _ => some []))) ρ).map fun _ => .nx ρ)
    (seqS (setS 1 (callS 1 sem_lengths_of (cons2 (nmP 0) (fun _ => some []))))
    (fun ρ => ((dcV 2 (fun ρ => ((callS 1 sem_names_of (cons2 (nmP 0) (fun _ => some []))) ρ).bind asL) (fun _ => some true) (nmP 2) (op2 getKD (nmW 1) (nmW 2))) ρ).map fun d => .rt d true ρ)))
noncomputable def sem_shortest : List D → Option Ou := semR 1 2 g_shortest
theorem co_shortest : Comes [.ro] 2 g_shortest sem_shortest := comes_ro (by decide)
theorem ok_shortest {f : Addr} {fd : FuncData} (F : Fun K "shortest" "shortest" s_shortest f fd) (B : Blts mg) (C_names_of : Cal P w K mg base cs "names_of" 1 ["rules"] [.ro] sem_names_of) (C_lengths_of : Cal P w K mg base cs "lengths_of" 3 ["rules"] [.ro] sem_lengths_of) (C_need_rules : Cal P w K mg base cs "need_rules" 6 ["rules"] [.ro] sem_need_rules) : FnOk P w K mg base CX0 7 f fd ["rules"] (spD K cs [.ro] sem_shortest) := by
  refine fn_ds F sc_shortest rfl fun cdv A outer s H E hr => ⟨g_shortest, ?_, co_shortest⟩
  exact (sd_cons (sd_expr (c_call C_need_rules (by exact ⟨rfl, rfl, rfl, rfl, rfl⟩) (by decide) (by exact hr) (by decide) (by rfl) (ep_cons (e_nameP (pv 0)) ep_nil)))
    (sd_cons (sd_set (i := 1) sc_shortest.nd rfl (by first | exact .inl rfl | exact .inr rfl) (c_call C_lengths_of (by exact ⟨rfl, rfl, rfl, rfl, rfl⟩) (by decide) (by exact hr) (by decide) (by rfl) (ep_cons (e_nameP (pv 0)) ep_nil)))
    (sd_one (sd_retN (e_dc rfl sc_shortest.nd (i := 2) rfl ((i_list (c_call C_names_of (by exact ⟨rfl, rfl, rfl, rfl, rfl⟩) (by decide) (by exact hr) (by decide) (by rfl) (ep_cons (e_nameP (pv 0)) ep_nil)))).comp (blkOk_by (by show blkC ["rules", "lengths", "name"] (defScope s_shortest) _ _ = true; decide +kernel)) (fun _ _ _ _ _ => by rfl) (fun _ _ _ _ _ => ets_nil) (fun _ _ _ _ _ => (e_nameP (pv 2))) (fun _ _ _ _ _ => (e_getK (by exact hu65 hr) (e_nameW (pv 1)) (e_nameW (pv 2)) (fun _ _ => rfl))))))))

/-! _law_at -/
abbrev s__law_at : Stmt := topS 26
theorem sc__law_at : FnScope ["_law_script", "_law_place"] ["_law_script", "_law_place"] (defScope s__law_at) := ⟨rfl, rfl, rfl, by decide +kernel, rfl, by decide +kernel, by decide +kernel⟩
noncomputable def g__law_at : Nv → Option SR := (seqS (ifS (opT geD (nmW 1) (callD lenD (cons2 (nmW 0) (fun _ => some []))))
      (fun ρ => ((fun _ => some (.int 0)) ρ).map fun d => .rt d false ρ)
      (fun ρ => some (.nx ρ)))
    (fun ρ => ((op2 ixD (nmW 0) (nmW 1)) ρ).map fun d => .rt d false ρ))
noncomputable def sem__law_at : List D → Option Ou := semR 2 0 g__law_at
theorem co__law_at : Comes [.ro, .ro] 0 g__law_at sem__law_at := comes_ro (by decide)
theorem ok__law_at {f : Addr} {fd : FuncData} (F : Fun K "_law_at" "_law_at" s__law_at f fd) (B : Blts mg) : FnOk P w K mg base CX0 1 f fd ["_law_script", "_law_place"] (spD K cs [.ro, .ro] sem__law_at) := by
  refine fn_ds F sc__law_at rfl fun cdv A outer s H E hr => ⟨g__law_at, ?_, co__law_at⟩
  exact (sd_cons (sd_if (et_cmp od_ge (e_nameW (pv 1)) ((e_callB cd_len (by rfl) B.b_len PySem.boot_len (ewa_cons (e_nameW (pv 0)) ewa_nil))).w (nomark _))
      (sd_one (sd_ret e_int))
      sd_nil)
    (sd_one (sd_ret (e_ix (e_nameW (pv 0)) (e_nameW (pv 1)) (fun _ _ => rfl)))))

/-! _law_word -/
abbrev s__law_word : Stmt := topS 27
theorem sc__law_word : FnScope ["_law_cell", "_law_k", "_law_letters", "_law_size", "_law_at_here", "_law_word_here", "_law_j", "_law_letter"] ["_law_cell", "_law_k"] (defScope s__law_word) := ⟨rfl, rfl, rfl, by decide +kernel, rfl, by decide +kernel, by decide +kernel⟩
noncomputable def g__law_word : Nv → Option SR := (seqS (setS 2 (fun _ => some (.str "abcdefghijklmnopqrstuvwxyz")))
    (seqS (setS 3 (op2 addD (fun _ => some (.int 1)) (op2 modD (op2 fdivD (nmW 0) (fun _ => some (.int 26))) (fun _ => some (.int 12)))))
    (seqS (setS 4 (op2 modD (op2 fdivD (nmW 0) (fun _ => some (.int 312))) (nmW 3)))
    (seqS (setS 5 (op2 joinD (fun _ => some (.str "")) (lcV 6 (fun ρ => ((cons2 (nmP 3) (fun _ => some [])) ρ).bind rng1) (fun _ => some true) (op2 ixD (nmW 2) (op2 modD (op2 addD (nmW 0) (op2 mulD (fun _ => some (.int 3)) (nmW 6))) (fun _ => some (.int 26)))))))
    (seqS (setS 7 (op2 ixD (nmW 2) (op2 modD (op2 addD (nmW 0) (op2 mulD (fun _ => some (.int 7)) (nmW 1))) (fun _ => some (.int 26)))))
    (fun ρ => ((op2 addD (op2 addD (slS (nmW 5) (fun _ => some none) (fun ρ => ((nmP 4) ρ).bind fun x => (asI x).map some)) (nmW 7)) (slS (nmW 5) (fun ρ => ((op2 addD (nmW 4) (fun _ => some (.int 1))) ρ).bind fun x => (asI x).map some) (fun _ => some none))) ρ).map fun d => .rt d false ρ))))))
noncomputable def sem__law_word : List D → Option Ou := semR 2 6 g__law_word
theorem co__law_word : Comes [.ro, .ro] 6 g__law_word sem__law_word := comes_ro (by decide)
theorem ok__law_word {f : Addr} {fd : FuncData} (F : Fun K "_law_word" "_law_word" s__law_word f fd) (B : Blts mg) : FnOk P w K mg base CX0 1 f fd ["_law_cell", "_law_k"] (spD K cs [.ro, .ro] sem__law_word) := by
  refine fn_ds F sc__law_word rfl fun cdv A outer s H E hr => ⟨g__law_word, ?_, co__law_word⟩
  exact (sd_cons (sd_set (i := 2) sc__law_word.nd rfl (by first | exact .inl rfl | exact .inr rfl) e_str)
    (sd_cons (sd_set (i := 3) sc__law_word.nd rfl (by first | exact .inl rfl | exact .inr rfl) (e_op od_add (e_int).w ((e_op od_mod ((e_op od_fdiv (e_nameW (pv 0)) (e_int).w)).w (e_int).w)).w))
    (sd_cons (sd_set (i := 4) sc__law_word.nd rfl (by first | exact .inl rfl | exact .inr rfl) (e_op od_mod ((e_op od_fdiv (e_nameW (pv 0)) (e_int).w)).w (e_nameW (pv 3))))
    (sd_cons (sd_set (i := 5) sc__law_word.nd rfl (by first | exact .inl rfl | exact .inr rfl) (e_join (e_str).w ((e_lc rfl sc__law_word.nd (i := 6) rfl ((i_rng1 (by rfl) B.b_range (ep_cons (e_nameP (pv 3)) ep_nil))).comp (blkOk_by (by show blkC ["_law_cell", "_law_k", "_law_letters", "_law_size", "_law_at_here", "_law_word_here", "_law_j", "_law_letter"] (defScope s__law_word) _ _ = true; decide +kernel)) (fun _ _ _ _ _ => by rfl) (fun _ _ _ _ _ => ets_nil) (fun _ _ _ _ _ => (e_ix (e_nameW (pv 2)) ((e_op od_mod ((e_op od_add (e_nameW (pv 0)) ((e_op od_mul (e_int).w (e_nameW (pv 6)))).w)).w (e_int).w)).w (fun _ _ => rfl))))).w))
    (sd_cons (sd_set (i := 7) sc__law_word.nd rfl (by first | exact .inl rfl | exact .inr rfl) (e_ix (e_nameW (pv 2)) ((e_op od_mod ((e_op od_add (e_nameW (pv 0)) ((e_op od_mul (e_int).w (e_nameW (pv 1)))).w)).w (e_int).w)).w (fun _ _ => rfl)))
    (sd_one (sd_ret (e_op od_add ((e_op od_add ((e_slS (e_nameW (pv 5)) eo_none (eo_some (e_nameP (pv 4))))).w (e_nameW (pv 7)))).w ((e_slS (e_nameW (pv 5)) (eo_some (e_op od_add (e_nameW (pv 4)) (e_int).w)) eo_none)).w))))))))

/-! _law_rules -/
abbrev s__law_rules : Stmt := topS 28
theorem sc__law_rules : FnScope ["_law_script", "_law_base", "_law_count", "_law_names", "_law_k", "_law_rules_here", "_law_cell", "_law_one", "_law_other"] ["_law_script", "_law_base"] (defScope s__law_rules) := ⟨rfl, rfl, rfl, by decide +kernel, rfl, by decide +kernel, by decide +kernel⟩
noncomputable def g__law_rules : Nv → Option SR := (seqS (setS 2 (op2 addD (fun _ => some (.int 1)) (op2 modD (nmW 1) (fun _ => some (.int 4)))))
    (seqS (ifS (opT eqD (op2 modD (op2 fdivD (nmW 1) (fun _ => some (.int 8))) (fun _ => some (.int 6))) (fun _ => some (.int 1)))
      (setS 2 (op2 addD (fun _ => some (.int 5)) (op2 modD (op2 fdivD (nmW 1) (fun _ => some (.int 48))) (fun _ => some (.int 8)))))
      (fun ρ => some (.nx ρ)))
    (seqS (setS 3 (lcV 4 (fun ρ => ((cons2 (nmP 2) (fun _ => some [])) ρ).bind rng1) (fun _ => some true) (callS 2 sem__law_word (cons2 (op2 fdivD (nmW 1) (fun _ => some (.int 4))) (cons2 (nmP 4) (fun _ => some []))))))
    (seqS (setN 5 (mkL (fun _ => some [])))
    (seqS (fun ρ => ((fun ρ => ((cons2 (nmP 2) (fun _ => some [])) ρ).bind rng1) ρ).bind fun ds => forS (toNm 4) (seqS (setS 6 (callS 2 sem__law_at (cons2 (nmP 0) (cons2 (op2 addD (fun _ => some (.int 30)) (nmW 4)) (fun _ => some [])))))
    (ifS (orT (opT eqD (nmW 4) (fun _ => some (.int 0))) (opT eqD (op2 modD (nmW 6) (fun _ => some (.int 4))) (fun _ => some (.int 0))))
      (appS 5 (mkT (cons2 (op2 ixD (nmW 3) (nmW 4)) (cons2 (op2 ixD (fun _ => some (.str "ab +")) (op2 modD (op2 fdivD (nmW 6) (fun _ => some (.int 4))) (fun _ => some (.int 4)))) (fun _ => some [])))))
      (appS 5 (mkT (cons2 (op2 ixD (nmW 3) (nmW 4)) (cons2 (op2 ixD (nmW 3) (op2 modD (op2 fdivD (nmW 6) (fun _ => some (.int 4))) (nmW 4))) (cons2 (op2 ixD (nmW 3) (op2 modD (op2 fdivD (nmW 6) (fun _ => some (.int 16))) (nmW 4))) (fun _ => some [])))))))) ds ρ)
    (seqS (fun ρ => ((fun ρ => ((cons2 (op2 modD (callS 2 sem__law_at (cons2 (nmP 0) (cons2 (fun _ => some (.int 1)) (fun _ => some [])))) (fun _ => some (.int 10))) (fun _ => some [])) ρ).bind rng1) ρ).bind fun ds => forS (toNm 4) (seqS (setS 6 (callS 2 sem__law_at (cons2 (nmP 0) (cons2 (op2 addD (fun _ => some (.int 6)) (nmW 4)) (fun _ => some [])))))
    (seqS (parS 7 8 (cons2 (op2 ixD (nmW 3) (op2 modD (op2 fdivD (nmW 6) (fun _ => some (.int 3))) (nmW 2))) (cons2 (op2 ixD (nmW 3) (op2 modD (op2 fdivD (nmW 6) (fun _ => some (.int 12))) (nmW 2))) (fun _ => some []))))
    (ifS (opT eqD (op2 modD (nmW 6) (fun _ => some (.int 3))) (fun _ => some (.int 0)))
      (appS 5 (mkT (cons2 (nmP 7) (cons2 (op2 ixD (fun _ => some (.str "ab +")) (op2 modD (op2 fdivD (nmW 6) (fun _ => some (.int 12))) (fun _ => some (.int 4)))) (fun _ => some [])))))
      (appS 5 (mkT (cons2 (op2 ixD (nmW 3) (op2 modD (op2 fdivD (nmW 6) (fun _ => some (.int 48))) (nmW 2))) (cons2 (nmP 7) (cons2 (nmP 8) (fun _ => some []))))))))) ds ρ)
    (seqS (ifS (opT eqD (op2 modD (op2 fdivD (nmW 1) (fun _ => some (.int 4))) (fun _ => some (.int 2))) (fun _ => some (.int 1)))
      (mutS 5 revD)
      (fun ρ => some (.nx ρ)))
    (retNm 5))))))))
noncomputable def sem__law_rules : List D → Option Ou := semR 2 7 g__law_rules
theorem co__law_rules : Comes [.ro, .ro] 7 g__law_rules sem__law_rules := comes_ro (by decide)
theorem ok__law_rules {f : Addr} {fd : FuncData} (F : Fun K "_law_rules" "_law_rules" s__law_rules f fd) (B : Blts mg) (C__law_at : Cal P w K mg base cs "_law_at" 1 ["_law_script", "_law_place"] [.ro, .ro] sem__law_at) (C__law_word : Cal P w K mg base cs "_law_word" 1 ["_law_cell", "_law_k"] [.ro, .ro] sem__law_word) : FnOk P w K mg base CX0 2 f fd ["_law_script", "_law_base"] (spD K cs [.ro, .ro] sem__law_rules) := by
  refine fn_ds F sc__law_rules rfl fun cdv A outer s H E hr => ⟨g__law_rules, ?_, co__law_rules⟩
  exact (sd_cons (sd_set (i := 2) sc__law_rules.nd rfl (by first | exact .inl rfl | exact .inr rfl) (e_op od_add (e_int).w ((e_op od_mod (e_nameW (pv 1)) (e_int).w)).w))
    (sd_cons (sd_if (et_cmp (od_eq hr.units) ((e_op od_mod ((e_op od_fdiv (e_nameW (pv 1)) (e_int).w)).w (e_int).w)).w (e_int).w (nomark _))
      (sd_one (sd_set (i := 2) sc__law_rules.nd rfl (by first | exact .inl rfl | exact .inr rfl) (e_op od_add (e_int).w ((e_op od_mod ((e_op od_fdiv (e_nameW (pv 1)) (e_int).w)).w (e_int).w)).w)))
      sd_nil)
    (sd_cons (by first | exact (sd_setLcS (j := 3) rfl sc__law_rules.nd rfl rfl (sw_true rfl rfl rfl (by decide +kernel)) (i := 4) rfl ((i_rng1 (by rfl) B.b_range (ep_cons (e_nameP (pv 2)) ep_nil))).comp (blkOk_by (by show blkC ["_law_script", "_law_base", "_law_count", "_law_names", "_law_k", "_law_rules_here", "_law_cell", "_law_one", "_law_other"] (defScope s__law_rules) _ _ = true; decide +kernel)) (fun _ _ _ _ _ => by rfl) (fun _ _ _ _ _ => ets_nil) (fun _ _ _ _ _ => (c_call C__law_word (by exact ⟨rfl, rfl, rfl, rfl, rfl⟩) (by decide) (by exact hr) (by decide) (by rfl) (ep_cons (e_op od_fdiv (e_nameW (pv 1)) (e_int).w) (ep_cons (e_nameP (pv 4)) ep_nil))))) | exact (sd_set (i := 3) sc__law_rules.nd rfl (by first | exact .inl rfl | exact .inr rfl) (e_lc rfl sc__law_rules.nd (i := 4) rfl ((i_rng1 (by rfl) B.b_range (ep_cons (e_nameP (pv 2)) ep_nil))).comp (blkOk_by (by show blkC ["_law_script", "_law_base", "_law_count", "_law_names", "_law_k", "_law_rules_here", "_law_cell", "_law_one", "_law_other"] (defScope s__law_rules) _ _ = true; decide +kernel)) (fun _ _ _ _ _ => by rfl) (fun _ _ _ _ _ => ets_nil) (fun _ _ _ _ _ => (c_call C__law_word (by exact ⟨rfl, rfl, rfl, rfl, rfl⟩) (by decide) (by exact hr) (by decide) (by rfl) (ep_cons (e_op od_fdiv (e_nameW (pv 1)) (e_int).w) (ep_cons (e_nameP (pv 4)) ep_nil))))).p))
    (sd_cons (sd_setN (i := 5) sc__law_rules.nd rfl (by first | exact .inl rfl | exact .inr rfl) (e_lst ep_nil))
    (sd_cons (sd_for PassesOwn.never rfl (i_rng1 (by rfl) B.b_range (ep_cons (e_nameP (pv 2)) ep_nil)) (g_name (i := 4) sc__law_rules.nd rfl (by first | exact .inl rfl | exact .inr rfl))
      (sd_cons (sd_set (i := 6) sc__law_rules.nd rfl (by first | exact .inl rfl | exact .inr rfl) (c_call C__law_at (by exact ⟨rfl, rfl, rfl, rfl, rfl⟩) (by decide) (by exact hr) (by decide) (by rfl) (ep_cons (e_nameP (pv 0)) (ep_cons (e_op od_add (e_int).w (e_nameW (pv 4))) ep_nil))))
    (sd_one (sd_if (et_pw (ew_or (et_cmp (od_eq hr.units) (e_nameW (pv 4)) (e_int).w (nomark _)) (ew_or1 (et_cmp (od_eq hr.units) ((e_op od_mod (e_nameW (pv 6)) (e_int).w)).w (e_int).w (nomark _)))))
      (sd_one (sd_app (pv 5) (e_tup (ep_cons (e_ix (e_nameW (pv 3)) (e_nameW (pv 4)) (fun _ _ => rfl)) (ep_cons (e_ix (e_str).w ((e_op od_mod ((e_op od_fdiv (e_nameW (pv 6)) (e_int).w)).w (e_int).w)).w (fun _ _ => rfl)) ep_nil)))))
      (sd_one (sd_app (pv 5) (e_tup (ep_cons (e_ix (e_nameW (pv 3)) (e_nameW (pv 4)) (fun _ _ => rfl)) (ep_cons (e_ix (e_nameW (pv 3)) ((e_op od_mod ((e_op od_fdiv (e_nameW (pv 6)) (e_int).w)).w (e_nameW (pv 4)))).w (fun _ _ => rfl)) (ep_cons (e_ix (e_nameW (pv 3)) ((e_op od_mod ((e_op od_fdiv (e_nameW (pv 6)) (e_int).w)).w (e_nameW (pv 4)))).w (fun _ _ => rfl)) ep_nil))))))))))
    (sd_cons (sd_for PassesOwn.never rfl (i_rng1 (by rfl) B.b_range (ep_cons (e_op od_mod ((c_call C__law_at (by exact ⟨rfl, rfl, rfl, rfl, rfl⟩) (by decide) (by exact hr) (by decide) (by rfl) (ep_cons (e_nameP (pv 0)) (ep_cons e_int ep_nil)))).w (e_int).w) ep_nil)) (g_name (i := 4) sc__law_rules.nd rfl (by first | exact .inl rfl | exact .inr rfl))
      (sd_cons (sd_set (i := 6) sc__law_rules.nd rfl (by first | exact .inl rfl | exact .inr rfl) (c_call C__law_at (by exact ⟨rfl, rfl, rfl, rfl, rfl⟩) (by decide) (by exact hr) (by decide) (by rfl) (ep_cons (e_nameP (pv 0)) (ep_cons (e_op od_add (e_int).w (e_nameW (pv 4))) ep_nil))))
    (sd_cons (sd_par (i := 7) (j := 8) rfl sc__law_rules.nd rfl rfl (by decide) rfl rfl (ep_cons (e_ix (e_nameW (pv 3)) ((e_op od_mod ((e_op od_fdiv (e_nameW (pv 6)) (e_int).w)).w (e_nameW (pv 2)))).w (fun _ _ => rfl)) (ep_cons (e_ix (e_nameW (pv 3)) ((e_op od_mod ((e_op od_fdiv (e_nameW (pv 6)) (e_int).w)).w (e_nameW (pv 2)))).w (fun _ _ => rfl)) ep_nil)))
    (sd_one (sd_if (et_cmp (od_eq hr.units) ((e_op od_mod (e_nameW (pv 6)) (e_int).w)).w (e_int).w (nomark _))
      (sd_one (sd_app (pv 5) (e_tup (ep_cons (e_nameP (pv 7)) (ep_cons (e_ix (e_str).w ((e_op od_mod ((e_op od_fdiv (e_nameW (pv 6)) (e_int).w)).w (e_int).w)).w (fun _ _ => rfl)) ep_nil)))))
      (sd_one (sd_app (pv 5) (e_tup (ep_cons (e_ix (e_nameW (pv 3)) ((e_op od_mod ((e_op od_fdiv (e_nameW (pv 6)) (e_int).w)).w (e_nameW (pv 2)))).w (fun _ _ => rfl)) (ep_cons (e_nameP (pv 7)) (ep_cons (e_nameP (pv 8)) ep_nil)))))))))))
    (sd_cons (sd_if (et_cmp (od_eq hr.units) ((e_op od_mod ((e_op od_fdiv (e_nameW (pv 1)) (e_int).w)).w (e_int).w)).w (e_int).w (nomark _))
      (sd_one (sd_rev (pv 5)))
      sd_nil)
    (sd_one (sd_retNm (pv 5))))))))))

/-! _law_comes_to -/
abbrev s__law_comes_to : Stmt := topS 29
theorem sc__law_comes_to : FnScope ["_law_found", "_law_rule"] ["_law_found", "_law_rule"] (defScope s__law_comes_to) := ⟨rfl, rfl, rfl, by decide +kernel, rfl, by decide +kernel, by decide +kernel⟩
noncomputable def g__law_comes_to : Nv → Option SR := (seqS (ifS (opT eqD (callD lenD (cons2 (nmW 1) (fun _ => some []))) (fun _ => some (.int 2)))
      (fun ρ => ((fun _ => some (.int 1)) ρ).map fun d => .rt d false ρ)
      (fun ρ => some (.nx ρ)))
    (fun ρ => ((op2 addD (op2 getKD (nmW 0) (op2 ixD (nmW 1) (fun _ => some (.int 1)))) (op2 getKD (nmW 0) (op2 ixD (nmW 1) (fun _ => some (.int 2))))) ρ).map fun d => .rt d false ρ))
noncomputable def sem__law_comes_to : List D → Option Ou := semR 2 0 g__law_comes_to
theorem co__law_comes_to : Comes [.ro, .ro] 0 g__law_comes_to sem__law_comes_to := comes_ro (by decide)
theorem ok__law_comes_to {f : Addr} {fd : FuncData} (F : Fun K "_law_comes_to" "_law_comes_to" s__law_comes_to f fd) (B : Blts mg) : FnOk P w K mg base CX0 1 f fd ["_law_found", "_law_rule"] (spD K cs [.ro, .ro] sem__law_comes_to) := by
  refine fn_ds F sc__law_comes_to rfl fun cdv A outer s H E hr => ⟨g__law_comes_to, ?_, co__law_comes_to⟩
  exact (sd_cons (sd_if (et_cmp (od_eq hr.units) ((e_callB cd_len (by rfl) B.b_len PySem.boot_len (ewa_cons (e_nameW (pv 1)) ewa_nil))).w (e_int).w (nomark _))
      (sd_one (sd_ret e_int))
      sd_nil)
    (sd_one (sd_ret (e_op od_add ((e_getK (by exact hu65 hr) (e_nameW (pv 0)) ((e_ix (e_nameW (pv 1)) (e_int).w (fun _ _ => rfl))).w (fun _ _ => rfl))).w ((e_getK (by exact hu65 hr) (e_nameW (pv 0)) ((e_ix (e_nameW (pv 1)) (e_int).w (fun _ _ => rfl))).w (fun _ _ => rfl))).w))))

/-! law -/
abbrev s_law : Stmt := topS 30
theorem sc_law : FnScope ["_law_script", "_law_rules_here", "_law_given", "_law_found", "_law_names", "_law_rule", "_law_name", "_law_all_of"] ["_law_script"] (defScope s_law) := ⟨rfl, rfl, rfl, by decide +kernel, rfl, by decide +kernel, by decide +kernel⟩
noncomputable def g_law : Nv → Option SR := (seqS (setS 1 (callS 2 sem__law_rules (cons2 (nmP 0) (cons2 (callS 2 sem__law_at (cons2 (nmP 0) (cons2 (fun _ => some (.int 0)) (fun _ => some [])))) (fun _ => some [])))))
    (seqS (setS 2 (callD listD (cons2 (nmW 1) (fun _ => some []))))
    (seqS (setS 3 (callS 1 sem_shortest (cons2 (nmP 2) (fun _ => some []))))
    (seqS (setN 4 (mkL (fun _ => some [])))
    (seqS (fun ρ => ((fun ρ => ((nmP 1) ρ).bind asL) ρ).bind fun ds => forS (toNm 5) (ifS (opT ninD' (op2 ixD (nmW 5) (fun _ => some (.int 0))) (nmW 4))
      (appS 4 (op2 ixD (nmW 5) (fun _ => some (.int 0))))
      (fun ρ => some (.nx ρ))) ds ρ)
    (seqS (ifS (orT (notT (fun ρ => ((fun ρ => ((nmW 3) ρ).map fun d => .bool (isiB "dict" d)) ρ).bind truD)) (orT (opT neD (callD listKD (cons2 (nmW 3) (fun _ => some []))) (nmW 4)) (orT (opT neD (nmW 2) (nmW 1)) (opT neD (callS 1 sem_names_of (cons2 (nmP 2) (fun _ => some []))) (nmW 4)))))
      (fun ρ => ((fun _ => some (.bool false)) ρ).map fun d => .rt d false ρ)
      (fun ρ => some (.nx ρ)))
    (seqS (fun ρ => (shrS 4 ρ).bind (fun ρ => ((fun ρ => ((nmP 4) ρ).bind asL) ρ).bind fun ds => forS (toNm 6) (ifS (orT (notT (fun ρ => ((fun ρ => ((op2 getKD (nmW 3) (nmW 6)) ρ).map fun d => .bool (isiB "int" d)) ρ).bind truD)) (orT (fun ρ => ((fun ρ => ((op2 getKD (nmW 3) (nmW 6)) ρ).map fun d => .bool (isiB "bool" d)) ρ).bind truD) (opT ltD (op2 getKD (nmW 3) (nmW 6)) (fun _ => some (.int 1)))))
      (fun ρ => ((fun _ => some (.bool false)) ρ).map fun d => .rt d false ρ)
      (fun ρ => some (.nx ρ))) ds ρ))
    (seqS (fun ρ => (shrS 4 ρ).bind (fun ρ => ((fun ρ => ((nmP 4) ρ).bind asL) ρ).bind fun ds => forS (toNm 6) (seqS (setS 7 (lcV 5 (fun ρ => ((nmP 1) ρ).bind asL) (opT eqD (op2 ixD (nmW 5) (fun _ => some (.int 0))) (nmW 6)) (callS 2 sem__law_comes_to (cons2 (nmP 3) (cons2 (nmP 5) (fun _ => some []))))))
    (ifS (opT neD (callD minD (cons2 (nmW 7) (fun _ => some []))) (op2 getKD (nmW 3) (nmW 6)))
      (fun ρ => ((fun _ => some (.bool false)) ρ).map fun d => .rt d false ρ)
      (fun ρ => some (.nx ρ)))) ds ρ))
    (fun ρ => ((fun _ => some (.bool true)) ρ).map fun d => .rt d false ρ)))))))))
noncomputable def sem_law : List D → Option Ou := semR 1 7 g_law
theorem co_law : Comes [.ro] 7 g_law sem_law := comes_ro (by decide)
theorem ok_law {f : Addr} {fd : FuncData} (F : Fun K "law" "law" s_law f fd) (B : Blts mg) (C__law_comes_to : Cal P w K mg base cs "_law_comes_to" 1 ["_law_found", "_law_rule"] [.ro, .ro] sem__law_comes_to) (C_names_of : Cal P w K mg base cs "names_of" 1 ["rules"] [.ro] sem_names_of) (C_shortest : Cal P w K mg base cs "shortest" 7 ["rules"] [.ro] sem_shortest) (C__law_rules : Cal P w K mg base cs "_law_rules" 2 ["_law_script", "_law_base"] [.ro, .ro] sem__law_rules) (C__law_at : Cal P w K mg base cs "_law_at" 1 ["_law_script", "_law_place"] [.ro, .ro] sem__law_at) : FnOk P w K mg base CX0 8 f fd ["_law_script"] (spD K cs [.ro] sem_law) := by
  refine fn_ds F sc_law rfl fun cdv A outer s H E hr => ⟨g_law, ?_, co_law⟩
  exact (sd_cons (sd_set (i := 1) sc_law.nd rfl (by first | exact .inl rfl | exact .inr rfl) (c_call C__law_rules (by exact ⟨rfl, rfl, rfl, rfl, rfl⟩) (by decide) (by exact hr) (by decide) (by rfl) (ep_cons (e_nameP (pv 0)) (ep_cons (c_call C__law_at (by exact ⟨rfl, rfl, rfl, rfl, rfl⟩) (by decide) (by exact hr) (by decide) (by rfl) (ep_cons (e_nameP (pv 0)) (ep_cons e_int ep_nil))) ep_nil))))
    (sd_cons (sd_set (i := 2) sc_law.nd rfl (by first | exact .inl rfl | exact .inr rfl) ((e_callTN cn_list (by rfl) B.b_list PyProof.Rows.boot_list (ewa_cons (e_nameW (pv 1)) ewa_nil))).p)
    (sd_cons (sd_set (i := 3) sc_law.nd rfl (by first | exact .inl rfl | exact .inr rfl) (c_call C_shortest (by exact ⟨rfl, rfl, rfl, rfl, rfl⟩) (by decide) (by exact hr) (by decide) (by rfl) (ep_cons (e_nameP (pv 2)) ep_nil)))
    (sd_cons (sd_setN (i := 4) sc_law.nd rfl (by first | exact .inl rfl | exact .inr rfl) (e_lst ep_nil))
    (sd_cons (sd_for PassesOwn.never rfl (i_list (e_nameP (pv 1))) (g_name (i := 5) sc_law.nd rfl (by first | exact .inl rfl | exact .inr rfl))
      (sd_one (sd_if (et_cmp (od_nin (hu65 hr)) ((e_ix (e_nameW (pv 5)) (e_int).w (fun _ _ => rfl))).w (e_nameW (pv 4)) (by rfl))
      (sd_one (sd_app (pv 4) (e_ix (e_nameW (pv 5)) (e_int).w (fun _ _ => rfl))))
      sd_nil)))
    (sd_cons (sd_if (et_pw (ew_or (et_not (et_val ((e_isi isi_dict (by rfl) B.b_isinstance (e_nameW (pv 3)) (by rfl) B.b_dict PyProof.Rows.boot_dict)).w)) (ew_or (et_cmp (od_ne hr.units) ((e_callTN (cn_listK rfl) (by rfl) B.b_list PyProof.Rows.boot_list (ewa_cons (e_nameW (pv 3)) ewa_nil))).w (e_nameW (pv 4)) (nomark _)) (ew_or (et_cmp (od_ne hr.units) (e_nameW (pv 2)) (e_nameW (pv 1)) (nomark _)) (ew_or1 (et_cmp (od_ne hr.units) ((c_call C_names_of (by exact ⟨rfl, rfl, rfl, rfl, rfl⟩) (by decide) (by exact hr) (by decide) (by rfl) (ep_cons (e_nameP (pv 2)) ep_nil))).w (e_nameW (pv 4)) (nomark _)))))))
      (sd_one (sd_ret e_bool))
      sd_nil)
    (sd_cons (sd_share 4 (sd_for PassesOwn.never rfl (i_list (e_nameP (pv 4))) (g_name (i := 6) sc_law.nd rfl (by first | exact .inl rfl | exact .inr rfl))
      (sd_one (sd_if (et_pw (ew_or (et_not (et_val ((e_isi isi_int (by rfl) B.b_isinstance ((e_getK (by exact hu65 hr) (e_nameW (pv 3)) (e_nameW (pv 6)) (fun _ _ => rfl))).w (by rfl) B.b_int PyProof.Rows.boot_int)).w)) (ew_or (et_val ((e_isi isi_bool (by rfl) B.b_isinstance ((e_getK (by exact hu65 hr) (e_nameW (pv 3)) (e_nameW (pv 6)) (fun _ _ => rfl))).w (by rfl) B.b_bool PyProof.Rows.boot_bool)).w) (ew_or1 (et_cmp od_lt ((e_getK (by exact hu65 hr) (e_nameW (pv 3)) (e_nameW (pv 6)) (fun _ _ => rfl))).w (e_int).w (nomark _))))))
      (sd_one (sd_ret e_bool))
      sd_nil))))
    (sd_cons (sd_share 4 (sd_for PassesOwn.never rfl (i_list (e_nameP (pv 4))) (g_name (i := 6) sc_law.nd rfl (by first | exact .inl rfl | exact .inr rfl))
      (sd_cons (by first | exact (sd_setLcS (j := 7) rfl sc_law.nd rfl rfl (sw_true rfl rfl rfl (by decide +kernel)) (i := 5) rfl ((i_list (e_nameP (pv 1)))).comp (blkOk_by (by show blkC ["_law_script", "_law_rules_here", "_law_given", "_law_found", "_law_names", "_law_rule", "_law_name", "_law_all_of"] (defScope s_law) _ _ = true; decide +kernel)) (fun _ _ _ _ _ => by rfl) (fun _ _ _ _ _ => (ets_one (et_cmp (od_eq hr.units) ((e_ix (e_nameW (pv 5)) (e_int).w (fun _ _ => rfl))).w (e_nameW (pv 6)) (nomark _)))) (fun _ _ _ _ _ => (c_call C__law_comes_to (by exact ⟨rfl, rfl, rfl, rfl, rfl⟩) (by decide) (by exact hr) (by decide) (by rfl) (ep_cons (e_nameP (pv 3)) (ep_cons (e_nameP (pv 5)) ep_nil))))) | exact (sd_set (i := 7) sc_law.nd rfl (by first | exact .inl rfl | exact .inr rfl) (e_lc rfl sc_law.nd (i := 5) rfl ((i_list (e_nameP (pv 1)))).comp (blkOk_by (by show blkC ["_law_script", "_law_rules_here", "_law_given", "_law_found", "_law_names", "_law_rule", "_law_name", "_law_all_of"] (defScope s_law) _ _ = true; decide +kernel)) (fun _ _ _ _ _ => by rfl) (fun _ _ _ _ _ => (ets_one (et_cmp (od_eq hr.units) ((e_ix (e_nameW (pv 5)) (e_int).w (fun _ _ => rfl))).w (e_nameW (pv 6)) (nomark _)))) (fun _ _ _ _ _ => (c_call C__law_comes_to (by exact ⟨rfl, rfl, rfl, rfl, rfl⟩) (by decide) (by exact hr) (by decide) (by rfl) (ep_cons (e_nameP (pv 3)) (ep_cons (e_nameP (pv 5)) ep_nil))))).p))
    (sd_one (sd_if (et_cmp (od_ne hr.units) ((e_callB (cd_min rfl) (by rfl) B.b_min PyProof.Rows.boot_min (ewa_cons (e_nameW (pv 7)) ewa_nil))).w ((e_getK (by exact hu65 hr) (e_nameW (pv 3)) (e_nameW (pv 6)) (fun _ _ => rfl))).w (nomark _))
      (sd_one (sd_ret e_bool))
      sd_nil)))))
    (sd_one (sd_ret e_bool))))))))))
end
end K3

namespace K3
open PySem L2 DS
def okD (d : D) : Prop := ∀ x, d = .str x → x.length ≤ 100000 ∧ PyData.strOk x = true
def sgB (c : Nat) : Bool := decide (32 ≤ c) && decide (c ≤ 126) && !decide (c = 37)
def signB : D → Bool
  | .str x => decide (x.length = 1) && sgB (x.cps.getD 0 0)
  | _ => false
def letB (c : Nat) : Bool := decide (97 ≤ c) && decide (c ≤ 122)
def nameB : D → Bool
  | .str x => decide (1 ≤ x.length) && decide (x.length ≤ 12) && x.cps.toList.all letB
  | _ => false
theorem semR_of {k n : Nat} {g : Nv → Option SR} {ds : List D} {r : Option Ou} (h : ds.length = k) (e : (g (shs ds n)).bind (fin0 k) = r) : semR k n g ds = r := by
  unfold semR
  rw [if_pos h]
  exact e
theorem sq_nx {α : Type} {g g' : Nv → Option SR} {ρ ρ' : Nv} {k : SR → Option α} {r : Option α} (h1 : g ρ = some (.nx ρ')) (h2 : (g' ρ').bind k = r) : (seqS g g' ρ).bind k = r := by
  unfold seqS
  rw [h1]
  exact h2
theorem sq_rt {α : Type} {g g' : Nv → Option SR} {ρ ρ' : Nv} {d : D} {o : Bool} {k : SR → Option α} {r : Option α} (h1 : g ρ = some (.rt d o ρ')) (h2 : k (.rt d o ρ') = r) : (seqS g g' ρ).bind k = r := by
  unfold seqS
  rw [h1]
  exact h2
theorem eqv_int (i j : Int) : PyData.eqv (.int i) (.int j) = decide (i = j) := by
  rw [PyData.eqv]
  rfl
theorem le_nat (a c : Nat) : ((a : Int) ≤ (c : Int)) ↔ a ≤ c := by omega
theorem is_sign_is {d : D} (h : okD d) : sem_is_sign [d] = some (.ret (.bool (signB d)) false []) := by
  cases d with
  | str x =>
    obtain ⟨h1, h2⟩ := h x rfl
    by_cases hl : x.length = 1
    · simp [sem_is_sign, semR, g_is_sign, shs, seqS, ifS, orT, notT, nmW, Cell.got, isiB, truD, opT, op2, callD, cons2, lenD, neD, eqv_int, shaped_int, h1, asB, setS, ordD, hl, andV, ch3, leD, fin0, signB, sgB]
      generalize x.cps[0]?.getD 0 = c
      by_cases a : 32 ≤ c
      · have a' : (32 : Int) ≤ (c : Int) := by omega
        have e1 : decide ((c : Int) ≤ 126) = decide (c ≤ 126) := by
          by_cases b : c ≤ 126
          · rw [decide_eq_true b, decide_eq_true (by omega)]
          · rw [decide_eq_false b, decide_eq_false (by omega)]
        have e2 : decide ((c : Int) = 37) = decide (c = 37) := by
          by_cases b : c = 37
          · rw [decide_eq_true b, decide_eq_true (by omega)]
          · rw [decide_eq_false b, decide_eq_false (by omega)]
        by_cases b : c ≤ 126
        · simp [a', a, e1, e2, b, fin0]
        · simp [a', a, e1, e2, b, fin0]
      · have a' : ¬ (32 : Int) ≤ (c : Int) := by omega
        simp [a', a, fin0]
    · have hl' : (x.length : Int) ≠ 1 := by omega
      simp [sem_is_sign, semR, g_is_sign, shs, seqS, ifS, orT, notT, nmW, Cell.got, isiB, truD, opT, op2, callD, cons2, lenD, neD, eqv_int, shaped_int, h1, asB, hl, fin0, signB, hl']
  | _ => simp [sem_is_sign, semR, g_is_sign, shs, seqS, ifS, orT, notT, nmW, Cell.got, isiB, truD, fin0, signB]
theorem lt0 (c b : Nat) : (([c] : List Nat) < [b]) ↔ c < b := by
  rw [List.cons_lt_cons_iff]
  constructor
  · rintro (h | ⟨_, h⟩)
    · exact h
    · exact absurd h (List.not_lt_nil _)
  · exact .inl
theorem lt1 {c : Nat} {s : Str} {b : Nat} (h : s.cps.toList = [b]) : (!decide (([c] : List Nat) < s.cps.toList)) = decide (b ≤ c) := by
  rw [h]
  by_cases a : c < b
  · rw [decide_eq_true ((lt0 c b).mpr a), decide_eq_false (by omega)]
    rfl
  · rw [decide_eq_false (fun z => a ((lt0 c b).mp z)), decide_eq_true (by omega)]
    rfl
theorem lt2 {c : Nat} {s : Str} {b : Nat} (h : s.cps.toList = [b]) : (!decide (s.cps.toList < ([c] : List Nat))) = decide (c ≤ b) := by
  rw [h]
  by_cases a : b < c
  · rw [decide_eq_true ((lt0 b c).mpr a), decide_eq_false (by omega)]
    rfl
  · rw [decide_eq_false (fun z => a ((lt0 b c).mp z)), decide_eq_true (by omega)]
    rfl
theorem all_let : ∀ cs : List Nat, allD (ch3 leD leD (fun _ => some (.str "a")) (nmW 0) (fun _ => some (.str "z"))) (cs.map fun c => PyData.str ⟨#[c]⟩) = some (cs.all letB)
  | [] => rfl
  | c :: r => by
    have ih := all_let r
    rw [List.map_cons, allD]
    have e1 : ch3 leD leD (fun _ => some (.str "a")) (nmW 0) (fun _ => some (.str "z")) [some (Cell.sh (PyData.str ⟨#[c]⟩))] = some (.bool (letB c)) := by
      have a1 := lt1 (c := c) (s := "a") (b := 97) (by rfl)
      have a2 := lt2 (c := c) (s := "z") (b := 122) (by rfl)
      have f1 : leD (.str "a") (PyData.str ⟨#[c]⟩) = some (.bool (decide (97 ≤ c))) := by
        rw [← a1]
        rfl
      have f2 : leD (PyData.str ⟨#[c]⟩) (.str "z") = some (.bool (decide (c ≤ 122))) := by
        rw [← a2]
        rfl
      unfold ch3 letB
      simp only [Option.bind_some, nmW, Cell.got, List.getElem?_cons_zero, f1, asB]
      show (if decide (97 ≤ c) = true then leD (PyData.str ⟨#[c]⟩) (.str "z") else _) = _
      by_cases b : 97 ≤ c
      · rw [f2]
        simp [b]
      · simp [b]
    rw [e1]
    simp only [Option.bind_some, asB]
    by_cases b : letB c = true
    · rw [if_pos b, ih, List.all_cons, b]
      rfl
    · rw [if_neg b, List.all_cons]
      rw [Bool.eq_false_iff.mpr b]
      rfl
theorem is_name_is {d : D} (h : okD d) : sem_is_name [d] = some (.ret (.bool (nameB d)) false []) := by
  cases d with
  | str x =>
    obtain ⟨h1, h2⟩ := h x rfl
    by_cases hl : x.length < 1
    · have hl' : (x.length : Int) < 1 := by omega
      have hz : x.length = 0 := by omega
      simp [sem_is_name, semR, g_is_name, shs, seqS, ifS, orT, notT, nmW, Cell.got, isiB, truD, opT, op2, callD, cons2, lenD, ltD, gtD, h1, asB, hl, fin0, nameB, hz]
    · have hl' : ¬ (x.length : Int) < 1 := by omega
      have g1 : 1 ≤ x.length := by omega
      by_cases hm : x.length ≤ 12
      · have hm' : ¬ (12 : Int) < x.length := by omega
        have e := all_let x.cps.toList
        have e' : allD (ch3 leD leD (fun _ => some (.str "a")) (nmW 0) (fun _ => some (.str "z"))) (signsD x) = some (x.cps.toList.all letB) := e
        simp [sem_is_name, semR, g_is_name, shs, seqS, ifS, orT, notT, nmW, Cell.got, isiB, truD, opT, op2, callD, cons2, lenD, ltD, gtD, h1, asB, hl', g1, hm, hm', fin0, nameB, asSg]
        rw [e']
        simp [fin0]
      · have hm' : (12 : Int) < x.length := by omega
        simp [sem_is_name, semR, g_is_name, shs, seqS, ifS, orT, notT, nmW, Cell.got, isiB, truD, opT, op2, callD, cons2, lenD, ltD, gtD, h1, asB, hl', g1, hm, hm', fin0, nameB]
  | _ => simp [sem_is_name, semR, g_is_name, shs, seqS, ifS, orT, notT, nmW, Cell.got, isiB, truD, fin0, nameB]
theorem rule_parts (cs : List D) (h : ∀ d ∈ cs, okD d) : allD (callS 1 sem_is_name (cons2 (nmP 0) (fun _ => some []))) cs = some (cs.all nameB) := by
  induction cs with
  | nil => rfl
  | cons d r ih =>
    have e := is_name_is (h d List.mem_cons_self)
    have ih := ih fun d hd => h d (List.mem_cons_of_mem _ hd)
    rw [allD]
    have e1 : callS 1 sem_is_name (cons2 (nmP 0) (fun _ => some [])) [some (Cell.sh d)] = some (.bool (nameB d)) := by
      simp [callS, cons2, nmP, e]
    rw [e1, ih]
    simp only [Option.bind_some, asB, List.all_cons]
    by_cases b : nameB d = true
    · rw [if_pos b, b]
      rfl
    · rw [if_neg b, Bool.eq_false_iff.mpr b]
      rfl
def ruleB : D → Bool
  | .tuple [a, b] => nameB a && signB b
  | .tuple [a, b, c] => nameB a && nameB b && nameB c
  | _ => false
theorem is_rule_is {d : D} (h : ∀ ds, d = .tuple ds → ∀ x ∈ ds, okD x) : sem_is_rule [d] = some (.ret (.bool (ruleB d)) false []) := by
  cases d with
  | tuple ds =>
    have h' := h ds rfl
    match ds, h' with
    | [], _ => simp [sem_is_rule, semR, g_is_rule, shs, seqS, ifS, orT, notT, nmW, nmP, Cell.got, isiB, truD, opT, op2, callD, cons2, lenD, eqD, shaped_int, eqv_int, asB, fin0, andV, ruleB, callS, ixD, atI, ixN, asTu]
    | [_], _ => simp [sem_is_rule, semR, g_is_rule, shs, seqS, ifS, orT, notT, nmW, nmP, Cell.got, isiB, truD, opT, op2, callD, cons2, lenD, eqD, shaped_int, eqv_int, asB, fin0, andV, ruleB, callS, ixD, atI, ixN, asTu]
    | [a, b], h' =>
      have e1 := is_name_is (h' a (by simp))
      have e2 := is_sign_is (h' b (by simp))
      cases q : nameB a <;> rw [q] at e1 <;> simp [sem_is_rule, semR, g_is_rule, shs, seqS, ifS, orT, notT, nmW, nmP, Cell.got, isiB, truD, opT, op2, callD, cons2, lenD, eqD, shaped_int, eqv_int, asB, fin0, andV, ruleB, callS, ixD, atI, ixN, asTu, e1, e2, q]
    | [a, b, c], h' =>
      have e := rule_parts [a, b, c] h'
      unfold sem_is_rule g_is_rule
      refine semR_of rfl (sq_nx (ρ' := [some (Cell.sh (.tuple [a, b, c]))]) ?_ (sq_nx (ρ' := [some (Cell.sh (.tuple [a, b, c]))]) ?_ ?_))
      · simp [sem_is_rule, semR, g_is_rule, shs, seqS, ifS, orT, notT, nmW, nmP, Cell.got, isiB, truD, opT, op2, callD, cons2, lenD, eqD, shaped_int, eqv_int, asB, fin0, andV, ruleB, callS, ixD, atI, ixN, asTu]
      · simp [sem_is_rule, semR, g_is_rule, shs, seqS, ifS, orT, notT, nmW, nmP, Cell.got, isiB, truD, opT, op2, callD, cons2, lenD, eqD, shaped_int, eqv_int, asB, fin0, andV, ruleB, callS, ixD, atI, ixN, asTu]
      · have e2 : (op2 eqD (callD lenD (cons2 (nmW 0) (fun _ => some []))) (fun _ => some (.int 3))) [some (Cell.sh (.tuple [a, b, c]))] = some (.bool true) := by simp [sem_is_rule, semR, g_is_rule, shs, seqS, ifS, orT, notT, nmW, nmP, Cell.got, isiB, truD, opT, op2, callD, cons2, lenD, eqD, shaped_int, eqv_int, asB, fin0, andV, ruleB, callS, ixD, atI, ixN, asTu]
        unfold andV
        rw [e2]
        show Option.bind (Option.map _ (Option.map _ (allD _ [a, b, c]))) _ = _
        rw [e]
        simp [sem_is_rule, semR, g_is_rule, shs, seqS, ifS, orT, notT, nmW, nmP, Cell.got, isiB, truD, opT, op2, callD, cons2, lenD, eqD, shaped_int, eqv_int, asB, fin0, andV, ruleB, callS, ixD, atI, ixN, asTu, Bool.and_assoc]
    | a :: b :: c :: d :: r, _ =>
      have g1 : ¬ ((r.length : Int) + 1 + 1 + 1 + 1 = 2) := by omega
      have g2 : ¬ ((r.length : Int) + 1 + 1 + 1 + 1 = 3) := by omega
      simp [sem_is_rule, semR, g_is_rule, shs, seqS, ifS, orT, notT, nmW, nmP, Cell.got, isiB, truD, opT, op2, callD, cons2, lenD, eqD, shaped_int, eqv_int, asB, fin0, andV, ruleB, callS, ixD, atI, ixN, asTu, g1, g2]
  | _ => simp [sem_is_rule, semR, g_is_rule, shs, seqS, ifS, orT, notT, nmW, nmP, Cell.got, isiB, truD, opT, op2, callD, cons2, lenD, eqD, shaped_int, eqv_int, asB, fin0, andV, ruleB, callS, ixD, atI, ixN, asTu]

/-! ## rules -/
inductive Ru where
  | leaf (n s : Str)
  | fork (n a b : Str)
def Ru.hd : Ru → Str
  | .leaf n _ => n
  | .fork n _ _ => n
def Ru.d : Ru → D
  | .leaf n s => .tuple [.str n, .str s]
  | .fork n a b => .tuple [.str n, .str a, .str b]
def Ru.ok : Ru → Prop
  | .leaf n s => nameB (.str n) = true ∧ signB (.str s) = true
  | .fork n a b => nameB (.str n) = true ∧ nameB (.str a) = true ∧ nameB (.str b) = true
def Ru.isF : Ru → Bool
  | .leaf _ _ => false
  | .fork _ _ _ => true
theorem ok_nm {n : Str} (h : nameB (.str n) = true) : okD (.str n) := fun x e => by
  cases e
  simp only [nameB, Bool.and_eq_true, decide_eq_true_eq] at h
  refine ⟨by omega, strOk_all.mpr fun c hc => ?_⟩
  have := List.all_eq_true.mp h.2 c hc
  simp only [letB, Bool.and_eq_true, decide_eq_true_eq] at this
  omega
theorem ok_sg {n : Str} (h : signB (.str n) = true) : okD (.str n) := fun x e => by
  cases e
  simp only [signB, sgB, Bool.and_eq_true, decide_eq_true_eq] at h
  refine ⟨by omega, strOk_all.mpr fun c hc => ?_⟩
  have hl : n.cps.toList.length = 1 := h.1
  match q : n.cps.toList, hl with
  | [y], _ =>
    rw [q] at hc
    have hy : n.cps.getD 0 0 = y := by
      have h' : n.cps = #[y] := Array.toList_inj.mp q
      rw [h']
      rfl
    rw [hy] at h
    have : c = y := by simpa using hc
    omega
theorem Ru.okx {r : Ru} (h : r.ok) : ∀ ds, r.d = .tuple ds → ∀ x ∈ ds, okD x := fun ds e x hx => by
  cases r with
  | leaf n s =>
    cases e
    rcases List.mem_cons.mp hx with rfl | hx
    · exact ok_nm h.1
    · rcases List.mem_cons.mp hx with rfl | hx
      · exact ok_sg h.2
      · cases hx
  | fork n a b =>
    cases e
    rcases List.mem_cons.mp hx with rfl | hx
    · exact ok_nm h.1
    · rcases List.mem_cons.mp hx with rfl | hx
      · exact ok_nm h.2.1
      · rcases List.mem_cons.mp hx with rfl | hx
        · exact ok_nm h.2.2
        · cases hx
theorem Ru.rule {r : Ru} (h : r.ok) : sem_is_rule [r.d] = some (.ret (.bool true) false []) := by
  have e := is_rule_is (Ru.okx h)
  have : ruleB r.d = true := by
    cases r with
    | leaf n s => simp [Ru.d, ruleB, h.1, h.2]
    | fork n a b => simp [Ru.d, ruleB, h.1, h.2.1, h.2.2]
  rw [this] at e
  exact e
theorem is_fork_is (r : Ru) : sem_is_fork_rule [r.d] = some (.ret (.bool r.isF) false []) := by
  cases r <;> simp [sem_is_fork_rule, semR, g_is_fork_rule, shs, op2, nmW, Cell.got, callD, cons2, lenD, eqD, eqv_int, shaped_int, Ru.d, Ru.isF, fin0]
theorem ix0 (r : Ru) : ixD r.d (.int 0) = some (.str r.hd) := by cases r <;> rfl

/-! ### names_of -/
def addN (acc : List Str) (x : Str) : List Str := if x ∈ acc then acc else acc ++ [x]
def uniq (xs : List Str) : List Str := xs.foldl addN []
def nmE (n : Str) : Key × V := (.inr n, .bl true)
theorem put_nm (acc : List Str) (x : Str) : putK (acc.map nmE) (.inr x) (.bl true) = (addN acc x).map nmE := by
  unfold putK addN
  have e : ((acc.map nmE).any fun kv => decide (kv.1 = (.inr x : Key))) = decide (x ∈ acc) := by
    induction acc with
    | nil => rfl
    | cons y r ih =>
      rw [List.map_cons, List.any_cons, ih]
      by_cases h : y = x
      · simp [nmE, h]
      · have h2 : ¬ x = y := fun z => h z.symm
        simp [nmE, h, h2]
  rw [e]
  by_cases h : x ∈ acc
  · rw [if_pos (by simp [h]), if_pos h, List.map_map]
    refine List.map_congr_left fun y _ => ?_
    show (if (nmE y).1 = _ then _ else _) = _
    split <;> rfl
  · rw [if_neg (by simp [h]), if_neg h, List.map_append]
    rfl
theorem dc_names (x0 : Option Cell) : ∀ (rs : List Ru) (acc : List Str), dcD 1 (fun _ => some true) (op2 ixD (nmW 1) (fun _ => some (.int 0))) (fun _ => some (.bool true)) [x0, none] (rs.map Ru.d) (acc.map nmE) = some (((rs.map Ru.hd).foldl addN acc).map nmE)
  | [], acc => rfl
  | r :: rs, acc => by
    rw [List.map_cons, dcD]
    have e : op2 ixD (nmW 1) (fun _ => some (.int 0)) [x0, some (Cell.sh r.d)] = some (.str r.hd) := ix0 r
    show Option.bind (op2 ixD (nmW 1) (fun _ => some (.int 0)) [x0, some (Cell.sh r.d)]) _ = _
    rw [e]
    show dcD 1 _ _ _ _ _ (putK (acc.map nmE) (.inr r.hd) (.bl true)) = _
    rw [put_nm, dc_names x0 rs]
    rfl
theorem flat_nm (ns : List Str) : ((ns.map nmE).all fun p => flat p.2) = true := by
  rw [List.all_eq_true]
  intro p hp
  obtain ⟨n, _, rfl⟩ := List.mem_map.mp hp
  rfl
theorem names_is {rs : List Ru} (h : rs.length ≤ 1000) : sem_names_of [.list (rs.map Ru.d)] = some (.ret (.list ((uniq (rs.map Ru.hd)).map .str)) true []) := by
  unfold sem_names_of g_names_of
  refine semR_of rfl ?_
  have e1 : dcV 1 (fun ρ => ((nmP 0) ρ).bind asL) (fun _ => some true) (op2 ixD (nmW 1) (fun _ => some (.int 0))) (fun _ => some (.bool true)) [some (Cell.sh (.list (rs.map Ru.d))), none] = some (.dict (((uniq (rs.map Ru.hd)).map nmE).map enK)) := by
    unfold dcV
    show (if _ then _ else _) = _
    rw [if_pos ⟨rfl, by rw [List.length_map]; omega⟩]
    have := dc_names (some (Cell.sh (.list (rs.map Ru.d)))) rs []
    show Option.map _ (dcD 1 _ _ _ _ _ (([] : List Str).map nmE)) = _
    rw [this]
    rfl
  show Option.bind (Option.map _ (callD listKD (cons2 _ _) [some (Cell.sh (.list (rs.map Ru.d))), none])) _ = _
  unfold callD
  rw [cons2_is e1 rfl]
  show Option.bind (Option.map _ ((decK _).map _)) _ = _
  rw [decK_en (flat_nm _)]
  have e3 : (((fun kv => kD kv.1) ∘ nmE) : Str → D) = PyData.str := by
    funext n
    rfl
  show some (Ou.ret (.list (((uniq (rs.map Ru.hd)).map nmE).map fun kv => kD kv.1)) true []) = _
  rw [List.map_map]
  rfl
/-! ### lengths -/
abbrev M := List (Key × V)
def OkM (m : M) : Prop := ∀ p ∈ m, ∃ n i, p = ((.inr n, V.int i) : Key × V) ∧ 1 ≤ i
def look (m : M) (n : Str) : Option Int := match valV m (.inr n) with
  | some (.int i) => some i
  | _ => none
theorem OkM.flat {m : M} (h : OkM m) : (m.all fun p => flat p.2) = true := by
  rw [List.all_eq_true]
  intro p hp
  obtain ⟨n, i, rfl, _⟩ := h p hp
  rfl
theorem OkM.val {m : M} (h : OkM m) {n : Str} {v : V} (e : valV m (.inr n) = some v) : ∃ i, v = .int i ∧ 1 ≤ i ∧ look m n = some i := by
  have e0 := e
  unfold valV at e
  obtain ⟨p, h1, rfl⟩ := Option.map_eq_some_iff.mp e
  obtain ⟨n', i, rfl, hi⟩ := h p (List.mem_of_find?_eq_some h1)
  refine ⟨i, rfl, hi, ?_⟩
  unfold look
  rw [e0]
theorem look_some {m : M} {n : Str} {i : Int} (h : look m n = some i) : valV m (.inr n) = some (.int i) := by
  unfold look at h
  split at h
  · rename_i j e
    cases h
    exact e
  · cases h
theorem OkM.look_none {m : M} (h : OkM m) {n : Str} : look m n = none ↔ valV m (.inr n) = none := by
  constructor
  · intro hl
    cases e : valV m (.inr n) with
    | none => rfl
    | some v =>
      obtain ⟨i, _, _, e2⟩ := h.val e
      rw [hl] at e2
      cases e2
  · intro hv
    unfold look
    rw [hv]
theorem OkM.isSome {m : M} (h : OkM m) (n : Str) : (valV m (.inr n)).isSome = (look m n).isSome := by
  cases e : valV m (.inr n) with
  | none =>
    rw [h.look_none.mpr e]
    rfl
  | some v =>
    obtain ⟨i, _, _, e2⟩ := h.val e
    rw [e2]
    rfl
theorem OkM.pos {m : M} (h : OkM m) {n : Str} {i : Int} (e : look m n = some i) : 1 ≤ i := by
  obtain ⟨j, e1, e2, e3⟩ := h.val (look_some e)
  cases e1
  exact e2
def mD (m : M) : D := .dict (m.map enK)
theorem in_is {m : M} (h : OkM m) (n : Str) : inKD (.str n) (mD m) = some (.bool (look m n).isSome) := by
  show ((decK (m.map enK)).map fun kvs => PyData.bool _) = _
  rw [decK_en h.flat, ← h.isSome]
  rfl
theorem nin_is {m : M} (h : OkM m) (n : Str) : ninKD (.str n) (mD m) = some (.bool (!(look m n).isSome)) := by
  show ((decK (m.map enK)).map fun kvs => PyData.bool _) = _
  rw [decK_en h.flat, ← h.isSome]
  rfl
theorem get_is {m : M} (h : OkM m) {n : Str} {i : Int} (e : look m n = some i) : getKD (mD m) (.str n) = some (.int i) := by
  show (decK (m.map enK)).bind _ = _
  rw [decK_en h.flat]
  show (valV m (.inr n)).map sD = _
  rw [look_some e]
  rfl
def cost (m : M) : Ru → Option Int
  | .leaf _ _ => some 1
  | .fork _ a b => (look m a).bind fun i => (look m b).map fun j => i + j
def optD : Option Int → D
  | none => .none
  | some i => .int i
theorem length_is {m : M} (h : OkM m) (r : Ru) : sem_length_by [r.d, mD m] = some (.ret (optD (cost m r)) false []) := by
  unfold sem_length_by g_length_by
  refine semR_of rfl ?_
  have ef : callS 1 sem_is_fork_rule (cons2 (nmP 0) (fun _ => some [])) [some (Cell.sh r.d), some (Cell.sh (mD m)), none, none, none] = some (.bool r.isF) := callS_is (cons2_is rfl rfl) rfl (is_fork_is r)
  cases r with
  | leaf n s =>
    refine sq_rt (d := .int 1) (o := false) (ρ' := [some (Cell.sh (Ru.leaf n s).d), some (Cell.sh (mD m)), none, none, none]) ?_ rfl
    show ifS _ _ _ [some (Cell.sh (Ru.leaf n s).d), some (Cell.sh (mD m)), none, none, none] = _
    unfold ifS notT
    simp only [ef, Option.bind_some, truD, Option.map_some, Ru.isF]
    rfl
  | fork n a b =>
    refine sq_nx (ρ' := [some (Cell.sh (Ru.fork n a b).d), some (Cell.sh (mD m)), none, none, none]) ?_ ?_
    · show ifS _ _ _ [some (Cell.sh (Ru.fork n a b).d), some (Cell.sh (mD m)), none, none, none] = _
      unfold ifS notT
      simp only [ef, Option.bind_some, truD, Option.map_some, Ru.isF]
      rfl
    refine sq_nx (ρ' := [some (Cell.sh (Ru.fork n a b).d), some (Cell.sh (mD m)), some (.sh (.str n)), some (.sh (.str a)), some (.sh (.str b))]) rfl ?_
    have ta : opT inKD (nmW 3) (nmW 1) [some (Cell.sh (Ru.fork n a b).d), some (Cell.sh (mD m)), some (.sh (.str n)), some (.sh (.str a)), some (.sh (.str b))] = some (look m a).isSome := opT_is rfl rfl (in_is h a)
    have tb : opT inKD (nmW 4) (nmW 1) [some (Cell.sh (Ru.fork n a b).d), some (Cell.sh (mD m)), some (.sh (.str n)), some (.sh (.str a)), some (.sh (.str b))] = some (look m b).isSome := opT_is rfl rfl (in_is h b)
    cases qa : look m a with
    | none =>
      refine sq_nx (ρ' := [some (Cell.sh (Ru.fork n a b).d), some (Cell.sh (mD m)), some (.sh (.str n)), some (.sh (.str a)), some (.sh (.str b))]) ?_ ?_
      · unfold ifS andT
        rw [ta, qa]
        rfl
      · show some (Ou.ret .none false []) = _
        rw [show cost m (Ru.fork n a b) = (look m a).bind fun i => (look m b).map fun j => i + j from rfl, qa]
        rfl
    | some i =>
      cases qb : look m b with
      | none =>
        refine sq_nx (ρ' := [some (Cell.sh (Ru.fork n a b).d), some (Cell.sh (mD m)), some (.sh (.str n)), some (.sh (.str a)), some (.sh (.str b))]) ?_ ?_
        · unfold ifS andT
          rw [ta, qa, tb, qb]
          rfl
        · show some (Ou.ret .none false []) = _
          rw [show cost m (Ru.fork n a b) = (look m a).bind fun i => (look m b).map fun j => i + j from rfl, qa, qb]
          rfl
      | some j =>
        refine sq_rt (d := .int (i + j)) (o := false) (ρ' := [some (Cell.sh (Ru.fork n a b).d), some (Cell.sh (mD m)), some (.sh (.str n)), some (.sh (.str a)), some (.sh (.str b))]) ?_ ?_
        · unfold ifS andT
          rw [ta, qa, tb, qb]
          have e : op2 addD (op2 getKD (nmW 1) (nmW 3)) (op2 getKD (nmW 1) (nmW 4)) [some (Cell.sh (Ru.fork n a b).d), some (Cell.sh (mD m)), some (.sh (.str n)), some (.sh (.str a)), some (.sh (.str b))] = some (.int (i + j)) :=
            op2_is (op2_is rfl rfl (get_is h qa)) (op2_is rfl rfl (get_is h qb)) rfl
          show Option.map _ (op2 addD _ _ _) = _
          rw [e]
          rfl
        · show some (Ou.ret _ false []) = _
          rw [show cost m (Ru.fork n a b) = (look m a).bind fun i => (look m b).map fun j => i + j from rfl, qa, qb]
          rfl
theorem keep_no {m : M} (h : OkM m) {n : Str} {i c : Int} (e : look m n = some i) (hc : i ≤ c) : sem_keep_lesser [mD m, .str n, .int c] = some (.ret (.bool false) false [mD m]) := by
  refine semM_is rfl fun vs hv hio => ?_
  match vs, hv, hio with
  | [.ref a, v1, v2], _, _ =>
    unfold runD g_keep_lesser
    refine sq_rt (d := .bool false) (o := false) (ρ' := [some (Cell.io a (mD m)), some (.sh (.str n)), some (.sh (.int c))]) ?_ (by simp [finD, outsOf])
    have ta : opT inKD (nmW 1) (nmW 0) [some (Cell.io a (mD m)), some (.sh (.str n)), some (.sh (.int c))] = some true := by
      refine opT_is rfl rfl ?_
      show inKD (.str n) (mD m) = _
      rw [in_is h n, e]
      rfl
    have tb : opT leD (op2 getKD (nmW 0) (nmW 1)) (nmW 2) [some (Cell.io a (mD m)), some (.sh (.str n)), some (.sh (.int c))] = some true := by
      refine opT_is (op2_is rfl rfl (get_is h e)) rfl ?_
      show some (PyData.bool (decide (i ≤ c))) = _
      rw [decide_eq_true hc]
    show ifS _ _ _ [some (Cell.io a (mD m)), some (.sh (.str n)), some (.sh (.int c))] = _
    unfold ifS andT
    rw [ta, Option.bind_some, if_pos rfl, tb]
    rfl
theorem keep_yes {m : M} (h : OkM m) {n : Str} {c : Int} (hl : m.length < 100000) (hc : ∀ i, look m n = some i → ¬ i ≤ c) : sem_keep_lesser [mD m, .str n, .int c] = some (.ret (.bool true) false [mD (putK m (.inr n) (.int c))]) := by
  refine semM_is rfl fun vs hv hio => ?_
  match vs, hv, hio with
  | [.ref a, v1, v2], _, _ =>
    unfold runD g_keep_lesser
    have ta : opT inKD (nmW 1) (nmW 0) [some (Cell.io a (mD m)), some (.sh (.str n)), some (.sh (.int c))] = some (look m n).isSome := opT_is rfl rfl (in_is h n)
    refine sq_nx (ρ' := [some (Cell.io a (mD m)), some (.sh (.str n)), some (.sh (.int c))]) ?_ ?_
    · show ifS _ _ _ [some (Cell.io a (mD m)), some (.sh (.str n)), some (.sh (.int c))] = _
      unfold ifS andT
      rw [ta]
      cases e : look m n with
      | none => rfl
      | some i =>
        have tb : opT leD (op2 getKD (nmW 0) (nmW 1)) (nmW 2) [some (Cell.io a (mD m)), some (.sh (.str n)), some (.sh (.int c))] = some false := by
          refine opT_is (op2_is rfl rfl (get_is h e)) rfl ?_
          show some (PyData.bool (decide (i ≤ c))) = _
          rw [decide_eq_false (hc i e)]
        show Option.bind (opT leD (op2 getKD (nmW 0) (nmW 1)) (nmW 2) [some (Cell.io a (mD m)), some (.sh (.str n)), some (.sh (.int c))]) _ = _
        rw [tb]
        rfl
    · refine sq_nx (ρ' := [some (Cell.io a (mD (putK m (.inr n) (.int c)))), some (.sh (.str n)), some (.sh (.int c))]) ?_ (by simp [finD, outsOf])
      have pd : putD (.str n) (.int c) (mD m) = some (mD (putK m (.inr n) (.int c))) := by
        show (decK (m.map enK)).bind _ = _
        rw [decK_en h.flat]
        show (if m.length < 100000 then _ else _) = _
        rw [if_pos hl]
        rfl
      show mutS 0 (putD (.str n) (.int c)) [some (Cell.io a (mD m)), some (.sh (.str n)), some (.sh (.int c))] = _
      unfold mutS
      show (if true = true then (putD (.str n) (.int c) (mD m)).map _ else _) = _
      rw [if_pos rfl, pd]
      rfl
end K3

namespace K3
open PySem L2 DS
/-! ## the lengths are lowered until nothing changes -/
theorem look_put {m : M} {n k : Str} {c : Int} : look (putK m (.inr n) (.int c)) k = if k = n then some c else look m k := by
  unfold look
  rw [valV_put]
  by_cases h : k = n
  · subst h
    rw [if_pos rfl, if_pos rfl]
  · rw [if_neg (fun z => h (Sum.inr.inj z)), if_neg h]
theorem OkM.put {m : M} (h : OkM m) {n : Str} {c : Int} (hc : 1 ≤ c) : OkM (putK m (.inr n) (.int c)) := fun q hq => by
  unfold putK at hq
  split at hq
  · obtain ⟨q0, hq0, rfl⟩ := List.mem_map.mp hq
    split
    · rename_i e
      exact ⟨n, c, by rw [e], hc⟩
    · exact h _ hq0
  · rcases List.mem_append.mp hq with hq | hq
    · exact h _ hq
    · rcases List.mem_cons.mp hq with rfl | hq
      · exact ⟨n, c, rfl, hc⟩
      · cases hq
def missing (rs : List Ru) (m : M) : Nat := (rs.filter fun r => (look m r.hd).isNone).length
def sumR (rs : List Ru) (m : M) : Nat := (rs.map fun r => ((look m r.hd).getD 0).toNat).sum
def LtM (rs : List Ru) (m' m : M) : Prop := missing rs m' < missing rs m ∨ (missing rs m' = missing rs m ∧ sumR rs m' < sumR rs m)
theorem LtM.trans {rs : List Ru} {a b c : M} (h1 : LtM rs a b) (h2 : LtM rs b c) : LtM rs a c := by
  rcases h1 with h1 | ⟨h1, h1'⟩ <;> rcases h2 with h2 | ⟨h2, h2'⟩
  · exact .inl (by omega)
  · exact .inl (by omega)
  · exact .inl (by omega)
  · exact .inr ⟨by omega, by omega⟩
theorem filt_le {α : Type} {p q : α → Bool} : ∀ (l : List α), (∀ x ∈ l, p x = true → q x = true) → (l.filter p).length ≤ (l.filter q).length
  | [], _ => Nat.le_refl _
  | x :: r, h => by
    have ih := filt_le r fun y hy => h y (List.mem_cons_of_mem _ hy)
    have hx := h x List.mem_cons_self
    rw [List.filter_cons, List.filter_cons]
    by_cases hp : p x = true
    · rw [if_pos hp, if_pos (hx hp), List.length_cons, List.length_cons]
      omega
    · rw [if_neg hp]
      split
      · rw [List.length_cons]
        omega
      · exact ih
theorem filt_lt {α : Type} {p q : α → Bool} : ∀ (l : List α), (∀ x ∈ l, p x = true → q x = true) → (∃ x ∈ l, q x = true ∧ ¬ p x = true) → (l.filter p).length < (l.filter q).length
  | [], _, ⟨_, h, _⟩ => by cases h
  | x :: r, h, ⟨y, hy, h1, h2⟩ => by
    have hle := filt_le r fun y hy => h y (List.mem_cons_of_mem _ hy)
    have hx := h x List.mem_cons_self
    rw [List.filter_cons, List.filter_cons]
    rcases List.mem_cons.mp hy with rfl | hy
    · rw [if_neg h2, if_pos h1, List.length_cons]
      omega
    · have ih := filt_lt r (fun y hy => h y (List.mem_cons_of_mem _ hy)) ⟨y, hy, h1, h2⟩
      by_cases hp : p x = true
      · rw [if_pos hp, if_pos (hx hp), List.length_cons, List.length_cons]
        omega
      · rw [if_neg hp]
        split
        · rw [List.length_cons]
          omega
        · exact ih
theorem sum_le {α : Type} {f g : α → Nat} : ∀ (l : List α), (∀ x ∈ l, f x ≤ g x) → (l.map f).sum ≤ (l.map g).sum
  | [], _ => Nat.le_refl _
  | x :: r, h => by
    have ih := sum_le r fun y hy => h y (List.mem_cons_of_mem _ hy)
    have hx := h x List.mem_cons_self
    simp only [List.map_cons, List.sum_cons]
    omega
theorem sum_lt {α : Type} {f g : α → Nat} : ∀ (l : List α), (∀ x ∈ l, f x ≤ g x) → (∃ x ∈ l, f x < g x) → (l.map f).sum < (l.map g).sum
  | [], _, ⟨_, h, _⟩ => by cases h
  | x :: r, h, ⟨y, hy, h1⟩ => by
    have hle := sum_le r fun y hy => h y (List.mem_cons_of_mem _ hy)
    have hx := h x List.mem_cons_self
    simp only [List.map_cons, List.sum_cons]
    rcases List.mem_cons.mp hy with rfl | hy
    · omega
    · have ih := sum_lt r (fun y hy => h y (List.mem_cons_of_mem _ hy)) ⟨y, hy, h1⟩
      omega
structure InvM (rs : List Ru) (m : M) : Prop where
  ok : OkM m
  by_ : ∀ n i, look m n = some i → ∃ r ∈ rs, r.hd = n ∧ ∃ c, cost m r = some c ∧ c ≤ i
  len : m.length + missing rs m ≤ rs.length
def Stable (m : M) (r : Ru) : Prop := ∀ c, cost m r = some c → ∃ i, look m r.hd = some i ∧ i ≤ c
theorem cost_pos {m : M} (h : OkM m) {r : Ru} {c : Int} (e : cost m r = some c) : 1 ≤ c := by
  cases r with
  | leaf n s =>
    cases e
    decide
  | fork n a b =>
    obtain ⟨i, h1, e2⟩ := Option.bind_eq_some_iff.mp e
    obtain ⟨j, h2, rfl⟩ := Option.map_eq_some_iff.mp e2
    have := h.pos h1
    have := h.pos h2
    omega
theorem cost_le {m m' : M} (h : ∀ k i, look m k = some i → ∃ j, look m' k = some j ∧ j ≤ i) {r : Ru} {c : Int} (e : cost m r = some c) : ∃ c', cost m' r = some c' ∧ c' ≤ c := by
  cases r with
  | leaf n s => exact ⟨c, e, Int.le_refl _⟩
  | fork n a b =>
    obtain ⟨i, h1, e2⟩ := Option.bind_eq_some_iff.mp e
    obtain ⟨j, h2, rfl⟩ := Option.map_eq_some_iff.mp e2
    obtain ⟨i', g1, g2⟩ := h a i h1
    obtain ⟨j', g3, g4⟩ := h b j h2
    refine ⟨i' + j', ?_, by omega⟩
    show (look m' a).bind _ = _
    rw [g1]
    show (look m' b).map _ = _
    rw [g3]
    rfl
theorem put_step {rs : List Ru} {m : M} (I : InvM rs m) {r : Ru} (hr : r ∈ rs) {c : Int} (e : cost m r = some c) (hc : ∀ i, look m r.hd = some i → ¬ i ≤ c) :
    InvM rs (putK m (.inr r.hd) (.int c)) ∧ LtM rs (putK m (.inr r.hd) (.int c)) m := by
  have c1 := cost_pos I.ok e
  have le : ∀ k i, look m k = some i → ∃ j, look (putK m (.inr r.hd) (.int c)) k = some j ∧ j ≤ i := fun k i h => by
    rw [look_put]
    by_cases hk : k = r.hd
    · subst hk
      rw [if_pos rfl]
      exact ⟨c, rfl, by have := hc i h; omega⟩
    · rw [if_neg hk]
      exact ⟨i, h, Int.le_refl _⟩
  have mono : ∀ x ∈ rs, (look (putK m (.inr r.hd) (.int c)) x.hd).isNone = true → (look m x.hd).isNone = true := fun x _ h => by
    cases q : look m x.hd with
    | none => rfl
    | some i =>
      obtain ⟨j, h1, _⟩ := le _ _ q
      rw [h1] at h
      cases h
  have mle : missing rs (putK m (.inr r.hd) (.int c)) ≤ missing rs m := filt_le rs mono
  cases q : look m r.hd with
  | none =>
    have mlt : missing rs (putK m (.inr r.hd) (.int c)) < missing rs m := filt_lt rs mono ⟨r, hr, by rw [q]; rfl, by rw [look_put, if_pos rfl]; exact Bool.false_ne_true⟩
    refine ⟨⟨I.ok.put c1, fun n i h => ?_, ?_⟩, .inl mlt⟩
    · rw [look_put] at h
      by_cases hn : n = r.hd
      · subst hn
        rw [if_pos rfl] at h
        cases h
        obtain ⟨c', g1, g2⟩ := cost_le le e
        exact ⟨r, hr, rfl, c', g1, g2⟩
      · rw [if_neg hn] at h
        obtain ⟨r', h1, h2, c', h3, h4⟩ := I.by_ n i h
        obtain ⟨c2, g1, g2⟩ := cost_le le h3
        exact ⟨r', h1, h2, c2, g1, by omega⟩
    · have h1 := length_putK m (.inr r.hd) (V.int c)
      have := I.len
      omega
  | some i =>
    have hi := hc i q
    have ipos := I.ok.pos q
    refine ⟨⟨I.ok.put c1, fun n j h => ?_, ?_⟩, ?_⟩
    · rw [look_put] at h
      by_cases hn : n = r.hd
      · subst hn
        rw [if_pos rfl] at h
        cases h
        obtain ⟨c', g1, g2⟩ := cost_le le e
        exact ⟨r, hr, rfl, c', g1, g2⟩
      · rw [if_neg hn] at h
        obtain ⟨r', h1, h2, c', h3, h4⟩ := I.by_ n j h
        obtain ⟨c2, g1, g2⟩ := cost_le le h3
        exact ⟨r', h1, h2, c2, g1, by omega⟩
    · have hl : (putK m (.inr r.hd) (.int c)).length = m.length := by
        unfold putK
        rw [valV_any, look_some q]
        exact List.length_map _
      have := I.len
      omega
    · have meq : missing rs (putK m (.inr r.hd) (.int c)) = missing rs m := by
        refine Nat.le_antisymm mle (filt_le rs fun x _ h => ?_)
        rw [look_put]
        by_cases hx : x.hd = r.hd
        · rw [hx, q] at h
          cases h
        · rw [if_neg hx]
          exact h
      refine .inr ⟨meq, sum_lt rs (fun x _ => ?_) ⟨r, hr, ?_⟩⟩
      · rw [look_put]
        by_cases hx : x.hd = r.hd
        · rw [if_pos hx, hx, q]
          show c.toNat ≤ i.toNat
          omega
        · rw [if_neg hx]
          exact Nat.le_refl _
      · rw [look_put, if_pos rfl, q]
        show c.toNat < i.toNat
        omega
/-! ### a pass -/
noncomputable def bodyL : Nv → Option SR := (seqS (setS 4 (callF 2 sem_length_by (cons2 (nmW 3) (cons2 (nmW 1) (fun _ => some [])))))
    (ifX (andX (opT isntD (nmW 4) (fun _ => some .none)) (fun ρ => ((callX 3 1 sem_keep_lesser (fun ρ => (nmM 1 ρ).bind fun d => ((cons2 (op2 ixD (nmW 3) (fun _ => some (.int 0))) (cons2 (nmP 4) (fun _ => some []))) ρ).bind fun ds => if ds.length = 2 then some (d :: ds) else none)) ρ).bind fun r => (truD r.1).map fun k => (k, r.2)))
      (setS 2 (fun _ => some (.bool true)))
      (fun ρ => some (.nx ρ))))
def stL (rs : List Ru) (m : M) (l : Bool) (x y : Option Cell) : Nv := [some (.sh (.list (rs.map Ru.d))), some (.ow (mD m)), some (.sh (.bool l)), x, y]
theorem body_is {rs : List Ru} {m : M} (I : InvM rs m) (hl : rs.length ≤ 40) {r : Ru} (hr : r ∈ rs) (l : Bool) (y : Option Cell) :
    ∃ m' l' y', bodyL (stL rs m l (some (.sh r.d)) y) = some (.nx (stL rs m' l' (some (.sh r.d)) y')) ∧ InvM rs m' ∧ ((m' = m ∧ l' = l ∧ Stable m r) ∨ (l' = true ∧ LtM rs m' m)) := by
  have e1 : callF 2 sem_length_by (cons2 (nmW 3) (cons2 (nmW 1) (fun _ => some []))) (stL rs m l (some (.sh r.d)) y) = some (optD (cost m r)) := by
    exact callF_is (cons2_is rfl (cons2_is rfl rfl)) rfl (length_is I.ok r) (by cases cost m r <;> rfl)
  have bd : bodyL (stL rs m l (some (.sh r.d)) y) = (ifX (andX (opT isntD (nmW 4) (fun _ => some .none)) (fun ρ => ((callX 3 1 sem_keep_lesser (fun ρ => (nmM 1 ρ).bind fun d => ((cons2 (op2 ixD (nmW 3) (fun _ => some (.int 0))) (cons2 (nmP 4) (fun _ => some []))) ρ).bind fun ds => if ds.length = 2 then some (d :: ds) else none)) ρ).bind fun r => (truD r.1).map fun k => (k, r.2)))
      (setS 2 (fun _ => some (.bool true)))
      (fun ρ => some (.nx ρ))) (stL rs m l (some (.sh r.d)) (some (.sh (optD (cost m r))))) := by
    unfold bodyL seqS
    rw [setS_is e1]
    rfl
  rw [bd]
  cases q : cost m r with
  | none => exact ⟨m, l, _, rfl, I, .inl ⟨rfl, rfl, fun c h => by rw [q] at h; cases h⟩⟩
  | some c =>
    have hlm : m.length < 100000 := by
      have := I.len
      omega
    have fr : (fun ρ => (nmM 1 ρ).bind fun d => ((cons2 (op2 ixD (nmW 3) (fun _ => some (.int 0))) (cons2 (nmP 4) (fun _ => some []))) ρ).bind fun ds => if ds.length = 2 then some (d :: ds) else none) (stL rs m l (some (.sh r.d)) (some (.sh (.int c)))) = some [mD m, .str r.hd, .int c] := by
      have e2 : cons2 (op2 ixD (nmW 3) (fun _ => some (.int 0))) (cons2 (nmP 4) (fun _ => some [])) (stL rs m l (some (.sh r.d)) (some (.sh (.int c)))) = some [.str r.hd, .int c] := cons2_is (ix0 r) rfl
      show Option.bind (some (mD m)) _ = _
      show Option.bind (cons2 _ _ _) _ = _
      rw [e2]
      rfl
    by_cases hk : ∃ i, look m r.hd = some i ∧ i ≤ c
    · obtain ⟨i, h1, h2⟩ := hk
      have ek : callX 3 1 sem_keep_lesser (fun ρ => (nmM 1 ρ).bind fun d => ((cons2 (op2 ixD (nmW 3) (fun _ => some (.int 0))) (cons2 (nmP 4) (fun _ => some []))) ρ).bind fun ds => if ds.length = 2 then some (d :: ds) else none) (stL rs m l (some (.sh r.d)) (some (.sh (.int c)))) = some (.bool false, stL rs m l (some (.sh r.d)) (some (.sh (.int c)))) := by
        exact callX_is (c := .ow (mD m)) fr rfl (keep_no I.ok h1 h2) rfl rfl
      refine ⟨m, l, some (.sh (.int c)), ?_, I, .inl ⟨rfl, rfl, fun c' h => ?_⟩⟩
      · show ifX _ _ _ (stL rs m l (some (.sh r.d)) (some (.sh (.int c)))) = _
        unfold ifX andX
        show Option.bind (Option.bind (callX 3 1 _ _ _) _) _ = _
        rw [ek]
        rfl
      · rw [q] at h
        cases h
        exact ⟨i, h1, h2⟩
    · have hk' : ∀ i, look m r.hd = some i → ¬ i ≤ c := fun i h1 h2 => hk ⟨i, h1, h2⟩
      have ek : callX 3 1 sem_keep_lesser (fun ρ => (nmM 1 ρ).bind fun d => ((cons2 (op2 ixD (nmW 3) (fun _ => some (.int 0))) (cons2 (nmP 4) (fun _ => some []))) ρ).bind fun ds => if ds.length = 2 then some (d :: ds) else none) (stL rs m l (some (.sh r.d)) (some (.sh (.int c)))) = some (.bool true, stL rs (putK m (.inr r.hd) (.int c)) l (some (.sh r.d)) (some (.sh (.int c)))) := by
        exact callX_is (c := .ow (mD m)) fr rfl (keep_yes I.ok hlm hk') rfl rfl
      obtain ⟨I', lt⟩ := put_step I hr q hk'
      refine ⟨putK m (.inr r.hd) (.int c), true, some (.sh (.int c)), ?_, I', .inr ⟨rfl, lt⟩⟩
      show ifX _ _ _ (stL rs m l (some (.sh r.d)) (some (.sh (.int c)))) = _
      unfold ifX andX
      show Option.bind (Option.bind (callX 3 1 _ _ _) _) _ = _
      rw [ek]
      rfl
theorem pass_is {rs : List Ru} (hl : rs.length ≤ 40) : ∀ (rs2 : List Ru), (∀ r ∈ rs2, r ∈ rs) → ∀ (m : M) (l : Bool) (x y : Option Cell), InvM rs m →
    ∃ m' l' x' y', forS (toNm 3) bodyL (rs2.map Ru.d) (stL rs m l x y) = some (.nx (stL rs m' l' x' y')) ∧ InvM rs m' ∧ ((m' = m ∧ l' = l ∧ ∀ r ∈ rs2, Stable m r) ∨ (l' = true ∧ LtM rs m' m))
  | [], _, m, l, x, y, I => ⟨m, l, x, y, rfl, I, .inl ⟨rfl, rfl, fun _ h => by cases h⟩⟩
  | r :: r2, hs, m, l, x, y, I => by
    obtain ⟨m1, l1, y1, e1, I1, h1⟩ := body_is I hl (hs r List.mem_cons_self) l y
    obtain ⟨m2, l2, x2, y2, e2, I2, h2⟩ := pass_is hl r2 (fun z hz => hs z (List.mem_cons_of_mem _ hz)) m1 l1 (some (.sh r.d)) y1 I1
    refine ⟨m2, l2, x2, y2, ?_, I2, ?_⟩
    · rw [List.map_cons, forS]
      show Option.bind (bodyL (stL rs m l (some (.sh r.d)) y)) _ = _
      rw [e1]
      exact e2
    · rcases h1 with ⟨rfl, rfl, s1⟩ | ⟨rfl, lt1⟩
      · rcases h2 with ⟨rfl, rfl, s2⟩ | ⟨rfl, lt2⟩
        · refine .inl ⟨rfl, rfl, fun z hz => ?_⟩
          rcases List.mem_cons.mp hz with rfl | hz
          · exact s1
          · exact s2 z hz
        · exact .inr ⟨rfl, lt2⟩
      · rcases h2 with ⟨rfl, rfl, s2⟩ | ⟨rfl, lt2⟩
        · exact .inr ⟨rfl, lt1⟩
        · exact .inr ⟨rfl, lt2.trans lt1⟩
noncomputable def turnL : Nv → Option SR := (seqS (setS 2 (fun _ => some (.bool false)))
    (fun ρ => ((fun ρ => ((nmP 0) ρ).bind asL) ρ).bind fun ds => forS (toNm 3) bodyL ds ρ))
theorem loop_is {rs : List Ru} (hl : rs.length ≤ 40) : ∀ (a b : Nat) (m : M) (x y : Option Cell), missing rs m = a → sumR rs m = b → InvM rs m →
    ∃ n m' l' x' y', whileS (fun ρ => ((nmW 2) ρ).bind truD) turnL n (stL rs m true x y) = some (.nx (stL rs m' l' x' y')) ∧ InvM rs m' ∧ ∀ r ∈ rs, Stable m' r := by
  intro a
  induction a using Nat.strongRecOn with
  | _ a iha =>
    intro b
    induction b using Nat.strongRecOn with
    | _ b ihb =>
      intro m x y ha hb I
      obtain ⟨m1, l1, x1, y1, e1, I1, h1⟩ := pass_is hl rs (fun _ h => h) m false x y I
      have et : turnL (stL rs m true x y) = some (.nx (stL rs m1 l1 x1 y1)) := e1
      rcases h1 with ⟨rfl, rfl, s1⟩ | ⟨rfl, lt⟩
      · refine ⟨2, m1, false, x1, y1, ?_, I1, s1⟩
        rw [whileS]
        show Option.bind (turnL _) _ = _
        rw [et]
        rfl
      · have step : ∀ {n : Nat} {z : SR}, whileS (fun ρ => ((nmW 2) ρ).bind truD) turnL n (stL rs m1 true x1 y1) = some z → whileS (fun ρ => ((nmW 2) ρ).bind truD) turnL (n + 1) (stL rs m true x y) = some z := fun {n z} h => by
          rw [whileS]
          show Option.bind (turnL _) _ = _
          rw [et]
          exact h
        rcases lt with lt | ⟨eq, lt⟩
        · obtain ⟨n, m2, l2, x2, y2, e2, I2, s2⟩ := iha _ (by omega) _ m1 x1 y1 rfl rfl I1
          exact ⟨n + 1, m2, l2, x2, y2, step e2, I2, s2⟩
        · obtain ⟨n, m2, l2, x2, y2, e2, I2, s2⟩ := ihb _ (by omega) m1 x1 y1 (by omega) rfl I1
          exact ⟨n + 1, m2, l2, x2, y2, step e2, I2, s2⟩
theorem inv_nil (rs : List Ru) : InvM rs [] := by
  refine ⟨fun _ h => (by cases h), fun n i h => (by cases h), ?_⟩
  show 0 + (rs.filter _).length ≤ _
  have := List.length_filter_le (fun r => (look [] r.hd).isNone) rs
  omega
theorem lengths_is {rs : List Ru} (hl : rs.length ≤ 40) : ∃ m, sem_lengths_of [.list (rs.map Ru.d)] = some (.ret (mD m) true []) ∧ InvM rs m ∧ ∀ r ∈ rs, Stable m r := by
  obtain ⟨n, m, l, x, y, e, I, s⟩ := loop_is hl _ _ [] none none rfl rfl (inv_nil rs)
  refine ⟨m, ?_, I, s⟩
  unfold sem_lengths_of g_lengths_of
  refine semR_of rfl ?_
  refine sq_nx (ρ' := [some (.sh (.list (rs.map Ru.d))), some (.ow (mD [])), none, none, none]) rfl ?_
  refine sq_nx (ρ' := stL rs [] true none none) rfl ?_
  refine sq_nx (ρ' := stL rs m l x y) (whileC_is e) ?_
  rfl
end K3

namespace K3
open PySem L2 DS
/-! ## grammars that are good -/
structure Good (rs : List Ru) : Prop where
  ne : 1 ≤ rs.length
  le : rs.length ≤ 40
  ok : ∀ r ∈ rs, r.ok
  known : ∀ n a b, Ru.fork n a b ∈ rs → a ∈ rs.map Ru.hd ∧ b ∈ rs.map Ru.hd
  rank : ∃ rk : Str → Nat, ∀ n ∈ rs.map Ru.hd, ∃ r ∈ rs, r.hd = n ∧ ∀ a b, r = .fork n a b → rk a < rk n ∧ rk b < rk n
theorem all_in {rs : List Ru} (G : Good rs) {m : M} (S : ∀ r ∈ rs, Stable m r) : ∀ n ∈ rs.map Ru.hd, ∃ i, look m n = some i := by
  obtain ⟨rk, hrk⟩ := G.rank
  have key : ∀ k n, n ∈ rs.map Ru.hd → rk n < k → ∃ i, look m n = some i := by
    intro k
    induction k with
    | zero =>
      intro n _ h
      omega
    | succ k ih =>
      intro n hn hk
      obtain ⟨r, hr, rfl, h3⟩ := hrk n hn
      cases r with
      | leaf n s =>
        obtain ⟨i, h1, _⟩ := S _ hr 1 rfl
        exact ⟨i, h1⟩
      | fork n a b =>
        obtain ⟨ha, hb⟩ := h3 a b rfl
        obtain ⟨ka, kb⟩ := G.known n a b hr
        obtain ⟨i, h1⟩ := ih a ka (by have : rk (Ru.fork n a b).hd < k + 1 := hk; omega)
        obtain ⟨j, h2⟩ := ih b kb (by have : rk (Ru.fork n a b).hd < k + 1 := hk; omega)
        obtain ⟨c, h4, _⟩ := S _ hr (i + j) (by
          show (look m a).bind _ = _
          rw [h1]
          show (look m b).map _ = _
          rw [h2]
          rfl)
        exact ⟨c, h4⟩
  exact fun n hn => key (rk n + 1) n hn (Nat.lt_succ_self _)
theorem mem_addN {acc : List Str} {x y : Str} : y ∈ addN acc x ↔ y ∈ acc ∨ y = x := by
  unfold addN
  split
  · rename_i h
    constructor
    · exact .inl
    · rintro (h1 | rfl)
      · exact h1
      · exact h
  · simp
theorem mem_fold : ∀ (xs acc : List Str) (y : Str), y ∈ xs.foldl addN acc ↔ y ∈ acc ∨ y ∈ xs
  | [], acc, y => by simp
  | x :: r, acc, y => by
    rw [List.foldl_cons, mem_fold r, mem_addN, List.mem_cons, or_assoc]
theorem mem_uniq {xs : List Str} {y : Str} : y ∈ uniq xs ↔ y ∈ xs := by
  unfold uniq
  rw [mem_fold]
  simp
theorem nodup_fold : ∀ (xs acc : List Str), acc.Nodup → (xs.foldl addN acc).Nodup
  | [], acc, h => h
  | x :: r, acc, h => by
    rw [List.foldl_cons]
    refine nodup_fold r _ ?_
    unfold addN
    split
    · exact h
    · rename_i hx
      rw [List.nodup_append]
      refine ⟨h, by simp, fun a ha b hb => ?_⟩
      rw [List.mem_singleton] at hb
      rintro rfl
      exact hx (hb ▸ ha)
theorem nodup_uniq (xs : List Str) : (uniq xs).Nodup := nodup_fold xs [] List.nodup_nil
theorem len_fold : ∀ (xs acc : List Str), (xs.foldl addN acc).length ≤ acc.length + xs.length
  | [], acc => by simp
  | x :: r, acc => by
    rw [List.foldl_cons]
    have := len_fold r (addN acc x)
    have h2 : (addN acc x).length ≤ acc.length + 1 := by
      unfold addN
      split
      · omega
      · simp
    rw [List.length_cons]
    omega
theorem len_uniq (xs : List Str) : (uniq xs).length ≤ xs.length := by
  have := len_fold xs []
  unfold uniq
  simpa using this
theorem eqvAll_self : ∀ xs : List D, (∀ x ∈ xs, PyData.eqv x x = true) → PyData.eqvAll xs xs = true
  | [], _ => rfl
  | x :: r, h => by
    rw [PyData.eqvAll, h x List.mem_cons_self, eqvAll_self r fun y hy => h y (List.mem_cons_of_mem _ hy)]
    rfl
theorem eqv_str (x y : Str) : PyData.eqv (.str x) (.str y) = decide (x = y) := by
  rw [PyData.eqv]
  rfl
theorem eqv_strs (ns : List Str) : PyData.eqv (.list (ns.map .str)) (.list (ns.map .str)) = true := by
  rw [PyData.eqv]
  refine eqvAll_self _ fun x hx => ?_
  obtain ⟨n, _, rfl⟩ := List.mem_map.mp hx
  rw [eqv_str]
  exact decide_eq_true rfl
theorem eqv_rules (rs : List Ru) : PyData.eqv (.list (rs.map Ru.d)) (.list (rs.map Ru.d)) = true := by
  rw [PyData.eqv]
  refine eqvAll_self _ fun x hx => ?_
  obtain ⟨r, _, rfl⟩ := List.mem_map.mp hx
  cases r with
  | leaf n s =>
    unfold Ru.d
    rw [PyData.eqv]
    simp [PyData.eqvAll, eqv_str]
  | fork n a b =>
    unfold Ru.d
    rw [PyData.eqv]
    simp [PyData.eqvAll, eqv_str]
def okN (n : Str) : Prop := nameB (.str n) = true
theorem fine_nm {n : Str} {k : Nat} (h : okD (.str n)) : fine k (.str n) = true := by
  obtain ⟨h1, h2⟩ := h n rfl
  exact fine_str h1 (strOk_all.mp h2)
theorem shaped_nm {n : Str} (h : okN n) : SeqAt.shaped (.str n) = true := shaped_fine (n := 0) (fine_nm (ok_nm h)) (by decide)
theorem shaped_nms {ns : List Str} (h : ∀ n ∈ ns, okN n) : SeqAt.shaped (.list (ns.map .str)) = true := by
  refine shaped_fine (n := 1) ?_ (by decide)
  show List.all _ (fine 0) = true
  rw [List.all_eq_true]
  intro x hx
  obtain ⟨n, hn, rfl⟩ := List.mem_map.mp hx
  exact fine_nm (ok_nm (h n hn))
theorem shaped_rules {rs : List Ru} (h : ∀ r ∈ rs, r.ok) : SeqAt.shaped (.list (rs.map Ru.d)) = true := by
  refine shaped_fine (n := 2) ?_ (by decide)
  show List.all _ (fine 1) = true
  rw [List.all_eq_true]
  intro x hx
  obtain ⟨r, hr, rfl⟩ := List.mem_map.mp hx
  have hk := h r hr
  cases r with
  | leaf n s =>
    show List.all _ (fine 0) = true
    simp [fine_nm (ok_nm hk.1), fine_nm (ok_sg hk.2)]
  | fork n a b =>
    show List.all _ (fine 0) = true
    simp [fine_nm (ok_nm hk.1), fine_nm (ok_nm hk.2.1), fine_nm (ok_nm hk.2.2)]
theorem Ru.okhd {r : Ru} (h : r.ok) : okN r.hd := by
  cases r with
  | leaf n s => exact h.1
  | fork n a b => exact h.1
theorem any_nm (ns : List Str) (x : Str) : ((ns.map PyData.str).any fun z => PyData.eqv z (.str x)) = decide (x ∈ ns) := by
  induction ns with
  | nil => rfl
  | cons y r ih =>
    rw [List.map_cons, List.any_cons, ih, eqv_str]
    by_cases h : y = x
    · simp [h]
    · have h2 : ¬ x = y := fun z => h z.symm
      simp [h, h2]
theorem nin_nm {ns : List Str} {x : Str} (h1 : okN x) (h2 : ∀ n ∈ ns, okN n) : ninD' (.str x) (.list (ns.map .str)) = some (.bool (!decide (x ∈ ns))) := by
  show (Option.map _ (if _ then _ else _)) = _
  rw [if_pos ⟨shaped_nm h1, shaped_nms h2⟩, any_nm]
  rfl
theorem enum_mem {xs : List D} {d : D} (h : d ∈ enumD xs) : ∃ (i : Nat) (x : D), i < xs.length ∧ d = .tuple [.int i, x] ∧ x ∈ xs := by
  unfold enumD at h
  obtain ⟨i, hi, rfl⟩ := List.mem_map.mp h
  rw [List.mem_range] at hi
  refine ⟨i, xs.getD i .none, hi, rfl, ?_⟩
  rw [List.getD_eq_getElem?_getD, List.getElem?_eq_getElem hi]
  exact List.getElem_mem hi
theorem semR_nx {k n : Nat} {g : Nv → Option SR} {ds : List D} {ρ' : Nv} (h : ds.length = k) (e : g (shs ds n) = some (.nx ρ')) (hk : k ≤ ρ'.length) : semR k n g ds = some (.ret .none false []) := by
  unfold semR
  rw [if_pos h, e]
  show (if _ then _ else _) = _
  rw [if_pos hk]
theorem seqS_is {g g' : Nv → Option SR} {ρ ρ' : Nv} (h : g ρ = some (.nx ρ')) : seqS g g' ρ = g' ρ' := by
  unfold seqS
  rw [h]
  rfl
theorem ifS_no {t : Nv → Option Bool} {g g' : Nv → Option SR} {ρ : Nv} (h : t ρ = some false) : ifS t g g' ρ = g' ρ := by
  unfold ifS
  rw [h]
  rfl
theorem ifS_yes {t : Nv → Option Bool} {g g' : Nv → Option SR} {ρ : Nv} (h : t ρ = some true) : ifS t g g' ρ = g ρ := by
  unfold ifS
  rw [h]
  rfl
theorem notT_is {f : Nv → Option D} {ρ : Nv} {b : Bool} (h : f ρ = some (.bool b)) : notT (fun ρ => (f ρ).bind truD) ρ = some (!b) := by
  unfold notT
  show Option.map _ ((f ρ).bind truD) = _
  rw [h]
  rfl
theorem only_is {rs : List Ru} (G : Good rs) : sem_need_only_rules [.list (rs.map Ru.d)] = some (.ret .none false []) := by
  unfold sem_need_only_rules g_need_only_rules
  obtain ⟨ρ', e, x, y, rfl⟩ : ∃ ρ', _ ∧ ∃ x y, ρ' = [some (Cell.sh (.list (rs.map Ru.d))), x, y] := forS_all (a := toTu 2 (toCons (toNm 1) (toCons (toNm 2) toNil)))
    (g := seqS (ifS (opT geD (nmW 1) (fun _ => some (.int 40)))
      (fun _ => none)
      (fun ρ => some (.nx ρ)))
    (ifS (notT (fun ρ => ((callS 1 sem_is_rule (cons2 (nmP 2) (fun _ => some []))) ρ).bind truD))
      (fun _ => none)
      (fun ρ => some (.nx ρ)))) (I := fun ρ => ∃ x y, ρ = [some (Cell.sh (.list (rs.map Ru.d))), x, y]) (enumD (rs.map Ru.d)) [some (Cell.sh (.list (rs.map Ru.d))), none, none] ⟨none, none, rfl⟩ (fun d hd ρ ⟨x, y, e⟩ => by
      subst e
      obtain ⟨i, z, hi, rfl, hz⟩ := enum_mem hd
      obtain ⟨r, hr, rfl⟩ := List.mem_map.mp hz
      rw [List.length_map] at hi
      have := G.le
      refine ⟨[some (Cell.sh (.list (rs.map Ru.d))), some (.sh (.int i)), some (.sh r.d)], [some (Cell.sh (.list (rs.map Ru.d))), some (.sh (.int i)), some (.sh r.d)], rfl, ?_, _, _, rfl⟩
      rw [seqS_is (ρ' := [some (Cell.sh (.list (rs.map Ru.d))), some (.sh (.int i)), some (.sh r.d)])]
      · rw [ifS_no]
        exact notT_is (b := true) (callS_is (cons2_is rfl rfl) rfl (Ru.rule (G.ok r hr)))
      · rw [ifS_no]
        refine opT_is (x := .int i) (y := .int 40) rfl rfl ?_
        show some (PyData.bool (decide ((40 : Int) ≤ i))) = _
        rw [decide_eq_false (by omega)])
  refine semR_nx (ρ' := [some (Cell.sh (.list (rs.map Ru.d))), x, y]) rfl ?_ (by show 1 ≤ 3; decide)
  rw [seqS_is (ρ' := [some (Cell.sh (.list (rs.map Ru.d))), none, none])]
  · exact e
  · rw [ifS_no]
    · rfl
    · refine opT_is (x := .int (rs.map Ru.d).length) (y := .int 0) rfl rfl ?_
      unfold eqD
      rw [if_pos ⟨shaped_int, shaped_int⟩, eqv_int, decide_eq_false (by rw [List.length_map]; have := G.ne; omega)]
theorem heads_ok {rs : List Ru} (G : Good rs) : ∀ n ∈ uniq (rs.map Ru.hd), okN n := fun n hn => by
  obtain ⟨r, hr, rfl⟩ := List.mem_map.mp (mem_uniq.mp hn)
  exact Ru.okhd (G.ok r hr)
theorem known_is {rs : List Ru} (G : Good rs) : sem_need_known_names [.list (rs.map Ru.d)] = some (.ret .none false []) := by
  have hn := names_is (rs := rs) (by have := G.le; omega)
  unfold sem_need_known_names g_need_known_names
  obtain ⟨ρ', e, x, y, z, rfl⟩ : ∃ ρ', _ ∧ ∃ x y z, ρ' = [some (Cell.sh (.list (rs.map Ru.d))), some (.sh (.list ((uniq (rs.map Ru.hd)).map .str))), x, y, z] := forS_all (a := toTu 2 (toCons (toNm 2) (toCons (toNm 3) toNil)))
    (g := ifS (fun ρ => ((callS 1 sem_is_fork_rule (cons2 (nmP 3) (fun _ => some []))) ρ).bind truD)
      (fun ρ => ((fun ρ => ((slS (nmW 3) (fun ρ => ((fun _ => some (.int 1)) ρ).bind fun x => (asI x).map some) (fun _ => some none)) ρ).bind asTu) ρ).bind fun ds => forS (toNm 4) (ifS (opT ninD' (nmW 4) (nmW 1))
      (fun _ => none)
      (fun ρ => some (.nx ρ))) ds ρ)
      (fun ρ => some (.nx ρ))) (I := fun ρ => ∃ x y z, ρ = [some (Cell.sh (.list (rs.map Ru.d))), some (.sh (.list ((uniq (rs.map Ru.hd)).map .str))), x, y, z]) (enumD (rs.map Ru.d)) [some (Cell.sh (.list (rs.map Ru.d))), some (.sh (.list ((uniq (rs.map Ru.hd)).map .str))), none, none, none] ⟨none, none, none, rfl⟩ (fun d hd ρ ⟨x, y, z, e⟩ => by
      subst e
      obtain ⟨i, w, hi, rfl, hw⟩ := enum_mem hd
      obtain ⟨r, hr, rfl⟩ := List.mem_map.mp hw
      have ef : callS 1 sem_is_fork_rule (cons2 (nmP 3) (fun _ => some [])) [some (Cell.sh (.list (rs.map Ru.d))), some (.sh (.list ((uniq (rs.map Ru.hd)).map .str))), some (.sh (.int i)), some (.sh r.d), z] = some (.bool r.isF) := callS_is (cons2_is rfl rfl) rfl (is_fork_is r)
      cases r with
      | leaf n s =>
        refine ⟨[some (Cell.sh (.list (rs.map Ru.d))), some (.sh (.list ((uniq (rs.map Ru.hd)).map .str))), some (.sh (.int i)), some (.sh (Ru.leaf n s).d), z], [some (Cell.sh (.list (rs.map Ru.d))), some (.sh (.list ((uniq (rs.map Ru.hd)).map .str))), some (.sh (.int i)), some (.sh (Ru.leaf n s).d), z], rfl, ?_, _, _, _, rfl⟩
        rw [ifS_no]
        show Option.bind _ _ = _
        rw [ef]
        rfl
      | fork n a b =>
        obtain ⟨ka, kb⟩ := G.known n a b hr
        have ho := G.ok _ hr
        have inn : ∀ q, q ∈ rs.map Ru.hd → okN q → (ifS (opT ninD' (nmW 4) (nmW 1)) (fun _ => none) (fun ρ => some (.nx ρ))) [some (Cell.sh (.list (rs.map Ru.d))), some (.sh (.list ((uniq (rs.map Ru.hd)).map .str))), some (.sh (.int i)), some (.sh (Ru.fork n a b).d), some (.sh (.str q))] = some (.nx [some (Cell.sh (.list (rs.map Ru.d))), some (.sh (.list ((uniq (rs.map Ru.hd)).map .str))), some (.sh (.int i)), some (.sh (Ru.fork n a b).d), some (.sh (.str q))]) := fun q hq hk => by
          rw [ifS_no]
          refine opT_is (x := .str q) (y := .list ((uniq (rs.map Ru.hd)).map .str)) rfl rfl ?_
          rw [nin_nm hk (heads_ok G), decide_eq_true (mem_uniq.mpr hq)]
          rfl
        refine ⟨[some (Cell.sh (.list (rs.map Ru.d))), some (.sh (.list ((uniq (rs.map Ru.hd)).map .str))), some (.sh (.int i)), some (.sh (Ru.fork n a b).d), z], [some (Cell.sh (.list (rs.map Ru.d))), some (.sh (.list ((uniq (rs.map Ru.hd)).map .str))), some (.sh (.int i)), some (.sh (Ru.fork n a b).d), some (.sh (.str b))], rfl, ?_, _, _, _, rfl⟩
        rw [ifS_yes]
        · show forS (toNm 4) _ [.str a, .str b] _ = _
          rw [forS]
          show Option.bind ((ifS _ _ _) [some (Cell.sh (.list (rs.map Ru.d))), some (.sh (.list ((uniq (rs.map Ru.hd)).map .str))), some (.sh (.int i)), some (.sh (Ru.fork n a b).d), some (.sh (.str a))]) _ = _
          rw [inn a ka ho.2.1]
          show forS (toNm 4) _ [.str b] [some (Cell.sh (.list (rs.map Ru.d))), some (.sh (.list ((uniq (rs.map Ru.hd)).map .str))), some (.sh (.int i)), some (.sh (Ru.fork n a b).d), some (.sh (.str a))] = _
          rw [forS]
          show Option.bind ((ifS _ _ _) [some (Cell.sh (.list (rs.map Ru.d))), some (.sh (.list ((uniq (rs.map Ru.hd)).map .str))), some (.sh (.int i)), some (.sh (Ru.fork n a b).d), some (.sh (.str b))]) _ = _
          rw [inn b kb ho.2.2]
          rfl
        · show Option.bind _ _ = _
          rw [ef]
          rfl)
  refine semR_nx (ρ' := [some (Cell.sh (.list (rs.map Ru.d))), some (.sh (.list ((uniq (rs.map Ru.hd)).map .str))), x, y, z]) rfl ?_ (by show 1 ≤ 5; decide)
  rw [seqS_is (ρ' := [some (Cell.sh (.list (rs.map Ru.d))), some (.sh (.list ((uniq (rs.map Ru.hd)).map .str))), none, none, none])]
  · exact e
  · exact setS_is (callS_is (cons2_is rfl rfl) rfl hn)
end K3

namespace K3
open PySem L2 DS
theorem ends_is {rs : List Ru} (G : Good rs) : sem_need_ends [.list (rs.map Ru.d)] = some (.ret .none false []) := by
  have hn := names_is (rs := rs) (by have := G.le; omega)
  obtain ⟨m, hm, I, S⟩ := lengths_is (rs := rs) G.le
  have al := all_in G S
  unfold sem_need_ends g_need_ends
  obtain ⟨ρ', e, x, rfl⟩ : ∃ ρ', _ ∧ ∃ x, ρ' = [some (Cell.sh (.list (rs.map Ru.d))), some (.sh (mD m)), x] := forS_all (a := toNm 2) (g := ifS (opT ninKD (nmW 2) (nmW 1))
      (fun _ => none)
      (fun ρ => some (.nx ρ))) (I := fun ρ => ∃ x, ρ = [some (Cell.sh (.list (rs.map Ru.d))), some (.sh (mD m)), x]) ((uniq (rs.map Ru.hd)).map .str) [some (Cell.sh (.list (rs.map Ru.d))), some (.sh (mD m)), none] ⟨none, rfl⟩ (fun d hd ρ ⟨x, e⟩ => by
      subst e
      obtain ⟨n, hn2, rfl⟩ := List.mem_map.mp hd
      obtain ⟨i, hi⟩ := al n (mem_uniq.mp hn2)
      refine ⟨[some (Cell.sh (.list (rs.map Ru.d))), some (.sh (mD m)), some (.sh (.str n))], [some (Cell.sh (.list (rs.map Ru.d))), some (.sh (mD m)), some (.sh (.str n))], rfl, ?_, _, rfl⟩
      rw [ifS_no]
      refine opT_is (x := .str n) (y := mD m) rfl rfl ?_
      rw [nin_is I.ok, hi]
      rfl)
  refine semR_nx (ρ' := [some (Cell.sh (.list (rs.map Ru.d))), some (.sh (mD m)), x]) rfl ?_ (by show 1 ≤ 3; decide)
  rw [seqS_is (ρ' := [some (Cell.sh (.list (rs.map Ru.d))), some (.sh (mD m)), none])]
  · have e2 : callS 1 sem_names_of (cons2 (nmP 0) (fun _ => some [])) [some (Cell.sh (.list (rs.map Ru.d))), some (.sh (mD m)), none] = some (.list ((uniq (rs.map Ru.hd)).map .str)) := callS_is (cons2_is rfl rfl) rfl hn
    show Option.bind (Option.bind (callS 1 _ _ _) asL) _ = _
    rw [e2]
    exact e
  · exact setS_is (callS_is (cons2_is rfl rfl) rfl hm)
theorem need_is {rs : List Ru} (G : Good rs) : sem_need_rules [.list (rs.map Ru.d)] = some (.ret (.list (rs.map Ru.d)) true []) := by
  unfold sem_need_rules g_need_rules
  refine semR_of rfl ?_
  have e1 : callS 1 sem_need_only_rules (cons2 (nmP 0) (fun _ => some [])) [some (Cell.sh (.list (rs.map Ru.d)))] = some .none := callS_is (cons2_is rfl rfl) rfl (only_is G)
  have e2 : callS 1 sem_need_known_names (cons2 (nmP 0) (fun _ => some [])) [some (Cell.sh (.list (rs.map Ru.d)))] = some .none := callS_is (cons2_is rfl rfl) rfl (known_is G)
  have e3 : callS 1 sem_need_ends (cons2 (nmP 0) (fun _ => some [])) [some (Cell.sh (.list (rs.map Ru.d)))] = some .none := callS_is (cons2_is rfl rfl) rfl (ends_is G)
  refine sq_nx (ρ' := [some (Cell.sh (.list (rs.map Ru.d)))]) (by show Option.map _ (callS 1 _ _ _) = _; rw [show shs [PyData.list (rs.map Ru.d)] 0 = [some (Cell.sh (.list (rs.map Ru.d)))] from rfl, e1]; rfl) ?_
  refine sq_nx (ρ' := [some (Cell.sh (.list (rs.map Ru.d)))]) (by show Option.map _ (callS 1 _ _ _) = _; rw [e2]; rfl) ?_
  refine sq_nx (ρ' := [some (Cell.sh (.list (rs.map Ru.d)))]) (by show Option.map _ (callS 1 _ _ _) = _; rw [e3]; rfl) ?_
  rfl
/-! ### shortest -/
def val (m : M) (n : Str) : Int := (look m n).getD 0
def shE (m : M) (n : Str) : Key × V := (.inr n, .int (val m n))
theorem valV_shE (m : M) : ∀ (ns : List Str) (n : Str), valV (ns.map (shE m)) (.inr n) = if n ∈ ns then some (.int (val m n)) else none
  | [], n => rfl
  | x :: r, n => by
    have ih := valV_shE m r n
    by_cases h : x = n
    · subst h
      rw [List.map_cons, valV_pos (p := shE m x) (k := .inr x) rfl, if_pos List.mem_cons_self]
      rfl
    · rw [List.map_cons, valV_neg (p := shE m x) (k := .inr n) (fun z => h (Sum.inr.inj z)), ih]
      have : n ∈ x :: r ↔ n ∈ r := by
        rw [List.mem_cons]
        exact ⟨fun q => q.resolve_left fun z => h z.symm, .inr⟩
      by_cases q : n ∈ r
      · rw [if_pos q, if_pos (this.mpr q)]
      · rw [if_neg q, if_neg fun z => q (this.mp z)]
theorem dc_short {m : M} (h : OkM m) (x0 : Option Cell) : ∀ (ns done : List Str), (∀ n ∈ ns, ∃ i, look m n = some i) → (done ++ ns).Nodup →
    dcD 2 (fun _ => some true) (nmP 2) (op2 getKD (nmW 1) (nmW 2)) [x0, some (Cell.sh (mD m)), none] (ns.map .str) (done.map (shE m)) = some ((done ++ ns).map (shE m))
  | [], done, _, _ => by
    rw [List.append_nil]
    rfl
  | n :: r, done, hs, nd => by
    obtain ⟨i, hi⟩ := hs n List.mem_cons_self
    rw [List.map_cons, dcD]
    have e : op2 getKD (nmW 1) (nmW 2) [x0, some (Cell.sh (mD m)), some (Cell.sh (.str n))] = some (.int i) := op2_is rfl rfl (get_is h hi)
    show Option.bind (op2 getKD (nmW 1) (nmW 2) [x0, some (Cell.sh (mD m)), some (Cell.sh (.str n))]) _ = _
    rw [e]
    show dcD 2 _ _ _ _ _ (putK (done.map (shE m)) (.inr n) (.int i)) = _
    have hnd : n ∉ done := by
      rw [List.nodup_append] at nd
      intro q
      exact nd.2.2 n q n List.mem_cons_self rfl
    rw [putK_new _ (by rw [valV_shE, if_neg hnd])]
    have ev : (([(Sum.inr n, V.int i)]) : M) = [n].map (shE m) := by
      show _ = [shE m n]
      unfold shE val
      rw [hi]
      rfl
    rw [ev, ← List.map_append, dc_short h x0 r (done ++ [n]) (fun y hy => hs y (List.mem_cons_of_mem _ hy)) (by rw [List.append_assoc]; exact nd), List.append_assoc]
    rfl
/-- the dict that shortest tells -/
def fin (rs : List Ru) (m : M) : M := (uniq (rs.map Ru.hd)).map (shE m)
theorem short_is {rs : List Ru} (G : Good rs) : ∃ m, InvM rs m ∧ (∀ r ∈ rs, Stable m r) ∧ sem_shortest [.list (rs.map Ru.d)] = some (.ret (mD (fin rs m)) true []) := by
  have hn := names_is (rs := rs) (by have := G.le; omega)
  obtain ⟨m, hm, I, S⟩ := lengths_is (rs := rs) G.le
  have al := all_in G S
  refine ⟨m, I, S, ?_⟩
  unfold sem_shortest g_shortest
  refine semR_of rfl ?_
  have e1 : callS 1 sem_need_rules (cons2 (nmP 0) (fun _ => some [])) [some (Cell.sh (.list (rs.map Ru.d))), none, none] = some (.list (rs.map Ru.d)) := callS_is (cons2_is rfl rfl) rfl (need_is G)
  refine sq_nx (ρ' := [some (Cell.sh (.list (rs.map Ru.d))), none, none]) (by show Option.map _ (callS 1 _ _ [some (Cell.sh (.list (rs.map Ru.d))), none, none]) = _; rw [e1]; rfl) ?_
  refine sq_nx (ρ' := [some (Cell.sh (.list (rs.map Ru.d))), some (.sh (mD m)), none]) (setS_is (callS_is (cons2_is rfl rfl) rfl hm)) ?_
  have e2 : callS 1 sem_names_of (cons2 (nmP 0) (fun _ => some [])) [some (Cell.sh (.list (rs.map Ru.d))), some (.sh (mD m)), none] = some (.list ((uniq (rs.map Ru.hd)).map .str)) := callS_is (cons2_is rfl rfl) rfl hn
  have e3 : dcV 2 (fun ρ => ((callS 1 sem_names_of (cons2 (nmP 0) (fun _ => some []))) ρ).bind asL) (fun _ => some true) (nmP 2) (op2 getKD (nmW 1) (nmW 2)) [some (Cell.sh (.list (rs.map Ru.d))), some (.sh (mD m)), none] = some (mD (fin rs m)) := by
    unfold dcV
    show Option.bind (Option.bind (callS 1 _ _ _) asL) _ = _
    rw [e2]
    show (if _ then _ else _) = _
    have hl := len_uniq (rs.map Ru.hd)
    rw [List.length_map] at hl
    have := G.le
    rw [if_pos ⟨rfl, by rw [List.length_map]; omega⟩]
    have := dc_short I.ok (some (Cell.sh (.list (rs.map Ru.d)))) (uniq (rs.map Ru.hd)) [] (fun n hn => al n (mem_uniq.mp hn)) (by rw [List.nil_append]; exact nodup_uniq _)
    show Option.map _ (dcD 2 _ _ _ _ _ (([] : List Str).map (shE m))) = _
    rw [this]
    rfl
  show Option.bind (Option.map _ (dcV 2 _ _ _ _ _)) _ = _
  rw [e3]
  rfl
theorem fin_look {rs : List Ru} {m : M} (S : ∀ n ∈ rs.map Ru.hd, ∃ i, look m n = some i) {n : Str} (hn : n ∈ rs.map Ru.hd) : look (fin rs m) n = look m n := by
  obtain ⟨i, hi⟩ := S n hn
  unfold look fin
  rw [valV_shE, if_pos (mem_uniq.mpr hn)]
  show some (val m n) = look m n
  unfold val
  rw [hi]
  rfl
theorem fin_ok {rs : List Ru} {m : M} (h : OkM m) (S : ∀ n ∈ rs.map Ru.hd, ∃ i, look m n = some i) : OkM (fin rs m) := fun p hp => by
  obtain ⟨n, hn, rfl⟩ := List.mem_map.mp hp
  obtain ⟨i, hi⟩ := S n (mem_uniq.mp hn)
  refine ⟨n, val m n, rfl, ?_⟩
  unfold val
  rw [hi]
  exact h.pos hi
theorem fin_cost {rs : List Ru} (G : Good rs) {m : M} (S : ∀ n ∈ rs.map Ru.hd, ∃ i, look m n = some i) {r : Ru} (hr : r ∈ rs) : cost (fin rs m) r = cost m r ∧ ∃ c, cost m r = some c := by
  cases r with
  | leaf n s => exact ⟨rfl, 1, rfl⟩
  | fork n a b =>
    obtain ⟨ka, kb⟩ := G.known n a b hr
    obtain ⟨i, hi⟩ := S a ka
    obtain ⟨j, hj⟩ := S b kb
    refine ⟨?_, i + j, ?_⟩
    · show (look (fin rs m) a).bind _ = (look m a).bind _
      rw [fin_look S ka, fin_look S kb]
    · show (look m a).bind _ = _
      rw [hi]
      show (look m b).map _ = _
      rw [hj]
      rfl
theorem comes_is {m : M} (h : OkM m) {r : Ru} {c : Int} (e : cost m r = some c) : sem__law_comes_to [mD m, r.d] = some (.ret (.int c) false []) := by
  unfold sem__law_comes_to g__law_comes_to
  refine semR_of rfl ?_
  cases r with
  | leaf n s =>
    cases e
    refine sq_rt (d := .int 1) (o := false) (ρ' := [some (Cell.sh (mD m)), some (.sh (Ru.leaf n s).d)]) ?_ rfl
    show ifS _ _ _ [some (Cell.sh (mD m)), some (.sh (Ru.leaf n s).d)] = _
    rw [ifS_yes]
    · rfl
    · refine opT_is (x := .int 2) (y := .int 2) rfl rfl ?_
      unfold eqD
      rw [if_pos ⟨shaped_int, shaped_int⟩, eqv_int]
      rfl
  | fork n a b =>
    obtain ⟨i, h1, e2⟩ := Option.bind_eq_some_iff.mp e
    obtain ⟨j, h2, rfl⟩ := Option.map_eq_some_iff.mp e2
    refine sq_nx (ρ' := [some (Cell.sh (mD m)), some (.sh (Ru.fork n a b).d)]) ?_ ?_
    · show ifS _ _ _ [some (Cell.sh (mD m)), some (.sh (Ru.fork n a b).d)] = _
      rw [ifS_no]
      refine opT_is (x := .int 3) (y := .int 2) rfl rfl ?_
      unfold eqD
      rw [if_pos ⟨shaped_int, shaped_int⟩, eqv_int]
      rfl
    · have e3 : op2 addD (op2 getKD (nmW 0) (op2 ixD (nmW 1) (fun _ => some (.int 1)))) (op2 getKD (nmW 0) (op2 ixD (nmW 1) (fun _ => some (.int 2)))) [some (Cell.sh (mD m)), some (.sh (Ru.fork n a b).d)] = some (.int (i + j)) :=
        op2_is (x := .int i) (y := .int j) (op2_is (x := mD m) (y := .str a) rfl (op2_is (x := (Ru.fork n a b).d) (y := .int 1) rfl rfl rfl) (get_is h h1)) (op2_is (x := mD m) (y := .str b) rfl (op2_is (x := (Ru.fork n a b).d) (y := .int 2) rfl rfl rfl) (get_is h h2)) rfl
      show Option.bind (Option.map _ (op2 addD _ _ _)) _ = _
      rw [e3]
      rfl
end K3

namespace K3
open PySem L2 DS
theorem at_is {xs : List D} {i : Int} (h0 : 0 ≤ i) : sem__law_at [.list xs, .int i] = some (.ret (xs.getD i.toNat (.int 0)) false []) := by
  by_cases hl : (xs.length : Int) ≤ i
  · have : xs.getD i.toNat (.int 0) = .int 0 := by
      rw [List.getD_eq_getElem?_getD, List.getElem?_eq_none (by omega)]
      rfl
    rw [this]
    simp [sem__law_at, semR, g__law_at, shs, seqS, ifS, opT, op2, nmW, nmP, Cell.got, callD, cons2, lenD, geD, asB, hl, fin0]
  · obtain ⟨x, e, _⟩ := atI_ok (xs := xs) h0 (by omega)
    have : xs.getD i.toNat (.int 0) = x := by
      unfold atI ixN at e
      rw [if_pos h0, if_pos (by omega)] at e
      rw [List.getD_eq_getElem?_getD]
      have e' : xs[i.toNat]? = some x := e
      rw [e']
      rfl
    rw [this]
    simp [sem__law_at, semR, g__law_at, shs, seqS, ifS, opT, op2, nmW, nmP, Cell.got, callD, cons2, lenD, geD, asB, hl, fin0, ixD, e]
theorem letters_at (i : Int) : ∃ c, ixD (.str "abcdefghijklmnopqrstuvwxyz") (.int (i % 26)) = some (sgD c) ∧ letB c = true := by
  obtain ⟨c, e, h⟩ := atI_mod (xs := ("abcdefghijklmnopqrstuvwxyz" : Str).cps.toList) (i := i) (n := 26) (by decide) (by decide +kernel)
  refine ⟨c, ?_, ?_⟩
  · unfold ixD
    dsimp only
    rw [if_pos (by decide +kernel), e]
    rfl
  · have : ∀ y ∈ ("abcdefghijklmnopqrstuvwxyz" : Str).cps.toList, letB y = true := by decide +kernel
    exact this c h
theorem at_int (ns : List Int) {i : Int} (h0 : 0 ≤ i) : ∃ c, sem__law_at [.list (ns.map .int), .int i] = some (.ret (.int c) false []) := by
  rw [at_is h0, List.getD_eq_getElem?_getD, List.getElem?_map]
  cases ns[i.toNat]? with
  | none => exact ⟨0, rfl⟩
  | some c => exact ⟨c, rfl⟩
theorem sgs_of : ∀ ys : List D, (∀ y ∈ ys, ∃ c, y = sgD c ∧ letB c = true) → ∃ cs : List Nat, ys = cs.map sgD ∧ ∀ c ∈ cs, letB c = true
  | [], _ => ⟨[], rfl, fun _ h => by cases h⟩
  | y :: r, h => by
    obtain ⟨c, rfl, hc⟩ := h y List.mem_cons_self
    obtain ⟨cs, rfl, h2⟩ := sgs_of r fun z hz => h z (List.mem_cons_of_mem _ hz)
    exact ⟨c :: cs, rfl, fun z hz => by rcases List.mem_cons.mp hz with rfl | hz; exact hc; exact h2 z hz⟩
theorem call_at (ns : List Int) (k : Int) (hk : 0 ≤ k) (r : Nv) : ∃ c, ∀ r : Nv, callS 2 sem__law_at (cons2 (nmP 0) (cons2 (fun _ => some (.int k)) (fun _ => some []))) (some (Cell.sh (.list (ns.map .int))) :: r) = some (.int c) := by
  obtain ⟨c, hc⟩ := at_int ns hk
  exact ⟨c, fun r => callS_is (cons2_is rfl (cons2_is rfl rfl)) rfl hc⟩

/-! ### words -/
theorem len_cut1 (t : Str) {i : Int} (h0 : 0 ≤ i) (h1 : i < t.length) : (cutS t none (some i)).length = i.toNat := by
  show (((t.cps.toList.drop 0).take (HT.sIx t.length t.length (some i) - 0)).toArray).size = _
  have e : HT.sIx t.length t.length (some i) = i.toNat := by
    unfold HT.sIx
    show (if i < 0 then _ else _) = _
    rw [if_neg (by omega)]
    omega
  rw [e, List.size_toArray, List.length_take, List.length_drop, Array.length_toList]
  have : t.cps.size = t.length := rfl
  omega
theorem len_cut2 (t : Str) {i : Int} (h0 : 0 ≤ i) (h1 : i < t.length) : (cutS t (some (i + 1)) none).length = t.length - (i.toNat + 1) := by
  show (((t.cps.toList.drop (HT.sIx t.length 0 (some (i + 1)))).take (t.length - HT.sIx t.length 0 (some (i + 1)))).toArray).size = _
  have e : HT.sIx t.length 0 (some (i + 1)) = i.toNat + 1 := by
    unfold HT.sIx
    show (if i + 1 < 0 then _ else _) = _
    rw [if_neg (by omega)]
    omega
  rw [e, List.size_toArray, List.length_take, List.length_drop, Array.length_toList]
  have : t.cps.size = t.length := rfl
  omega
theorem word_is (c k : Int) (hk : 0 ≤ k) (hk2 : k ≤ 100) : ∃ w, sem__law_word [.int c, .int k] = some (.ret (.str w) false []) ∧ okN w := by
  have goal : ∃ d, sem__law_word [.int c, .int k] = some (.ret d false []) ∧ ∃ w, d = .str w ∧ okN w := by
    unfold sem__law_word
    refine sem_rets rfl ?_
    unfold g__law_word
    refine rets_nx (ρ' := [some (Cell.sh (.int c)), some (.sh (.int k)), some (.sh (.str "abcdefghijklmnopqrstuvwxyz")), none, none, none, none, none]) rfl ?_
    refine rets_nx (setS_is (op2_is (x := .int 1) (y := .int (c / 26 % 12)) rfl (op2_is (x := .int (c / 26)) (y := .int 12) (op2_is (x := .int c) (y := .int 26) rfl rfl rfl) rfl rfl) rfl)) ?_
    have hs : 1 ≤ 1 + c / 26 % 12 ∧ 1 + c / 26 % 12 ≤ 12 := by omega
    generalize 1 + c / 26 % 12 = sz at hs
    refine rets_nx (setS_is (op2_is (x := .int (c / 312)) (y := .int sz) (op2_is (x := .int c) (y := .int 312) rfl rfl rfl) rfl (by unfold modD; dsimp only; rw [if_pos (by omega)]))) ?_
    have hat : 0 ≤ c / 312 % sz ∧ c / 312 % sz < sz := ⟨Int.emod_nonneg _ (by omega), Int.emod_lt_of_pos _ (by omega)⟩
    generalize c / 312 % sz = at_ at hat
    have hr : (fun ρ => ((cons2 (nmP 3) (fun _ => some [])) ρ).bind rng1) [some (Cell.sh (.int c)), some (.sh (.int k)), some (.sh (.str "abcdefghijklmnopqrstuvwxyz")), some (.sh (.int sz)), some (.sh (.int at_)), none, none, none] = some (rngD 0 sz.toNat) := by
      have e : cons2 (nmP 3) (fun _ => some []) [some (Cell.sh (.int c)), some (.sh (.int k)), some (.sh (.str "abcdefghijklmnopqrstuvwxyz")), some (.sh (.int sz)), some (.sh (.int at_)), none, none, none] = some [.int sz] := cons2_is rfl rfl
      show Option.bind (cons2 _ _ _) rng1 = _
      rw [e]
      show (if _ then _ else _) = _
      rw [if_pos]
      omega
    have hn : (rngD 0 sz.toNat).length = sz.toNat := by
      unfold rngD
      rw [List.length_map, List.length_range]
    obtain ⟨ys, e1, l1, q1⟩ := lcV_all (i := 6) (ds := rngD 0 sz.toNat) (fi := fun ρ => ((cons2 (nmP 3) (fun _ => some [])) ρ).bind rng1) (ρ := [some (Cell.sh (.int c)), some (.sh (.int k)), some (.sh (.str "abcdefghijklmnopqrstuvwxyz")), some (.sh (.int sz)), some (.sh (.int at_)), none, none, none])
      (Q := fun y => ∃ x, y = sgD x ∧ letB x = true) (f := op2 ixD (nmW 2) (op2 modD (op2 addD (nmW 0) (op2 mulD (fun _ => some (.int 3)) (nmW 6))) (fun _ => some (.int 26)))) hr rfl (by omega) (fun x hx => by
      unfold rngD at hx
      obtain ⟨j, hj, rfl⟩ := List.mem_map.mp hx
      rw [List.mem_range] at hj
      obtain ⟨x, e, hx⟩ := letters_at (c + 3 * (0 + (j : Int)))
      refine ⟨_, op2_is (x := .str "abcdefghijklmnopqrstuvwxyz") rfl (op2_is (x := .int (c + 3 * (0 + (j : Int)))) (y := .int 26) (op2_is (x := .int c) (y := .int (3 * (0 + (j : Int)))) rfl (op2_is (x := .int 3) (y := .int (0 + (j : Int))) rfl rfl ?_) rfl) rfl rfl) e, x, rfl, hx⟩
      unfold mulD
      dsimp only
      rw [if_pos (by omega)])
    obtain ⟨cs, rfl, hcs⟩ := sgs_of ys q1
    rw [List.length_map, hn] at l1
    obtain ⟨t, e2, ht⟩ := joinD_sg (cs := cs) (by omega)
    refine rets_nx (setS_is (op2_is (x := .str ⟨#[]⟩) rfl e1 e2)) ?_
    obtain ⟨z, e3, hz⟩ := letters_at (c + 7 * k)
    refine rets_nx (setS_is (op2_is (x := .str "abcdefghijklmnopqrstuvwxyz") rfl (op2_is (x := .int (c + 7 * k)) (y := .int 26) (op2_is (x := .int c) (y := .int (7 * k)) rfl (op2_is (x := .int 7) (y := .int k) rfl rfl (by unfold mulD; dsimp only; rw [if_pos (by omega)])) rfl) rfl rfl) e3)) ?_
    have tl : t.length = sz.toNat := by
      rw [len_list, ht]
      omega
    have tl' : t.length ≤ 100000 := by omega
    have a1 := len_cut1 t (i := at_) (by omega) (by omega)
    have a2 := len_cut2 t (i := at_) (by omega) (by omega)
    have lx : (⟨#[z]⟩ : Str).length = 1 := rfl
    refine rets_ret (d := .str (cutS t none (some at_) ++ ⟨#[z]⟩ ++ cutS t (some (at_ + 1)) none)) (op2_is (x := .str (cutS t none (some at_) ++ ⟨#[z]⟩)) (y := .str (cutS t (some (at_ + 1)) none)) (op2_is (x := .str (cutS t none (some at_))) (y := sgD z) ?_ rfl ?_) ?_ ?_) (Nat.le_of_ble_eq_true rfl) ⟨_, rfl, ?_⟩
    · show (if _ then _ else _) = _
      rw [if_pos tl']
    · show (if _ then _ else _) = _
      rw [if_pos (by omega)]
    · show (if _ then _ else _) = _
      rw [if_pos tl']
    · show (if _ then _ else _) = _
      rw [if_pos (by rw [len_app]; omega)]
    · unfold okN nameB
      dsimp only
      rw [Bool.and_eq_true, Bool.and_eq_true, decide_eq_true_eq, decide_eq_true_eq, len_app, len_app]
      refine ⟨⟨by omega, by omega⟩, ?_⟩
      rw [List.all_eq_true]
      intro y hy
      rcases mem_app hy with hy | hy
      · rcases mem_app hy with hy | hy
        · exact hcs y (by rw [← ht]; exact mem_cutS hy)
        · have hy' : y ∈ [z] := hy
          rw [List.mem_singleton] at hy'
          rw [hy']
          exact hz
      · exact hcs y (by rw [← ht]; exact mem_cutS hy)
  obtain ⟨d, h1, w, rfl, h2⟩ := goal
  exact ⟨w, h1, h2⟩
end K3

namespace K3
open PySem L2 DS
theorem nth_nm {ws : List Str} {i : Int} (h0 : 0 ≤ i) (h1 : i < ws.length) : ∃ w, ixD (.list (ws.map .str)) (.int i) = some (.str w) ∧ ws[i.toNat]? = some w := by
  have hl : i.toNat < ws.length := by omega
  refine ⟨ws[i.toNat], ?_, List.getElem?_eq_getElem hl⟩
  show atI (ws.map PyData.str) i = _
  unfold atI ixN
  rw [if_pos h0, if_pos (by rw [List.length_map]; exact h1)]
  show (ws.map PyData.str)[i.toNat]? = _
  rw [List.getElem?_map, List.getElem?_eq_getElem hl]
  rfl
theorem sign_at (i : Int) : ∃ y, ixD (.str "ab +") (.int (i % 4)) = some (sgD y) ∧ signB (sgD y) = true := by
  obtain ⟨c, e, h⟩ := atI_mod (xs := ("ab +" : Str).cps.toList) (i := i) (n := 4) (by decide) (by decide +kernel)
  refine ⟨c, ?_, ?_⟩
  · unfold ixD
    dsimp only
    rw [if_pos (by decide +kernel), e]
    rfl
  · have : ∀ y ∈ ("ab +" : Str).cps.toList, signB (sgD y) = true := by decide +kernel
    exact this c h
theorem appS_is {i : Nat} {fa : Nv → Option D} {ρ : Nv} {x : D} {xs : List D} {c : Cell} (h : fa ρ = some x) (hc : ρ[i]? = some (some c)) (hm : c.mine = true) (hg : c.got = .list xs) (hl : xs.length < 100000) : appS i fa ρ = some (.nx (ρ.set i (some (c.put (.list (xs ++ [x])))))) := by
  unfold appS
  rw [h]
  show mutS i (appD x) ρ = _
  unfold mutS
  rw [hc]
  show (if _ then _ else _) = _
  rw [if_pos hm, hg]
  show Option.map _ (if _ then _ else _) = _
  rw [if_pos hl]
  rfl
theorem forS_rng {a : D → Nv → Option Nv} {g : Nv → Option SR} {I : Nat → Nv → Prop} {n : Nat} {ρ : Nv} (h0 : I 0 ρ) (hs : ∀ i, i < n → ∀ ρ, I i ρ → ∃ ρ1 ρ2, a (.int (0 + (i : Int))) ρ = some ρ1 ∧ g ρ1 = some (.nx ρ2) ∧ I (i + 1) ρ2) : ∃ ρ', forS a g (rngD 0 n) ρ = some (.nx ρ') ∧ I n ρ' := by
  have key : ∀ (k : Nat) (s : Nat) (ρ : Nv), s + k = n → I s ρ → ∃ ρ', forS a g ((List.range' s k).map fun (i : Nat) => PyData.int (0 + (i : Int))) ρ = some (.nx ρ') ∧ I n ρ' := by
    intro k
    induction k with
    | zero =>
      intro s ρ hk h
      have : s = n := by omega
      subst this
      exact ⟨ρ, rfl, h⟩
    | succ k ih =>
      intro s ρ hk h
      obtain ⟨ρ1, ρ2, e1, e2, h2⟩ := hs s (by omega) ρ h
      obtain ⟨ρ', e3, h3⟩ := ih (s + 1) ρ2 (by omega) h2
      refine ⟨ρ', ?_, h3⟩
      rw [List.range'_succ, List.map_cons, forS]
      show Option.bind (a (.int (0 + (s : Int))) ρ) _ = _
      rw [e1]
      show Option.bind (g ρ1) _ = _
      rw [e2]
      exact e3
  obtain ⟨ρ', e, h⟩ := key n 0 ρ (by omega) h0
  refine ⟨ρ', ?_, h⟩
  unfold rngD
  rw [List.range_eq_range']
  exact e
/-- rules that each have a name of their own and lean on those ahead -/
def Chain (ws : List Str) (rs : List Ru) : Prop := ∀ (i : Nat) (r : Ru), rs[i]? = some r → ws[i]? = some r.hd ∧ r.ok ∧ ∀ n a b, r = .fork n a b → ∃ p q, p < i ∧ q < i ∧ ws[p]? = some a ∧ ws[q]? = some b
theorem Chain.add {ws : List Str} {rs : List Ru} (h : Chain ws rs) {r : Ru} (h1 : ws[rs.length]? = some r.hd) (h2 : r.ok) (h3 : ∀ n a b, r = .fork n a b → ∃ p q, p < rs.length ∧ q < rs.length ∧ ws[p]? = some a ∧ ws[q]? = some b) : Chain ws (rs ++ [r]) := fun i x hx => by
  by_cases hi : i < rs.length
  · rw [List.getElem?_append_left hi] at hx
    exact h i x hx
  · rw [List.getElem?_append_right (by omega)] at hx
    have : i = rs.length := by
      by_cases q : i - rs.length = 0
      · omega
      · rw [List.getElem?_eq_none (by rw [List.length_singleton]; omega)] at hx
        cases hx
    subst this
    rw [Nat.sub_self] at hx
    cases hx
    exact ⟨h1, h2, h3⟩
def InW (ws : List Str) (r : Ru) : Prop := r.ok ∧ r.hd ∈ ws ∧ ∀ n a b, r = .fork n a b → a ∈ ws ∧ b ∈ ws
def idx : List Str → Str → Nat
  | [], _ => 0
  | x :: r, n => if x = n then 0 else idx r n + 1
theorem idx_get : ∀ (ws : List Str) (n : Str), n ∈ ws → ws[idx ws n]? = some n
  | x :: r, n, h => by
    unfold idx
    by_cases e : x = n
    · rw [if_pos e, e]
      rfl
    · rw [if_neg e]
      have hr : n ∈ r := (List.mem_cons.mp h).resolve_left fun z => e z.symm
      exact idx_get r n hr
theorem idx_le : ∀ (ws : List Str) (p : Nat) (a : Str), ws[p]? = some a → idx ws a ≤ p
  | x :: r, 0, a, h => by
    cases h
    unfold idx
    rw [if_pos rfl]
    omega
  | x :: r, p + 1, a, h => by
    unfold idx
    split
    · omega
    · have := idx_le r p a h
      omega
theorem chain_good {ws : List Str} {rs ex : List Ru} (h : Chain ws rs) (hl : rs.length = ws.length) (he : ∀ r ∈ ex, InW ws r) (h1 : 1 ≤ ws.length) (h2 : ws.length + ex.length ≤ 40) : ∀ out : List Ru, (∀ r, r ∈ out ↔ r ∈ rs ∨ r ∈ ex) → out.length = rs.length + ex.length → Good out := by
  intro out hm hlo
  have all : ∀ r ∈ out, InW ws r := fun r hr => by
    rcases (hm r).mp hr with hr | hr
    · obtain ⟨i, hi⟩ := List.getElem?_of_mem hr
      obtain ⟨g1, g2, g3⟩ := h i r hi
      refine ⟨g2, List.mem_of_getElem? g1, fun n a b e => ?_⟩
      obtain ⟨p, q, _, _, g4, g5⟩ := g3 n a b e
      exact ⟨List.mem_of_getElem? g4, List.mem_of_getElem? g5⟩
    · exact he r hr
  have heads : ∀ w ∈ ws, ∃ r ∈ out, r.hd = w ∧ ∀ a b, r = .fork w a b → idx ws a < idx ws w ∧ idx ws b < idx ws w := fun w hw => by
    have g := idx_get ws w hw
    have hlt : idx ws w < rs.length := by
      rw [hl]
      exact (List.getElem?_eq_some_iff.mp g).1
    obtain ⟨g1, g2, g3⟩ := h (idx ws w) rs[idx ws w] (List.getElem?_eq_getElem hlt)
    rw [g] at g1
    refine ⟨rs[idx ws w], (hm _).mpr (.inl (List.getElem_mem hlt)), (Option.some.inj g1).symm, fun a b e => ?_⟩
    obtain ⟨p, q, hp, hq, g4, g5⟩ := g3 w a b e
    have := idx_le ws p a g4
    have := idx_le ws q b g5
    omega
  refine ⟨by omega, by omega, fun r hr => (all r hr).1, fun n a b hr => ?_, idx ws, fun n hn => ?_⟩
  · obtain ⟨ha, hb⟩ := (all _ hr).2.2 n a b rfl
    obtain ⟨r1, q1, q2, _⟩ := heads a ha
    obtain ⟨r2, q3, q4, _⟩ := heads b hb
    exact ⟨List.mem_map.mpr ⟨r1, q1, q2⟩, List.mem_map.mpr ⟨r2, q3, q4⟩⟩
  · obtain ⟨r, hr, rfl⟩ := List.mem_map.mp hn
    exact heads _ (all r hr).2.1
abbrev stR (ns : List Int) (b cnt : Int) (ws : List Str) (rs : List Ru) (x4 x6 x7 x8 : Option Cell) : Nv := [some (.sh (.list (ns.map .int))), some (.sh (.int b)), some (.sh (.int cnt)), some (.sh (.list (ws.map .str))), x4, some (.ow (.list (rs.map Ru.d))), x6, x7, x8]
theorem map_snoc (rs : List Ru) (r : Ru) : rs.map Ru.d ++ [r.d] = (rs ++ [r]).map Ru.d := by
  rw [List.map_append]
  rfl
theorem rules_is (ns : List Int) (b : Int) : ∃ d, sem__law_rules [.list (ns.map .int), .int b] = some (.ret d true []) ∧ ∃ rs, Good rs ∧ d = .list (rs.map Ru.d) := by
  obtain ⟨n1, h1⟩ := call_at ns 1 (by decide) []
  unfold sem__law_rules
  refine sem_rets rfl ?_
  unfold g__law_rules
  refine rets_nx (setS_is (op2_is (x := .int 1) (y := .int (b % 4)) rfl (op2_is (x := .int b) (y := .int 4) rfl rfl rfl) rfl)) ?_
  obtain ⟨cnt, hc1, hc2, ec⟩ : ∃ cnt : Int, 1 ≤ cnt ∧ cnt ≤ 12 ∧ ifS (opT eqD (op2 modD (op2 fdivD (nmW 1) (fun _ => some (.int 8))) (fun _ => some (.int 6))) (fun _ => some (.int 1)))
      (setS 2 (op2 addD (fun _ => some (.int 5)) (op2 modD (op2 fdivD (nmW 1) (fun _ => some (.int 48))) (fun _ => some (.int 8)))))
      (fun ρ => some (.nx ρ)) [some (Cell.sh (.list (ns.map .int))), some (.sh (.int b)), some (.sh (.int (1 + b % 4))), none, none, none, none, none, none] = some (.nx [some (Cell.sh (.list (ns.map .int))), some (.sh (.int b)), some (.sh (.int cnt)), none, none, none, none, none, none]) := by
    have t1 : opT eqD (op2 modD (op2 fdivD (nmW 1) (fun _ => some (.int 8))) (fun _ => some (.int 6))) (fun _ => some (.int 1)) [some (Cell.sh (.list (ns.map .int))), some (.sh (.int b)), some (.sh (.int (1 + b % 4))), none, none, none, none, none, none] = some (decide (b / 8 % 6 = 1)) := by
      refine opT_is (x := .int (b / 8 % 6)) (y := .int 1) (op2_is (x := .int (b / 8)) (y := .int 6) (op2_is (x := .int b) (y := .int 8) rfl rfl rfl) rfl rfl) rfl ?_
      unfold eqD
      rw [if_pos ⟨shaped_int, shaped_int⟩, eqv_int]
    by_cases q : b / 8 % 6 = 1
    · refine ⟨5 + b / 48 % 8, by omega, by omega, ?_⟩
      rw [ifS_yes (by rw [t1, decide_eq_true q])]
      exact setS_is (op2_is (x := .int 5) (y := .int (b / 48 % 8)) rfl (op2_is (x := .int (b / 48)) (y := .int 8) (op2_is (x := .int b) (y := .int 48) rfl rfl rfl) rfl rfl) rfl)
    · refine ⟨1 + b % 4, by omega, by omega, ?_⟩
      rw [ifS_no (by rw [t1, decide_eq_false q])]
  refine rets_nx ec ?_
  -- the names
  have hrng : ∀ (x3 x4 : Option Cell) (x5 : Option Cell), (fun ρ => ((cons2 (nmP 2) (fun _ => some [])) ρ).bind rng1) [some (Cell.sh (.list (ns.map .int))), some (.sh (.int b)), some (.sh (.int cnt)), x3, x4, x5, none, none, none] = some (rngD 0 cnt.toNat) := fun x3 x4 x5 => by
    have e : cons2 (nmP 2) (fun _ => some []) [some (Cell.sh (.list (ns.map .int))), some (.sh (.int b)), some (.sh (.int cnt)), x3, x4, x5, none, none, none] = some [.int cnt] := cons2_is rfl rfl
    show Option.bind (cons2 _ _ _) rng1 = _
    rw [e]
    show (if _ then _ else _) = _
    rw [if_pos]
    omega
  have hn : (rngD 0 cnt.toNat).length = cnt.toNat := by
    unfold rngD
    rw [List.length_map, List.length_range]
  obtain ⟨ys, e1, l1, q1⟩ := lcV_all (i := 4) (ds := rngD 0 cnt.toNat) (fi := fun ρ => ((cons2 (nmP 2) (fun _ => some [])) ρ).bind rng1) (ρ := [some (Cell.sh (.list (ns.map .int))), some (.sh (.int b)), some (.sh (.int cnt)), none, none, none, none, none, none]) (Q := fun y => ∃ w, y = PyData.str w ∧ okN w)
    (f := callS 2 sem__law_word (cons2 (op2 fdivD (nmW 1) (fun _ => some (.int 4))) (cons2 (nmP 4) (fun _ => some [])))) (hrng none none none) rfl (by omega) (fun x hx => by
    unfold rngD at hx
    obtain ⟨j, hj, rfl⟩ := List.mem_map.mp hx
    rw [List.mem_range] at hj
    obtain ⟨w, e, hw⟩ := word_is (b / 4) (0 + (j : Int)) (by omega) (by omega)
    exact ⟨_, callS_is (cons2_is (op2_is (x := .int b) (y := .int 4) rfl rfl rfl) (cons2_is rfl rfl)) rfl e, w, rfl, hw⟩)
  obtain ⟨ws, rfl, hws⟩ : ∃ ws : List Str, ys = ws.map .str ∧ ∀ w ∈ ws, okN w := by
    clear e1 l1
    induction ys with
    | nil => exact ⟨[], rfl, fun _ h => (by cases h)⟩
    | cons y r ih =>
      obtain ⟨w, rfl, hw⟩ := q1 y List.mem_cons_self
      obtain ⟨ws, rfl, h2⟩ := ih fun z hz => q1 z (List.mem_cons_of_mem _ hz)
      exact ⟨w :: ws, rfl, fun z hz => (by rcases List.mem_cons.mp hz with rfl | hz; exact hw; exact h2 z hz)⟩
  rw [List.length_map, hn] at l1
  refine rets_nx (setS_is e1) ?_
  refine rets_nx (ρ' := stR ns b cnt ws [] none none none none) rfl ?_
  -- a rule for each
  obtain ⟨ρ1, f1, rs1, x4, x6, ch, hl1, rfl⟩ : ∃ ρ1, _ ∧ ∃ rs1 x4 x6, Chain ws rs1 ∧ rs1.length = cnt.toNat ∧ ρ1 = stR ns b cnt ws rs1 x4 x6 none none := forS_rng (a := toNm 4) (g := seqS (setS 6 (callS 2 sem__law_at (cons2 (nmP 0) (cons2 (op2 addD (fun _ => some (.int 30)) (nmW 4)) (fun _ => some [])))))
    (ifS (orT (opT eqD (nmW 4) (fun _ => some (.int 0))) (opT eqD (op2 modD (nmW 6) (fun _ => some (.int 4))) (fun _ => some (.int 0))))
      (appS 5 (mkT (cons2 (op2 ixD (nmW 3) (nmW 4)) (cons2 (op2 ixD (fun _ => some (.str "ab +")) (op2 modD (op2 fdivD (nmW 6) (fun _ => some (.int 4))) (fun _ => some (.int 4)))) (fun _ => some [])))))
      (appS 5 (mkT (cons2 (op2 ixD (nmW 3) (nmW 4)) (cons2 (op2 ixD (nmW 3) (op2 modD (op2 fdivD (nmW 6) (fun _ => some (.int 4))) (nmW 4))) (cons2 (op2 ixD (nmW 3) (op2 modD (op2 fdivD (nmW 6) (fun _ => some (.int 16))) (nmW 4))) (fun _ => some []))))))))
    (I := fun j ρ => ∃ rs1 x4 x6, Chain ws rs1 ∧ rs1.length = j ∧ ρ = stR ns b cnt ws rs1 x4 x6 none none) (n := cnt.toNat) (ρ := stR ns b cnt ws [] none none none none) ⟨[], none, none, fun i r h => (by simp at h), rfl, rfl⟩ (fun i hi ρ ⟨rs1, x4, x6, ch, hl, e⟩ => by
      subst e
      obtain ⟨c, hc⟩ := at_int ns (i := 30 + (0 + (i : Int))) (by omega)
      obtain ⟨w, ew, gw⟩ := nth_nm (ws := ws) (i := 0 + (i : Int)) (by omega) (by omega)
      have gi : (0 + (i : Int)).toNat = i := by omega
      rw [gi] at gw
      have okw : okN w := hws w (List.mem_of_getElem? gw)
      have s1 : setS 6 (callS 2 sem__law_at (cons2 (nmP 0) (cons2 (op2 addD (fun _ => some (.int 30)) (nmW 4)) (fun _ => some [])))) (stR ns b cnt ws rs1 (some (.sh (.int (0 + (i : Int))))) x6 none none) = some (.nx (stR ns b cnt ws rs1 (some (.sh (.int (0 + (i : Int))))) (some (.sh (.int c))) none none)) :=
        setS_is (callS_is (cons2_is rfl (cons2_is (op2_is (x := .int 30) (y := .int (0 + (i : Int))) rfl rfl rfl) rfl)) rfl hc)
      have t1 : orT (opT eqD (nmW 4) (fun _ => some (.int 0))) (opT eqD (op2 modD (nmW 6) (fun _ => some (.int 4))) (fun _ => some (.int 0))) (stR ns b cnt ws rs1 (some (.sh (.int (0 + (i : Int))))) (some (.sh (.int c))) none none) = some (decide ((0 + (i : Int)) = 0) || decide (c % 4 = 0)) := by
        have a1 : opT eqD (nmW 4) (fun _ => some (.int 0)) (stR ns b cnt ws rs1 (some (.sh (.int (0 + (i : Int))))) (some (.sh (.int c))) none none) = some (decide ((0 + (i : Int)) = 0)) := by
          refine opT_is (x := .int (0 + (i : Int))) (y := .int 0) rfl rfl ?_
          unfold eqD
          rw [if_pos ⟨shaped_int, shaped_int⟩, eqv_int]
        have a2 : opT eqD (op2 modD (nmW 6) (fun _ => some (.int 4))) (fun _ => some (.int 0)) (stR ns b cnt ws rs1 (some (.sh (.int (0 + (i : Int))))) (some (.sh (.int c))) none none) = some (decide (c % 4 = 0)) := by
          refine opT_is (x := .int (c % 4)) (y := .int 0) (op2_is (x := .int c) (y := .int 4) rfl rfl rfl) rfl ?_
          unfold eqD
          rw [if_pos ⟨shaped_int, shaped_int⟩, eqv_int]
        unfold orT
        rw [a1, a2]
        cases decide ((0 + (i : Int)) = 0) <;> rfl
      have hlen : (rs1.map Ru.d).length < 100000 := by
        rw [List.length_map]
        omega
      have done : ∀ (r : Ru) (fa : Nv → Option D), fa (stR ns b cnt ws rs1 (some (.sh (.int (0 + (i : Int))))) (some (.sh (.int c))) none none) = some r.d → r.hd = w → r.ok → (∀ n a b, r = .fork n a b → ∃ p q, p < rs1.length ∧ q < rs1.length ∧ ws[p]? = some a ∧ ws[q]? = some b) →
          appS 5 fa (stR ns b cnt ws rs1 (some (.sh (.int (0 + (i : Int))))) (some (.sh (.int c))) none none) = some (.nx (stR ns b cnt ws (rs1 ++ [r]) (some (.sh (.int (0 + (i : Int))))) (some (.sh (.int c))) none none)) ∧ Chain ws (rs1 ++ [r]) := fun r fa e1 e2 e3 e4 => by
        refine ⟨?_, ch.add (by rw [hl, gw, e2]) e3 e4⟩
        rw [appS_is (c := .ow (.list (rs1.map Ru.d))) e1 rfl rfl rfl hlen, map_snoc]
        rfl
      by_cases q : (decide ((0 + (i : Int)) = 0) || decide (c % 4 = 0)) = true
      · obtain ⟨y, ey, hy⟩ := sign_at (c / 4)
        obtain ⟨d1, d2⟩ := done (.leaf w ⟨#[y]⟩) (mkT (cons2 (op2 ixD (nmW 3) (nmW 4)) (cons2 (op2 ixD (fun _ => some (.str "ab +")) (op2 modD (op2 fdivD (nmW 6) (fun _ => some (.int 4))) (fun _ => some (.int 4)))) (fun _ => some [])))) (by
          unfold mkT
          rw [cons2_is (op2_is (x := .list (ws.map .str)) (y := .int (0 + (i : Int))) rfl rfl ew) (cons2_is (op2_is (x := .str "ab +") (y := .int (c / 4 % 4)) rfl (op2_is (x := .int (c / 4)) (y := .int 4) (op2_is (x := .int c) (y := .int 4) rfl rfl rfl) rfl rfl) ey) rfl)]
          rfl) rfl ⟨okw, hy⟩ (fun n a b e => by cases e)
        refine ⟨_, stR ns b cnt ws (rs1 ++ [.leaf w ⟨#[y]⟩]) (some (.sh (.int (0 + (i : Int))))) (some (.sh (.int c))) none none, rfl, ?_, rs1 ++ [.leaf w ⟨#[y]⟩], some (.sh (.int (0 + (i : Int)))), some (.sh (.int c)), d2, by rw [List.length_append, List.length_singleton, hl], rfl⟩
        show seqS _ _ (stR ns b cnt ws rs1 (some (.sh (.int (0 + (i : Int))))) x6 none none) = _
        rw [seqS_is s1, ifS_yes (by rw [t1, q])]
        exact d1
      · have q' : (decide ((0 + (i : Int)) = 0) || decide (c % 4 = 0)) = false := Bool.eq_false_iff.mpr q
        have ipos : 0 < (0 + (i : Int)) := by
          rw [Bool.or_eq_false_iff, decide_eq_false_iff_not] at q'
          omega
        have b1 : 0 ≤ c / 4 % (0 + (i : Int)) ∧ c / 4 % (0 + (i : Int)) < 0 + (i : Int) := ⟨Int.emod_nonneg _ (by omega), Int.emod_lt_of_pos _ ipos⟩
        have b2 : 0 ≤ c / 16 % (0 + (i : Int)) ∧ c / 16 % (0 + (i : Int)) < 0 + (i : Int) := ⟨Int.emod_nonneg _ (by omega), Int.emod_lt_of_pos _ ipos⟩
        obtain ⟨u, eu, gu⟩ := nth_nm (ws := ws) (i := c / 4 % (0 + (i : Int))) (by omega) (by omega)
        obtain ⟨v, ev, gv⟩ := nth_nm (ws := ws) (i := c / 16 % (0 + (i : Int))) (by omega) (by omega)
        have m1 : ∀ k : Int, modD (.int k) (.int (0 + (i : Int))) = some (.int (k % (0 + (i : Int)))) := fun k => by
          unfold modD
          dsimp only
          rw [if_pos ipos]
        obtain ⟨d1, d2⟩ := done (.fork w u v) (mkT (cons2 (op2 ixD (nmW 3) (nmW 4)) (cons2 (op2 ixD (nmW 3) (op2 modD (op2 fdivD (nmW 6) (fun _ => some (.int 4))) (nmW 4))) (cons2 (op2 ixD (nmW 3) (op2 modD (op2 fdivD (nmW 6) (fun _ => some (.int 16))) (nmW 4))) (fun _ => some []))))) (by
          unfold mkT
          rw [cons2_is (op2_is (x := .list (ws.map .str)) (y := .int (0 + (i : Int))) rfl rfl ew) (cons2_is (op2_is (x := .list (ws.map .str)) rfl (op2_is (x := .int (c / 4)) (y := .int (0 + (i : Int))) (op2_is (x := .int c) (y := .int 4) rfl rfl rfl) rfl (m1 _)) eu) (cons2_is (op2_is (x := .list (ws.map .str)) rfl (op2_is (x := .int (c / 16)) (y := .int (0 + (i : Int))) (op2_is (x := .int c) (y := .int 16) rfl rfl rfl) rfl (m1 _)) ev) rfl))]
          rfl) rfl ⟨okw, hws u (List.mem_of_getElem? gu), hws v (List.mem_of_getElem? gv)⟩ (fun n a b e => by
          cases e
          exact ⟨_, _, by omega, by omega, gu, gv⟩)
        refine ⟨_, stR ns b cnt ws (rs1 ++ [.fork w u v]) (some (.sh (.int (0 + (i : Int))))) (some (.sh (.int c))) none none, rfl, ?_, rs1 ++ [.fork w u v], some (.sh (.int (0 + (i : Int)))), some (.sh (.int c)), d2, by rw [List.length_append, List.length_singleton, hl], rfl⟩
        show seqS _ _ (stR ns b cnt ws rs1 (some (.sh (.int (0 + (i : Int))))) x6 none none) = _
        rw [seqS_is s1, ifS_no (by rw [t1, q'])]
        exact d1)
  refine rets_nx (ρ' := stR ns b cnt ws rs1 x4 x6 none none) (by
    have e := hrng (some (.sh (.list (ws.map .str)))) none (some (.ow (.list [])))
    show Option.bind (Option.bind (cons2 _ _ (stR ns b cnt ws [] none none none none)) rng1) _ = _
    rw [show Option.bind (cons2 (nmP 2) (fun _ => some []) (stR ns b cnt ws [] none none none none)) rng1 = some (rngD 0 cnt.toNat) from e]
    exact f1) ?_
  -- more rules
  have hr2 : (fun ρ => ((cons2 (op2 modD (callS 2 sem__law_at (cons2 (nmP 0) (cons2 (fun _ => some (.int 1)) (fun _ => some [])))) (fun _ => some (.int 10))) (fun _ => some [])) ρ).bind rng1) (stR ns b cnt ws rs1 x4 x6 none none) = some (rngD 0 (n1 % 10).toNat) := by
    have e : cons2 (op2 modD (callS 2 sem__law_at (cons2 (nmP 0) (cons2 (fun _ => some (.int 1)) (fun _ => some [])))) (fun _ => some (.int 10))) (fun _ => some []) (stR ns b cnt ws rs1 x4 x6 none none) = some [.int (n1 % 10)] := cons2_is (op2_is (x := .int n1) (y := .int 10) (h1 _) rfl rfl) rfl
    show Option.bind (cons2 _ _ _) rng1 = _
    rw [e]
    show (if _ then _ else _) = _
    rw [if_pos]
    omega
  obtain ⟨ρ2, f2, ex, y4, y6, y7, y8, hex, hlx, rfl⟩ : ∃ ρ2, _ ∧ ∃ ex y4 y6 y7 y8, (∀ r ∈ ex, InW ws r) ∧ ex.length = (n1 % 10).toNat ∧ ρ2 = stR ns b cnt ws (rs1 ++ ex) y4 y6 y7 y8 := forS_rng (a := toNm 4) (g := seqS (setS 6 (callS 2 sem__law_at (cons2 (nmP 0) (cons2 (op2 addD (fun _ => some (.int 6)) (nmW 4)) (fun _ => some [])))))
    (seqS (parS 7 8 (cons2 (op2 ixD (nmW 3) (op2 modD (op2 fdivD (nmW 6) (fun _ => some (.int 3))) (nmW 2))) (cons2 (op2 ixD (nmW 3) (op2 modD (op2 fdivD (nmW 6) (fun _ => some (.int 12))) (nmW 2))) (fun _ => some []))))
    (ifS (opT eqD (op2 modD (nmW 6) (fun _ => some (.int 3))) (fun _ => some (.int 0)))
      (appS 5 (mkT (cons2 (nmP 7) (cons2 (op2 ixD (fun _ => some (.str "ab +")) (op2 modD (op2 fdivD (nmW 6) (fun _ => some (.int 12))) (fun _ => some (.int 4)))) (fun _ => some [])))))
      (appS 5 (mkT (cons2 (op2 ixD (nmW 3) (op2 modD (op2 fdivD (nmW 6) (fun _ => some (.int 48))) (nmW 2))) (cons2 (nmP 7) (cons2 (nmP 8) (fun _ => some [])))))))))
    (I := fun j ρ => ∃ ex y4 y6 y7 y8, (∀ r ∈ ex, InW ws r) ∧ ex.length = j ∧ ρ = stR ns b cnt ws (rs1 ++ ex) y4 y6 y7 y8) (n := (n1 % 10).toNat) (ρ := stR ns b cnt ws rs1 x4 x6 none none) ⟨[], x4, x6, none, none, fun r h => (by cases h), rfl, by rw [List.append_nil]⟩ (fun i hi ρ ⟨ex, y4, y6, y7, y8, hex, hl, e⟩ => by
      subst e
      obtain ⟨c, hc⟩ := at_int ns (i := 6 + (0 + (i : Int))) (by omega)
      have m1 : ∀ k : Int, modD (.int k) (.int cnt) = some (.int (k % cnt)) := fun k => by
        unfold modD
        dsimp only
        rw [if_pos (by omega)]
      have bd : ∀ k : Int, 0 ≤ k % cnt ∧ k % cnt < ws.length := fun k => by
        have := Int.emod_nonneg k (b := cnt) (by omega)
        have := Int.emod_lt_of_pos k (b := cnt) (by omega)
        omega
      obtain ⟨u, eu, gu⟩ := nth_nm (ws := ws) (bd (c / 3)).1 (bd (c / 3)).2
      obtain ⟨v, ev, gv⟩ := nth_nm (ws := ws) (bd (c / 12)).1 (bd (c / 12)).2
      obtain ⟨w, ew, gw⟩ := nth_nm (ws := ws) (bd (c / 48)).1 (bd (c / 48)).2
      have mu := List.mem_of_getElem? gu
      have mv := List.mem_of_getElem? gv
      have mw := List.mem_of_getElem? gw
      have s1 : setS 6 (callS 2 sem__law_at (cons2 (nmP 0) (cons2 (op2 addD (fun _ => some (.int 6)) (nmW 4)) (fun _ => some [])))) (stR ns b cnt ws (rs1 ++ ex) (some (.sh (.int (0 + (i : Int))))) y6 y7 y8) = some (.nx (stR ns b cnt ws (rs1 ++ ex) (some (.sh (.int (0 + (i : Int))))) (some (.sh (.int c))) y7 y8)) :=
        setS_is (callS_is (cons2_is rfl (cons2_is (op2_is (x := .int 6) (y := .int (0 + (i : Int))) rfl rfl rfl) rfl)) rfl hc)
      have s2 : parS 7 8 (cons2 (op2 ixD (nmW 3) (op2 modD (op2 fdivD (nmW 6) (fun _ => some (.int 3))) (nmW 2))) (cons2 (op2 ixD (nmW 3) (op2 modD (op2 fdivD (nmW 6) (fun _ => some (.int 12))) (nmW 2))) (fun _ => some []))) (stR ns b cnt ws (rs1 ++ ex) (some (.sh (.int (0 + (i : Int))))) (some (.sh (.int c))) y7 y8) = some (.nx (stR ns b cnt ws (rs1 ++ ex) (some (.sh (.int (0 + (i : Int))))) (some (.sh (.int c))) (some (.sh (.str u))) (some (.sh (.str v))))) := by
        unfold parS
        rw [cons2_is (op2_is (x := .list (ws.map .str)) rfl (op2_is (x := .int (c / 3)) (y := .int cnt) (op2_is (x := .int c) (y := .int 3) rfl rfl rfl) rfl (m1 _)) eu) (cons2_is (op2_is (x := .list (ws.map .str)) rfl (op2_is (x := .int (c / 12)) (y := .int cnt) (op2_is (x := .int c) (y := .int 12) rfl rfl rfl) rfl (m1 _)) ev) rfl)]
        rfl
      have t1 : opT eqD (op2 modD (nmW 6) (fun _ => some (.int 3))) (fun _ => some (.int 0)) (stR ns b cnt ws (rs1 ++ ex) (some (.sh (.int (0 + (i : Int))))) (some (.sh (.int c))) (some (.sh (.str u))) (some (.sh (.str v)))) = some (decide (c % 3 = 0)) := by
        refine opT_is (x := .int (c % 3)) (y := .int 0) (op2_is (x := .int c) (y := .int 3) rfl rfl rfl) rfl ?_
        unfold eqD
        rw [if_pos ⟨shaped_int, shaped_int⟩, eqv_int]
      have hlen : ((rs1 ++ ex).map Ru.d).length < 100000 := by
        rw [List.length_map, List.length_append]
        omega
      have done : ∀ (r : Ru) (fa : Nv → Option D), fa (stR ns b cnt ws (rs1 ++ ex) (some (.sh (.int (0 + (i : Int))))) (some (.sh (.int c))) (some (.sh (.str u))) (some (.sh (.str v)))) = some r.d → InW ws r →
          appS 5 fa (stR ns b cnt ws (rs1 ++ ex) (some (.sh (.int (0 + (i : Int))))) (some (.sh (.int c))) (some (.sh (.str u))) (some (.sh (.str v)))) = some (.nx (stR ns b cnt ws (rs1 ++ (ex ++ [r])) (some (.sh (.int (0 + (i : Int))))) (some (.sh (.int c))) (some (.sh (.str u))) (some (.sh (.str v))))) ∧ ∀ x ∈ ex ++ [r], InW ws x := fun r fa e1 e2 => by
        refine ⟨?_, fun x hx => ?_⟩
        · rw [appS_is (c := .ow (.list ((rs1 ++ ex).map Ru.d))) e1 rfl rfl rfl hlen, map_snoc, List.append_assoc]
          rfl
        · rcases List.mem_append.mp hx with hx | hx
          · exact hex x hx
          · rw [List.mem_singleton] at hx
            rw [hx]
            exact e2
      by_cases q : c % 3 = 0
      · obtain ⟨y, ey, hy⟩ := sign_at (c / 12)
        obtain ⟨d1, d2⟩ := done (.leaf u ⟨#[y]⟩) (mkT (cons2 (nmP 7) (cons2 (op2 ixD (fun _ => some (.str "ab +")) (op2 modD (op2 fdivD (nmW 6) (fun _ => some (.int 12))) (fun _ => some (.int 4)))) (fun _ => some [])))) (by
          unfold mkT
          rw [cons2_is rfl (cons2_is (op2_is (x := .str "ab +") (y := .int (c / 12 % 4)) rfl (op2_is (x := .int (c / 12)) (y := .int 4) (op2_is (x := .int c) (y := .int 12) rfl rfl rfl) rfl rfl) ey) rfl)]
          rfl) ⟨⟨hws u mu, hy⟩, mu, fun n a b e => by cases e⟩
        refine ⟨_, stR ns b cnt ws (rs1 ++ (ex ++ [.leaf u ⟨#[y]⟩])) (some (.sh (.int (0 + (i : Int))))) (some (.sh (.int c))) (some (.sh (.str u))) (some (.sh (.str v))), rfl, ?_, ex ++ [.leaf u ⟨#[y]⟩], some (.sh (.int (0 + (i : Int)))), some (.sh (.int c)), some (.sh (.str u)), some (.sh (.str v)), d2, by rw [List.length_append, List.length_singleton, hl], rfl⟩
        show seqS _ _ (stR ns b cnt ws (rs1 ++ ex) (some (.sh (.int (0 + (i : Int))))) y6 y7 y8) = _
        rw [seqS_is s1, seqS_is s2, ifS_yes (by rw [t1, decide_eq_true q])]
        exact d1
      · obtain ⟨d1, d2⟩ := done (.fork w u v) (mkT (cons2 (op2 ixD (nmW 3) (op2 modD (op2 fdivD (nmW 6) (fun _ => some (.int 48))) (nmW 2))) (cons2 (nmP 7) (cons2 (nmP 8) (fun _ => some []))))) (by
          unfold mkT
          rw [cons2_is (op2_is (x := .list (ws.map .str)) rfl (op2_is (x := .int (c / 48)) (y := .int cnt) (op2_is (x := .int c) (y := .int 48) rfl rfl rfl) rfl (m1 _)) ew) (cons2_is rfl (cons2_is rfl rfl))]
          rfl) ⟨⟨hws w mw, hws u mu, hws v mv⟩, mw, fun n a b e => by cases e; exact ⟨mu, mv⟩⟩
        refine ⟨_, stR ns b cnt ws (rs1 ++ (ex ++ [.fork w u v])) (some (.sh (.int (0 + (i : Int))))) (some (.sh (.int c))) (some (.sh (.str u))) (some (.sh (.str v))), rfl, ?_, ex ++ [.fork w u v], some (.sh (.int (0 + (i : Int)))), some (.sh (.int c)), some (.sh (.str u)), some (.sh (.str v)), d2, by rw [List.length_append, List.length_singleton, hl], rfl⟩
        show seqS _ _ (stR ns b cnt ws (rs1 ++ ex) (some (.sh (.int (0 + (i : Int))))) y6 y7 y8) = _
        rw [seqS_is s1, seqS_is s2, ifS_no (by rw [t1, decide_eq_false q])]
        exact d1)
  refine rets_nx (ρ' := stR ns b cnt ws (rs1 ++ ex) y4 y6 y7 y8) (by
    show Option.bind (Option.bind (cons2 _ _ (stR ns b cnt ws rs1 x4 x6 none none)) rng1) _ = _
    rw [show Option.bind (cons2 (op2 modD (callS 2 sem__law_at (cons2 (nmP 0) (cons2 (fun _ => some (.int 1)) (fun _ => some [])))) (fun _ => some (.int 10))) (fun _ => some []) (stR ns b cnt ws rs1 x4 x6 none none)) rng1 = some (rngD 0 (n1 % 10).toNat) from hr2]
    exact f2) ?_
  have lw : rs1.length = ws.length := by omega
  have good : ∀ out : List Ru, (∀ r, r ∈ out ↔ r ∈ rs1 ∨ r ∈ ex) → out.length = rs1.length + ex.length → Good out := chain_good ch lw hex (by omega) (by omega)
  have t3 : opT eqD (op2 modD (op2 fdivD (nmW 1) (fun _ => some (.int 4))) (fun _ => some (.int 2))) (fun _ => some (.int 1)) (stR ns b cnt ws (rs1 ++ ex) y4 y6 y7 y8) = some (decide (b / 4 % 2 = 1)) := by
    refine opT_is (x := .int (b / 4 % 2)) (y := .int 1) (op2_is (x := .int (b / 4)) (y := .int 2) (op2_is (x := .int b) (y := .int 4) rfl rfl rfl) rfl rfl) rfl ?_
    unfold eqD
    rw [if_pos ⟨shaped_int, shaped_int⟩, eqv_int]
  by_cases q : b / 4 % 2 = 1
  · refine rets_nx (ρ' := stR ns b cnt ws (rs1 ++ ex).reverse y4 y6 y7 y8) ?_ ⟨.list ((rs1 ++ ex).reverse.map Ru.d), _, rfl, Nat.le_of_ble_eq_true rfl, (rs1 ++ ex).reverse, good _ (fun r => by rw [List.mem_reverse, List.mem_append]) (by rw [List.length_reverse, List.length_append]), rfl⟩
    rw [ifS_yes (by rw [t3, decide_eq_true q])]
    show some (SR.nx _) = _
    rw [← List.map_reverse]
    rfl
  · refine rets_nx (ρ' := stR ns b cnt ws (rs1 ++ ex) y4 y6 y7 y8) ?_ ⟨.list ((rs1 ++ ex).map Ru.d), _, rfl, Nat.le_of_ble_eq_true rfl, rs1 ++ ex, good _ (fun r => List.mem_append) (by rw [List.length_append]), rfl⟩
    rw [ifS_no (by rw [t3, decide_eq_false q])]
end K3

namespace K3
open PySem L2 DS
theorem keys_fin (rs : List Ru) (m : M) : ((fin rs m).map fun kv => kD kv.1) = (uniq (rs.map Ru.hd)).map .str := by
  unfold fin
  rw [List.map_map]
  rfl
theorem ne_same {d : D} (h : SeqAt.shaped d = true) (e : PyData.eqv d d = true) : neD d d = some (.bool false) := by
  unfold neD
  rw [if_pos ⟨h, h⟩, e]
  rfl
abbrev stW (ns : List Int) (rs : List Ru) (m : M) (c4 c5 c6 c7 : Option Cell) : Nv := [some (.sh (.list (ns.map .int))), some (.sh (.list (rs.map Ru.d))), some (.sh (.list (rs.map Ru.d))), some (.sh (mD m)), c4, c5, c6, c7]
/-- the names, one by one -/
theorem walk1 {ns : List Int} {rs : List Ru} {m : M} : ∀ (r2 : List Ru) (acc : List Str) (c5 : Option Cell), (∀ r ∈ r2, r.ok) → (∀ n ∈ acc, okN n) → acc.length + r2.length ≤ 1000 →
    ∃ c5', forS (toNm 5) (ifS (opT ninD' (op2 ixD (nmW 5) (fun _ => some (.int 0))) (nmW 4))
      (appS 4 (op2 ixD (nmW 5) (fun _ => some (.int 0))))
      (fun ρ => some (.nx ρ))) (r2.map Ru.d) (stW ns rs m (some (.ow (.list (acc.map .str)))) c5 none none) = some (.nx (stW ns rs m (some (.ow (.list (((r2.map Ru.hd).foldl addN acc).map .str)))) c5' none none)) ∧ (c5' = c5 ∨ ∃ d, c5' = some (.sh d))
  | [], acc, c5, _, _, _ => ⟨c5, rfl, .inl rfl⟩
  | r :: r2, acc, c5, h1, h2, h3 => by
    have okr := Ru.okhd (h1 r List.mem_cons_self)
    have e0 : op2 ixD (nmW 5) (fun _ => some (.int 0)) (stW ns rs m (some (.ow (.list (acc.map .str)))) (some (.sh r.d)) none none) = some (.str r.hd) := op2_is (x := r.d) (y := .int 0) rfl rfl (ix0 r)
    have t1 : opT ninD' (op2 ixD (nmW 5) (fun _ => some (.int 0))) (nmW 4) (stW ns rs m (some (.ow (.list (acc.map .str)))) (some (.sh r.d)) none none) = some (!decide (r.hd ∈ acc)) := opT_is (y := .list (acc.map .str)) e0 rfl (nin_nm okr h2)
    have h2' : ∀ n ∈ addN acc r.hd, okN n := fun n hn => by
      rcases mem_addN.mp hn with hn | rfl
      · exact h2 n hn
      · exact okr
    have hl : (addN acc r.hd).length ≤ acc.length + 1 := by
      unfold addN
      split
      · omega
      · simp
    rw [List.length_cons] at h3
    obtain ⟨c5', e, hc⟩ := walk1 r2 (addN acc r.hd) (some (.sh r.d)) (fun z hz => h1 z (List.mem_cons_of_mem _ hz)) h2' (by omega)
    refine ⟨c5', ?_, .inr (by rcases hc with rfl | hc; exact ⟨_, rfl⟩; exact hc)⟩
    rw [List.map_cons, forS]
    have s1 : (ifS (opT ninD' (op2 ixD (nmW 5) (fun _ => some (.int 0))) (nmW 4))
      (appS 4 (op2 ixD (nmW 5) (fun _ => some (.int 0))))
      (fun ρ => some (.nx ρ))) (stW ns rs m (some (.ow (.list (acc.map .str)))) (some (.sh r.d)) none none) = some (.nx (stW ns rs m (some (.ow (.list ((addN acc r.hd).map .str)))) (some (.sh r.d)) none none)) := by
      by_cases q : r.hd ∈ acc
      · rw [ifS_no (by rw [t1, decide_eq_true q]; rfl)]
        unfold addN
        rw [if_pos q]
      · rw [ifS_yes (by rw [t1, decide_eq_false q]; rfl), appS_is (c := .ow (.list (acc.map .str))) e0 rfl rfl rfl (by rw [List.length_map]; omega)]
        unfold addN
        rw [if_neg q, List.map_append]
        rfl
    show Option.bind ((ifS _ _ _) (stW ns rs m (some (.ow (.list (acc.map .str)))) (some (.sh r.d)) none none)) _ = _
    rw [s1]
    exact e
/-- what the rules of a name come to -/
theorem lc_costs {ns : List Int} {rs0 : List Ru} {m : M} (h : OkM m) {n : Str} (hn : okN n) (c4 c5 c7 : Option Cell) : ∀ rs : List Ru, (∀ r ∈ rs, r.ok ∧ ∃ c, cost m r = some c) →
    lcD 5 (opT eqD (op2 ixD (nmW 5) (fun _ => some (.int 0))) (nmW 6)) (callS 2 sem__law_comes_to (cons2 (nmP 3) (cons2 (nmP 5) (fun _ => some [])))) (stW ns rs0 m c4 c5 (some (.sh (.str n))) c7) (rs.map Ru.d) = some (((rs.filter fun r => decide (r.hd = n)).map fun r => (cost m r).getD 0).map .int)
  | [], _ => rfl
  | r :: rs, hs => by
    obtain ⟨hr, c, hc⟩ := hs r List.mem_cons_self
    have ih := lc_costs (ns := ns) (rs0 := rs0) h hn c4 c5 c7 rs fun z hz => hs z (List.mem_cons_of_mem _ hz)
    rw [List.map_cons, lcD]
    have t1 : opT eqD (op2 ixD (nmW 5) (fun _ => some (.int 0))) (nmW 6) (stW ns rs0 m c4 (some (.sh r.d)) (some (.sh (.str n))) c7) = some (decide (r.hd = n)) := by
      refine opT_is (x := .str r.hd) (y := .str n) (op2_is (x := r.d) (y := .int 0) rfl rfl (ix0 r)) rfl ?_
      unfold eqD
      rw [if_pos ⟨shaped_nm (Ru.okhd hr), shaped_nm hn⟩, eqv_str]
    have e1 : callS 2 sem__law_comes_to (cons2 (nmP 3) (cons2 (nmP 5) (fun _ => some []))) (stW ns rs0 m c4 (some (.sh r.d)) (some (.sh (.str n))) c7) = some (.int c) := callS_is (cons2_is rfl (cons2_is rfl rfl)) rfl (comes_is h hc)
    show Option.bind (opT eqD _ _ (stW ns rs0 m c4 (some (.sh r.d)) (some (.sh (.str n))) c7)) _ = _
    rw [t1, Option.bind_some, List.filter_cons]
    by_cases q : r.hd = n
    · rw [if_pos (decide_eq_true q), if_pos (decide_eq_true q)]
      show Option.bind (callS 2 _ _ (stW ns rs0 m c4 (some (.sh r.d)) (some (.sh (.str n))) c7)) _ = _
      rw [e1]
      show Option.map _ (lcD 5 _ _ _ _) = _
      rw [ih, List.map_cons, hc]
      rfl
    · rw [if_neg (by rw [decide_eq_false q]; exact Bool.false_ne_true), if_neg (by rw [decide_eq_false q]; exact Bool.false_ne_true)]
      exact ih
theorem intsD_map : ∀ ns : List Int, intsD (ns.map .int) = some ns
  | [] => rfl
  | n :: r => by
    show (intsD (r.map .int)).map _ = _
    rw [intsD_map r]
    rfl
theorem law_is (ns : List Int) : ∃ d, sem_law [.list (ns.map .int)] = some (.ret d false []) ∧ d = .bool true := by
  obtain ⟨n0, h0⟩ := call_at ns 0 (by decide) []
  obtain ⟨d, hr, rs, G, rfl⟩ := rules_is ns n0
  obtain ⟨m0, I, S, hs⟩ := short_is G
  have al := all_in G S
  have okF := fin_ok I.ok al
  have hnm := names_is (rs := rs) (by have := G.le; omega)
  generalize hM : fin rs m0 = m at hs okF
  have lk : ∀ n ∈ rs.map Ru.hd, look m n = look m0 n := fun n hn => by
    rw [← hM]
    exact fin_look al hn
  have ck : ∀ r ∈ rs, ∃ c, cost m r = some c ∧ cost m0 r = some c := fun r hr => by
    obtain ⟨h1, c, h2⟩ := fin_cost G al hr
    rw [hM] at h1
    exact ⟨c, by rw [h1, h2], h2⟩
  unfold sem_law
  refine sem_rets rfl ?_
  unfold g_law
  refine rets_nx (setS_is (callS_is (cons2_is rfl (cons2_is (h0 _) rfl)) rfl hr)) ?_
  refine rets_nx (ρ' := [some (.sh (.list (ns.map .int))), some (.sh (.list (rs.map Ru.d))), some (.sh (.list (rs.map Ru.d))), none, none, none, none, none]) rfl ?_
  refine rets_nx (setS_is (callS_is (cons2_is rfl rfl) rfl hs)) ?_
  refine rets_nx (ρ' := stW ns rs m (some (.ow (.list (([] : List Str).map .str)))) none none none) rfl ?_
  have hu := len_uniq (rs.map Ru.hd)
  rw [List.length_map] at hu
  have gle := G.le
  obtain ⟨c5, w1, hc5⟩ := walk1 (ns := ns) (rs := rs) (m := m) rs [] none G.ok (fun _ h => by cases h) (by simp; omega)
  refine rets_nx (ρ' := stW ns rs m (some (.ow (.list ((uniq (rs.map Ru.hd)).map .str)))) c5 none none) w1 ?_
  have oku := heads_ok G
  have shu : SeqAt.shaped (.list ((uniq (rs.map Ru.hd)).map .str)) = true := shaped_nms oku
  refine rets_ifr (b := false) ?_ (fun z => by cases z) fun _ => ?_
  · have b1 : notT (fun ρ => ((fun ρ => ((nmW 3) ρ).map fun d => .bool (isiB "dict" d)) ρ).bind truD) (stW ns rs m (some (.ow (.list ((uniq (rs.map Ru.hd)).map .str)))) c5 none none) = some false := rfl
    have b2 : opT neD (callD listKD (cons2 (nmW 3) (fun _ => some []))) (nmW 4) (stW ns rs m (some (.ow (.list ((uniq (rs.map Ru.hd)).map .str)))) c5 none none) = some false := by
      refine opT_is (x := .list ((uniq (rs.map Ru.hd)).map .str)) (y := .list ((uniq (rs.map Ru.hd)).map .str)) ?_ rfl (ne_same shu (eqv_strs _))
      unfold callD
      rw [cons2_is (d := mD m) (ds := []) rfl rfl]
      show (decK (m.map enK)).map _ = _
      rw [decK_en okF.flat, ← keys_fin rs m0, hM]
      rfl
    have b3 : opT neD (nmW 2) (nmW 1) (stW ns rs m (some (.ow (.list ((uniq (rs.map Ru.hd)).map .str)))) c5 none none) = some false := opT_is (x := .list (rs.map Ru.d)) (y := .list (rs.map Ru.d)) rfl rfl (ne_same (shaped_rules G.ok) (eqv_rules rs))
    have b4 : opT neD (callS 1 sem_names_of (cons2 (nmP 2) (fun _ => some []))) (nmW 4) (stW ns rs m (some (.ow (.list ((uniq (rs.map Ru.hd)).map .str)))) c5 none none) = some false :=
      opT_is (x := .list ((uniq (rs.map Ru.hd)).map .str)) (y := .list ((uniq (rs.map Ru.hd)).map .str)) (callS_is (cons2_is rfl rfl) rfl hnm) rfl (ne_same shu (eqv_strs _))
    unfold orT
    rw [b1, Option.bind_some, if_neg (by decide), b2, Option.bind_some, if_neg (by decide), b3, Option.bind_some, if_neg (by decide), b4]
  -- whole numbers from 1 on
  have goodn : ∀ n ∈ uniq (rs.map Ru.hd), ∃ i, look m n = some i ∧ 1 ≤ i ∧ look m0 n = some i ∧ n ∈ rs.map Ru.hd := fun n hn => by
    have hn' := mem_uniq.mp hn
    obtain ⟨i, hi⟩ := al n hn'
    exact ⟨i, by rw [lk n hn', hi], I.ok.pos hi, hi, hn'⟩
  obtain ⟨ρ6, f6, c6, rfl⟩ : ∃ ρ6, _ ∧ ∃ c6, ρ6 = stW ns rs m (some (.sh (.list ((uniq (rs.map Ru.hd)).map .str)))) c5 c6 none := forS_all (a := toNm 6) (g := ifS (orT (notT (fun ρ => ((fun ρ => ((op2 getKD (nmW 3) (nmW 6)) ρ).map fun d => .bool (isiB "int" d)) ρ).bind truD)) (orT (fun ρ => ((fun ρ => ((op2 getKD (nmW 3) (nmW 6)) ρ).map fun d => .bool (isiB "bool" d)) ρ).bind truD) (opT ltD (op2 getKD (nmW 3) (nmW 6)) (fun _ => some (.int 1)))))
      (fun ρ => ((fun _ => some (.bool false)) ρ).map fun d => .rt d false ρ)
      (fun ρ => some (.nx ρ))) (I := fun ρ => ∃ c6, ρ = stW ns rs m (some (.sh (.list ((uniq (rs.map Ru.hd)).map .str)))) c5 c6 none) ((uniq (rs.map Ru.hd)).map .str) (stW ns rs m (some (.sh (.list ((uniq (rs.map Ru.hd)).map .str)))) c5 none none) ⟨none, rfl⟩ (fun d hd ρ ⟨c6, e⟩ => by
      subst e
      obtain ⟨n, hn, rfl⟩ := List.mem_map.mp hd
      obtain ⟨i, g1, g2, _⟩ := goodn n hn
      refine ⟨_, stW ns rs m (some (.sh (.list ((uniq (rs.map Ru.hd)).map .str)))) c5 (some (.sh (.str n))) none, rfl, ?_, some (.sh (.str n)), rfl⟩
      have eg : op2 getKD (nmW 3) (nmW 6) (stW ns rs m (some (.sh (.list ((uniq (rs.map Ru.hd)).map .str)))) c5 (some (.sh (.str n))) none) = some (.int i) := op2_is (x := mD m) (y := .str n) rfl rfl (get_is okF g1)
      show ifS _ _ _ (stW ns rs m (some (.sh (.list ((uniq (rs.map Ru.hd)).map .str)))) c5 (some (.sh (.str n))) none) = _
      rw [ifS_no]
      have b1 : opT ltD (op2 getKD (nmW 3) (nmW 6)) (fun _ => some (.int 1)) (stW ns rs m (some (.sh (.list ((uniq (rs.map Ru.hd)).map .str)))) c5 (some (.sh (.str n))) none) = some false := by
        refine opT_is (x := .int i) (y := .int 1) eg rfl ?_
        show some (PyData.bool (decide (i < 1))) = _
        rw [decide_eq_false (by omega)]
      unfold orT notT
      simp only [eg, b1, Option.map_some, Option.bind_some]
      rfl)
  refine rets_nx (ρ' := stW ns rs m (some (.sh (.list ((uniq (rs.map Ru.hd)).map .str)))) c5 c6 none) f6 ?_
  -- the least of what its rules come to
  obtain ⟨ρ7, f7, y6, y7, rfl⟩ : ∃ ρ7, _ ∧ ∃ y6 y7, ρ7 = stW ns rs m (some (.sh (.list ((uniq (rs.map Ru.hd)).map .str)))) c5 y6 y7 := forS_all (a := toNm 6) (g := seqS (setS 7 (lcV 5 (fun ρ => ((nmP 1) ρ).bind asL) (opT eqD (op2 ixD (nmW 5) (fun _ => some (.int 0))) (nmW 6)) (callS 2 sem__law_comes_to (cons2 (nmP 3) (cons2 (nmP 5) (fun _ => some []))))))
    (ifS (opT neD (callD minD (cons2 (nmW 7) (fun _ => some []))) (op2 getKD (nmW 3) (nmW 6)))
      (fun ρ => ((fun _ => some (.bool false)) ρ).map fun d => .rt d false ρ)
      (fun ρ => some (.nx ρ)))) (I := fun ρ => ∃ y6 y7, ρ = stW ns rs m (some (.sh (.list ((uniq (rs.map Ru.hd)).map .str)))) c5 y6 y7) ((uniq (rs.map Ru.hd)).map .str) (stW ns rs m (some (.sh (.list ((uniq (rs.map Ru.hd)).map .str)))) c5 c6 none) ⟨c6, none, rfl⟩ (fun d hd ρ ⟨y6, y7, e⟩ => by
      subst e
      obtain ⟨n, hn, rfl⟩ := List.mem_map.mp hd
      obtain ⟨i, g1, g2, g3, g4⟩ := goodn n hn
      have cs := lc_costs (ns := ns) (rs0 := rs) okF (oku n hn) (some (.sh (.list ((uniq (rs.map Ru.hd)).map .str)))) c5 y7 rs (fun r hr => ⟨G.ok r hr, by obtain ⟨c, h1, _⟩ := ck r hr; exact ⟨c, h1⟩⟩)
      generalize hL : ((rs.filter fun r => decide (r.hd = n)).map fun r => (cost m r).getD 0) = L at cs
      have e1 : lcV 5 (fun ρ => ((nmP 1) ρ).bind asL) (opT eqD (op2 ixD (nmW 5) (fun _ => some (.int 0))) (nmW 6)) (callS 2 sem__law_comes_to (cons2 (nmP 3) (cons2 (nmP 5) (fun _ => some [])))) (stW ns rs m (some (.sh (.list ((uniq (rs.map Ru.hd)).map .str)))) c5 (some (.sh (.str n))) y7) = some (.list (L.map .int)) := by
        unfold lcV
        show (if _ then _ else _) = _
        have nm : noMine (stW ns rs m (some (.sh (.list ((uniq (rs.map Ru.hd)).map .str)))) c5 (some (.sh (.str n))) y7) 5 = true := by
          rcases hc5 with rfl | ⟨z, rfl⟩ <;> rfl
        rw [if_pos ⟨nm, by rw [List.length_map]; omega⟩, cs]
        rfl
      -- the least is what was found
      have inL : i ∈ L := by
        obtain ⟨r, hr, hh, c, hc, hci⟩ := I.by_ n i g3
        obtain ⟨i', hi', hle⟩ := S r hr c hc
        rw [hh, g3] at hi'
        cases hi'
        have : c = i := by omega
        subst this
        rw [← hL]
        refine List.mem_map.mpr ⟨r, List.mem_filter.mpr ⟨hr, by rw [hh]; exact decide_eq_true rfl⟩, ?_⟩
        obtain ⟨c', h1, h2⟩ := ck r hr
        rw [hc] at h2
        cases h2
        rw [h1]
        rfl
      have leL : ∀ y ∈ L, i ≤ y := fun y hy => by
        rw [← hL] at hy
        obtain ⟨r, hr, rfl⟩ := List.mem_map.mp hy
        obtain ⟨hr1, hr2⟩ := List.mem_filter.mp hr
        have hh : r.hd = n := of_decide_eq_true hr2
        obtain ⟨c, h1, h2⟩ := ck r hr1
        obtain ⟨i', hi', hle⟩ := S r hr1 c h2
        rw [hh, g3] at hi'
        cases hi'
        rw [h1]
        exact hle
      have em : minD [.list (L.map .int)] = some (.int i) := by
        show (intsD (L.map .int)).bind _ = _
        rw [intsD_map]
        show (leastD L).map _ = _
        cases hz : leastD L with
        | none =>
          cases L with
          | nil => cases inL
          | cons a b => cases hz
        | some z =>
          obtain ⟨k1, k2⟩ := leastD_is hz
          rw [least_uniq k1 k2 inL leL]
          rfl
      refine ⟨_, stW ns rs m (some (.sh (.list ((uniq (rs.map Ru.hd)).map .str)))) c5 (some (.sh (.str n))) (some (.sh (.list (L.map .int)))), rfl, ?_, some (.sh (.str n)), some (.sh (.list (L.map .int))), rfl⟩
      show seqS _ _ (stW ns rs m (some (.sh (.list ((uniq (rs.map Ru.hd)).map .str)))) c5 (some (.sh (.str n))) y7) = _
      rw [seqS_is (ρ' := stW ns rs m (some (.sh (.list ((uniq (rs.map Ru.hd)).map .str)))) c5 (some (.sh (.str n))) (some (.sh (.list (L.map .int))))) (setS_is e1), ifS_no]
      refine opT_is (x := .int i) (y := .int i) ?_ (op2_is (x := mD m) (y := .str n) rfl rfl (get_is okF g1)) (ne_same shaped_int (by rw [eqv_int]; exact decide_eq_true rfl))
      unfold callD
      rw [cons2_is (d := .list (L.map .int)) (ds := []) rfl rfl]
      exact em)
  refine rets_nx (ρ' := stW ns rs m (some (.sh (.list ((uniq (rs.map Ru.hd)).map .str)))) c5 y6 y7) f7 ⟨.bool true, _, rfl, Nat.le_of_ble_eq_true rfl, rfl⟩
end K3

namespace K3
open PySem L2 DS
theorem law_sem : ∀ ds o, semLaw 63 ds = some o → sem_law ds = some o := by
  intro ds o h
  unfold semLaw at h
  split at h
  · rename_i hx
    obtain ⟨ns, rfl, _⟩ := hx
    cases h
    obtain ⟨d, e, rfl⟩ := law_is ns
    exact e
  · cases h
theorem all_mk {l : PySem.W.OpenLaw} {w : World} {K : PySem.W.Frag} {h : Heap} {mg : Str → Option Value} {fa : Addr} {f_is_sign : Addr} {od_is_sign an_is_sign : Option Addr} {sl_is_sign : Array (Option Value)} {oc_is_sign kV_is_sign dc_is_sign pm_is_sign ct_is_sign : Value} {cd_is_sign : Value}
    {f_is_name : Addr} {od_is_name an_is_name : Option Addr} {sl_is_name : Array (Option Value)} {oc_is_name kV_is_name dc_is_name pm_is_name ct_is_name : Value} {c_is_name P_is_name : Addr} {og_is_name : Value} {oh_is_name : Option Addr} {vs_is_name : Array Value} {oi_is_name : Array (Option Value)}
    {f_is_rule : Addr} {od_is_rule an_is_rule : Option Addr} {sl_is_rule : Array (Option Value)} {oc_is_rule kV_is_rule dc_is_rule pm_is_rule ct_is_rule : Value} {c_is_rule P_is_rule : Addr} {og_is_rule : Value} {oh_is_rule : Option Addr} {vs_is_rule : Array Value} {oi_is_rule : Array (Option Value)}
    {f_is_fork_rule : Addr} {od_is_fork_rule an_is_fork_rule : Option Addr} {sl_is_fork_rule : Array (Option Value)} {oc_is_fork_rule kV_is_fork_rule dc_is_fork_rule pm_is_fork_rule ct_is_fork_rule : Value} {cd_is_fork_rule : Value}
    {f_need_only_rules : Addr} {od_need_only_rules an_need_only_rules : Option Addr} {sl_need_only_rules : Array (Option Value)} {oc_need_only_rules kV_need_only_rules dc_need_only_rules pm_need_only_rules ct_need_only_rules : Value} {cd_need_only_rules : Value}
    {f_names_of : Addr} {od_names_of an_names_of : Option Addr} {sl_names_of : Array (Option Value)} {oc_names_of kV_names_of dc_names_of pm_names_of ct_names_of : Value} {cd_names_of : Value}
    {f_need_known_names : Addr} {od_need_known_names an_need_known_names : Option Addr} {sl_need_known_names : Array (Option Value)} {oc_need_known_names kV_need_known_names dc_need_known_names pm_need_known_names ct_need_known_names : Value} {cd_need_known_names : Value}
    {f_length_by : Addr} {od_length_by an_length_by : Option Addr} {sl_length_by : Array (Option Value)} {oc_length_by kV_length_by dc_length_by pm_length_by ct_length_by : Value} {cd_length_by : Value}
    {f_keep_lesser : Addr} {od_keep_lesser an_keep_lesser : Option Addr} {sl_keep_lesser : Array (Option Value)} {oc_keep_lesser kV_keep_lesser dc_keep_lesser pm_keep_lesser ct_keep_lesser : Value} {cd_keep_lesser : Value}
    {f_lengths_of : Addr} {od_lengths_of an_lengths_of : Option Addr} {sl_lengths_of : Array (Option Value)} {oc_lengths_of kV_lengths_of dc_lengths_of pm_lengths_of ct_lengths_of : Value} {cd_lengths_of : Value}
    {f_need_ends : Addr} {od_need_ends an_need_ends : Option Addr} {sl_need_ends : Array (Option Value)} {oc_need_ends kV_need_ends dc_need_ends pm_need_ends ct_need_ends : Value} {cd_need_ends : Value}
    {f_need_rules : Addr} {od_need_rules an_need_rules : Option Addr} {sl_need_rules : Array (Option Value)} {oc_need_rules kV_need_rules dc_need_rules pm_need_rules ct_need_rules : Value} {cd_need_rules : Value}
    {f_shortest : Addr} {od_shortest an_shortest : Option Addr} {sl_shortest : Array (Option Value)} {oc_shortest kV_shortest dc_shortest pm_shortest ct_shortest : Value} {cd_shortest : Value}
    {f__law_at : Addr} {od__law_at an__law_at : Option Addr} {sl__law_at : Array (Option Value)} {oc__law_at kV__law_at dc__law_at pm__law_at ct__law_at : Value} {cd__law_at : Value}
    {f__law_word : Addr} {od__law_word an__law_word : Option Addr} {sl__law_word : Array (Option Value)} {oc__law_word kV__law_word dc__law_word pm__law_word ct__law_word : Value} {cd__law_word : Value}
    {f__law_rules : Addr} {od__law_rules an__law_rules : Option Addr} {sl__law_rules : Array (Option Value)} {oc__law_rules kV__law_rules dc__law_rules pm__law_rules ct__law_rules : Value} {cd__law_rules : Value}
    {f__law_comes_to : Addr} {od__law_comes_to an__law_comes_to : Option Addr} {sl__law_comes_to : Array (Option Value)} {oc__law_comes_to kV__law_comes_to dc__law_comes_to pm__law_comes_to ct__law_comes_to : Value} {cd__law_comes_to : Value}
    {f_law : Addr} {od_law an_law : Option Addr} {sl_law : Array (Option Value)} {oc_law kV_law dc_law pm_law ct_law : Value} {cd_law : Value}
    {tk_BLANK : Tok} {tk_MOST_LETTERS : Tok} {tk_MOST_RULES : Tok} {tk_PERCENT : Tok} {tk_TILDE : Tok}
    (X : K.In h) (G : h.Ns mainGlobals mg) (hfa : mg "law" = some (.ref fa)) (TF : ∀ (x : Str) (c P : Addr), x ∈ (["is_name", "is_rule"] : List Str) → PySem.W.tabIn K x = some (c, P) → PySem.W.CodeHd h c P ∧ h.get? P = some { cls := .none, data := .fields #[] })
    (a_is_sign : PySem.W.nsIn K mainGlobals "is_sign" = some (some (.ref f_is_sign))) (l_is_sign : K.lookup f_is_sign = some ⟨oc_is_sign, od_is_sign, .func (PySem.W.fnOf "is_sign" "is_sign" (defArgs s_is_sign) (defBody s_is_sign) (defScope s_is_sign) .none kV_is_sign dc_is_sign pm_is_sign an_is_sign cd_is_sign ct_is_sign), sl_is_sign⟩) (q_is_sign : PySem.W.codeIn K cd_is_sign "is_sign" = true) (k_is_sign : PySem.W.keepIn K (.ref f_is_sign) = true)
    (a_is_name : PySem.W.nsIn K mainGlobals "is_name" = some (some (.ref f_is_name))) (l_is_name : K.lookup f_is_name = some ⟨oc_is_name, od_is_name, .func (PySem.W.fnOf "is_name" "is_name" (defArgs s_is_name) (defBody s_is_name) (defScope s_is_name) .none kV_is_name dc_is_name pm_is_name an_is_name (.ref c_is_name) ct_is_name), sl_is_name⟩) (q_is_name : PySem.W.codeIn K (.ref c_is_name) "is_name" = true) (k_is_name : PySem.W.keepIn K (.ref f_is_name) = true)
    (g_is_name : K.lookup c_is_name = some ⟨og_is_name, oh_is_name, .fields vs_is_name, oi_is_name⟩) (v_is_name : vs_is_name[11]? = some (.ref P_is_name)) (n_is_name : K.lookup P_is_name = none)
    (a_is_rule : PySem.W.nsIn K mainGlobals "is_rule" = some (some (.ref f_is_rule))) (l_is_rule : K.lookup f_is_rule = some ⟨oc_is_rule, od_is_rule, .func (PySem.W.fnOf "is_rule" "is_rule" (defArgs s_is_rule) (defBody s_is_rule) (defScope s_is_rule) .none kV_is_rule dc_is_rule pm_is_rule an_is_rule (.ref c_is_rule) ct_is_rule), sl_is_rule⟩) (q_is_rule : PySem.W.codeIn K (.ref c_is_rule) "is_rule" = true) (k_is_rule : PySem.W.keepIn K (.ref f_is_rule) = true)
    (g_is_rule : K.lookup c_is_rule = some ⟨og_is_rule, oh_is_rule, .fields vs_is_rule, oi_is_rule⟩) (v_is_rule : vs_is_rule[11]? = some (.ref P_is_rule)) (n_is_rule : K.lookup P_is_rule = none)
    (a_is_fork_rule : PySem.W.nsIn K mainGlobals "is_fork_rule" = some (some (.ref f_is_fork_rule))) (l_is_fork_rule : K.lookup f_is_fork_rule = some ⟨oc_is_fork_rule, od_is_fork_rule, .func (PySem.W.fnOf "is_fork_rule" "is_fork_rule" (defArgs s_is_fork_rule) (defBody s_is_fork_rule) (defScope s_is_fork_rule) .none kV_is_fork_rule dc_is_fork_rule pm_is_fork_rule an_is_fork_rule cd_is_fork_rule ct_is_fork_rule), sl_is_fork_rule⟩) (q_is_fork_rule : PySem.W.codeIn K cd_is_fork_rule "is_fork_rule" = true) (k_is_fork_rule : PySem.W.keepIn K (.ref f_is_fork_rule) = true)
    (a_need_only_rules : PySem.W.nsIn K mainGlobals "need_only_rules" = some (some (.ref f_need_only_rules))) (l_need_only_rules : K.lookup f_need_only_rules = some ⟨oc_need_only_rules, od_need_only_rules, .func (PySem.W.fnOf "need_only_rules" "need_only_rules" (defArgs s_need_only_rules) (defBody s_need_only_rules) (defScope s_need_only_rules) .none kV_need_only_rules dc_need_only_rules pm_need_only_rules an_need_only_rules cd_need_only_rules ct_need_only_rules), sl_need_only_rules⟩) (q_need_only_rules : PySem.W.codeIn K cd_need_only_rules "need_only_rules" = true) (k_need_only_rules : PySem.W.keepIn K (.ref f_need_only_rules) = true)
    (a_names_of : PySem.W.nsIn K mainGlobals "names_of" = some (some (.ref f_names_of))) (l_names_of : K.lookup f_names_of = some ⟨oc_names_of, od_names_of, .func (PySem.W.fnOf "names_of" "names_of" (defArgs s_names_of) (defBody s_names_of) (defScope s_names_of) .none kV_names_of dc_names_of pm_names_of an_names_of cd_names_of ct_names_of), sl_names_of⟩) (q_names_of : PySem.W.codeIn K cd_names_of "names_of" = true) (k_names_of : PySem.W.keepIn K (.ref f_names_of) = true)
    (a_need_known_names : PySem.W.nsIn K mainGlobals "need_known_names" = some (some (.ref f_need_known_names))) (l_need_known_names : K.lookup f_need_known_names = some ⟨oc_need_known_names, od_need_known_names, .func (PySem.W.fnOf "need_known_names" "need_known_names" (defArgs s_need_known_names) (defBody s_need_known_names) (defScope s_need_known_names) .none kV_need_known_names dc_need_known_names pm_need_known_names an_need_known_names cd_need_known_names ct_need_known_names), sl_need_known_names⟩) (q_need_known_names : PySem.W.codeIn K cd_need_known_names "need_known_names" = true) (k_need_known_names : PySem.W.keepIn K (.ref f_need_known_names) = true)
    (a_length_by : PySem.W.nsIn K mainGlobals "length_by" = some (some (.ref f_length_by))) (l_length_by : K.lookup f_length_by = some ⟨oc_length_by, od_length_by, .func (PySem.W.fnOf "length_by" "length_by" (defArgs s_length_by) (defBody s_length_by) (defScope s_length_by) .none kV_length_by dc_length_by pm_length_by an_length_by cd_length_by ct_length_by), sl_length_by⟩) (q_length_by : PySem.W.codeIn K cd_length_by "length_by" = true) (k_length_by : PySem.W.keepIn K (.ref f_length_by) = true)
    (a_keep_lesser : PySem.W.nsIn K mainGlobals "keep_lesser" = some (some (.ref f_keep_lesser))) (l_keep_lesser : K.lookup f_keep_lesser = some ⟨oc_keep_lesser, od_keep_lesser, .func (PySem.W.fnOf "keep_lesser" "keep_lesser" (defArgs s_keep_lesser) (defBody s_keep_lesser) (defScope s_keep_lesser) .none kV_keep_lesser dc_keep_lesser pm_keep_lesser an_keep_lesser cd_keep_lesser ct_keep_lesser), sl_keep_lesser⟩) (q_keep_lesser : PySem.W.codeIn K cd_keep_lesser "keep_lesser" = true) (k_keep_lesser : PySem.W.keepIn K (.ref f_keep_lesser) = true)
    (a_lengths_of : PySem.W.nsIn K mainGlobals "lengths_of" = some (some (.ref f_lengths_of))) (l_lengths_of : K.lookup f_lengths_of = some ⟨oc_lengths_of, od_lengths_of, .func (PySem.W.fnOf "lengths_of" "lengths_of" (defArgs s_lengths_of) (defBody s_lengths_of) (defScope s_lengths_of) .none kV_lengths_of dc_lengths_of pm_lengths_of an_lengths_of cd_lengths_of ct_lengths_of), sl_lengths_of⟩) (q_lengths_of : PySem.W.codeIn K cd_lengths_of "lengths_of" = true) (k_lengths_of : PySem.W.keepIn K (.ref f_lengths_of) = true)
    (a_need_ends : PySem.W.nsIn K mainGlobals "need_ends" = some (some (.ref f_need_ends))) (l_need_ends : K.lookup f_need_ends = some ⟨oc_need_ends, od_need_ends, .func (PySem.W.fnOf "need_ends" "need_ends" (defArgs s_need_ends) (defBody s_need_ends) (defScope s_need_ends) .none kV_need_ends dc_need_ends pm_need_ends an_need_ends cd_need_ends ct_need_ends), sl_need_ends⟩) (q_need_ends : PySem.W.codeIn K cd_need_ends "need_ends" = true) (k_need_ends : PySem.W.keepIn K (.ref f_need_ends) = true)
    (a_need_rules : PySem.W.nsIn K mainGlobals "need_rules" = some (some (.ref f_need_rules))) (l_need_rules : K.lookup f_need_rules = some ⟨oc_need_rules, od_need_rules, .func (PySem.W.fnOf "need_rules" "need_rules" (defArgs s_need_rules) (defBody s_need_rules) (defScope s_need_rules) .none kV_need_rules dc_need_rules pm_need_rules an_need_rules cd_need_rules ct_need_rules), sl_need_rules⟩) (q_need_rules : PySem.W.codeIn K cd_need_rules "need_rules" = true) (k_need_rules : PySem.W.keepIn K (.ref f_need_rules) = true)
    (a_shortest : PySem.W.nsIn K mainGlobals "shortest" = some (some (.ref f_shortest))) (l_shortest : K.lookup f_shortest = some ⟨oc_shortest, od_shortest, .func (PySem.W.fnOf "shortest" "shortest" (defArgs s_shortest) (defBody s_shortest) (defScope s_shortest) .none kV_shortest dc_shortest pm_shortest an_shortest cd_shortest ct_shortest), sl_shortest⟩) (q_shortest : PySem.W.codeIn K cd_shortest "shortest" = true) (k_shortest : PySem.W.keepIn K (.ref f_shortest) = true)
    (a__law_at : PySem.W.nsIn K mainGlobals "_law_at" = some (some (.ref f__law_at))) (l__law_at : K.lookup f__law_at = some ⟨oc__law_at, od__law_at, .func (PySem.W.fnOf "_law_at" "_law_at" (defArgs s__law_at) (defBody s__law_at) (defScope s__law_at) .none kV__law_at dc__law_at pm__law_at an__law_at cd__law_at ct__law_at), sl__law_at⟩) (q__law_at : PySem.W.codeIn K cd__law_at "_law_at" = true) (k__law_at : PySem.W.keepIn K (.ref f__law_at) = true)
    (a__law_word : PySem.W.nsIn K mainGlobals "_law_word" = some (some (.ref f__law_word))) (l__law_word : K.lookup f__law_word = some ⟨oc__law_word, od__law_word, .func (PySem.W.fnOf "_law_word" "_law_word" (defArgs s__law_word) (defBody s__law_word) (defScope s__law_word) .none kV__law_word dc__law_word pm__law_word an__law_word cd__law_word ct__law_word), sl__law_word⟩) (q__law_word : PySem.W.codeIn K cd__law_word "_law_word" = true) (k__law_word : PySem.W.keepIn K (.ref f__law_word) = true)
    (a__law_rules : PySem.W.nsIn K mainGlobals "_law_rules" = some (some (.ref f__law_rules))) (l__law_rules : K.lookup f__law_rules = some ⟨oc__law_rules, od__law_rules, .func (PySem.W.fnOf "_law_rules" "_law_rules" (defArgs s__law_rules) (defBody s__law_rules) (defScope s__law_rules) .none kV__law_rules dc__law_rules pm__law_rules an__law_rules cd__law_rules ct__law_rules), sl__law_rules⟩) (q__law_rules : PySem.W.codeIn K cd__law_rules "_law_rules" = true) (k__law_rules : PySem.W.keepIn K (.ref f__law_rules) = true)
    (a__law_comes_to : PySem.W.nsIn K mainGlobals "_law_comes_to" = some (some (.ref f__law_comes_to))) (l__law_comes_to : K.lookup f__law_comes_to = some ⟨oc__law_comes_to, od__law_comes_to, .func (PySem.W.fnOf "_law_comes_to" "_law_comes_to" (defArgs s__law_comes_to) (defBody s__law_comes_to) (defScope s__law_comes_to) .none kV__law_comes_to dc__law_comes_to pm__law_comes_to an__law_comes_to cd__law_comes_to ct__law_comes_to), sl__law_comes_to⟩) (q__law_comes_to : PySem.W.codeIn K cd__law_comes_to "_law_comes_to" = true) (k__law_comes_to : PySem.W.keepIn K (.ref f__law_comes_to) = true)
    (a_law : PySem.W.nsIn K mainGlobals "law" = some (some (.ref f_law))) (l_law : K.lookup f_law = some ⟨oc_law, od_law, .func (PySem.W.fnOf "law" "law" (defArgs s_law) (defBody s_law) (defScope s_law) .none kV_law dc_law pm_law an_law cd_law ct_law), sl_law⟩) (q_law : PySem.W.codeIn K cd_law "law" = true) (k_law : PySem.W.keepIn K (.ref f_law) = true)
    (z_all : PySem.W.nsIn K mainGlobals "all" = some none) (z_bool : PySem.W.nsIn K mainGlobals "bool" = some none) (z_dict : PySem.W.nsIn K mainGlobals "dict" = some none) (z_enumerate : PySem.W.nsIn K mainGlobals "enumerate" = some none) (z_int : PySem.W.nsIn K mainGlobals "int" = some none) (z_isinstance : PySem.W.nsIn K mainGlobals "isinstance" = some none) (z_len : PySem.W.nsIn K mainGlobals "len" = some none) (z_list : PySem.W.nsIn K mainGlobals "list" = some none) (z_min : PySem.W.nsIn K mainGlobals "min" = some none) (z_ord : PySem.W.nsIn K mainGlobals "ord" = some none) (z_range : PySem.W.nsIn K mainGlobals "range" = some none) (z_str : PySem.W.nsIn K mainGlobals "str" = some none) (z_tuple : PySem.W.nsIn K mainGlobals "tuple" = some none)
    (i_BLANK : PySem.W.nsIn K mainGlobals "BLANK" = some (some (.int 32 tk_BLANK))) (i_MOST_LETTERS : PySem.W.nsIn K mainGlobals "MOST_LETTERS" = some (some (.int 12 tk_MOST_LETTERS))) (i_MOST_RULES : PySem.W.nsIn K mainGlobals "MOST_RULES" = some (some (.int 40 tk_MOST_RULES))) (i_PERCENT : PySem.W.nsIn K mainGlobals "PERCENT" = some (some (.int 37 tk_PERCENT))) (i_TILDE : PySem.W.nsIn K mainGlobals "TILDE" = some (some (.int 126 tk_TILDE)))
    : LamX.LawAtS l w K CX0 8 63 "_law_script" mg fa h := by
  have e := hfa.symm.trans (PySem.W.mg_of X G a_law)
  cases e
  have B : Blts mg := ⟨PySem.W.mg_none_of X G z_all, PySem.W.mg_none_of X G z_bool, PySem.W.mg_none_of X G z_dict, PySem.W.mg_none_of X G z_enumerate, PySem.W.mg_none_of X G z_int, PySem.W.mg_none_of X G z_isinstance, PySem.W.mg_none_of X G z_len, PySem.W.mg_none_of X G z_list, PySem.W.mg_none_of X G z_min, PySem.W.mg_none_of X G z_ord, PySem.W.mg_none_of X G z_range, PySem.W.mg_none_of X G z_str, PySem.W.mg_none_of X G z_tuple, ⟨_, PySem.W.mg_of X G i_BLANK⟩, ⟨_, PySem.W.mg_of X G i_MOST_LETTERS⟩, ⟨_, PySem.W.mg_of X G i_MOST_RULES⟩, ⟨_, PySem.W.mg_of X G i_PERCENT⟩, ⟨_, PySem.W.mg_of X G i_TILDE⟩⟩
  have T_is_name := TF "is_name" _ _ (by simp) (tab_is a_is_name l_is_name rfl g_is_name v_is_name)
  have T_is_rule := TF "is_rule" _ _ (by simp) (tab_is a_is_rule l_is_rule rfl g_is_rule v_is_rule)
  have h1 : ∀ p ∈ ([(c_is_name, P_is_name), (c_is_rule, P_is_rule)] : List (Addr × Addr)), h.get? p.2 = some { cls := .none, data := .fields #[] } := by
    intro p hp
    simp only [List.mem_cons, List.not_mem_nil, or_false] at hp
    rcases hp with rfl | rfl
    · exact T_is_name.2
    · exact T_is_rule.2
  have h2 : ∀ p ∈ ([(c_is_name, P_is_name), (c_is_rule, P_is_rule)] : List (Addr × Addr)), K.lookup p.2 = none := by
    intro p hp
    simp only [List.mem_cons, List.not_mem_nil, or_false] at hp
    rcases hp with rfl | rfl
    · exact n_is_name
    · exact n_is_rule
  have h3 : ∀ p ∈ ([(c_is_name, P_is_name), (c_is_rule, P_is_rule)] : List (Addr × Addr)), PySem.W.CodeHd h p.1 p.2 := by
    intro p hp
    simp only [List.mem_cons, List.not_mem_nil, or_false] at hp
    rcases hp with rfl | rfl
    · exact T_is_name.1
    · exact T_is_rule.1
  refine ⟨PySem.W.fnOf "law" "law" (defArgs s_law) (defBody s_law) (defScope s_law) .none kV_law dc_law pm_law an_law cd_law ct_law, [(c_is_name, P_is_name), (c_is_rule, P_is_rule)], spTab [P_is_name, P_is_rule] (spD K [P_is_name, P_is_rule] [.ro] (semLaw 63)), h1, h2, h3, fun s v => .of_eq rfl, fun H a ns hl _ hT hS => law_asks (fun p hp => ?_) hl hS, fun base hK hG TB => fn_tab (fn_sem ?_ law_sem)⟩
  · simp only [List.mem_cons, List.not_mem_nil, or_false] at hp
    rcases hp with hp | hp
    · rw [hp]
      exact hT (c_is_name, P_is_name) (by simp)
    · rw [hp]
      exact hT (c_is_rule, P_is_rule) (by simp)
  · have B_is_name := TB (c_is_name, P_is_name) (by simp)
    have W_is_name : GxR.TabB base mg c_is_name P_is_name := ⟨B_is_name.code, B_is_name.bm, B_is_name.gP⟩
    have B_is_rule := TB (c_is_rule, P_is_rule) (by simp)
    have W_is_rule : GxR.TabB base mg c_is_rule P_is_rule := ⟨B_is_rule.code, B_is_rule.bm, B_is_rule.gP⟩
    have F_is_sign := fun_mk (st := s_is_sign) l_is_sign q_is_sign k_is_sign
    have C_is_sign : Cal l.prog w K mg base [P_is_name, P_is_rule] "is_sign" 1 ["thing"] [.ro] sem_is_sign := ⟨f_is_sign, _, ok_is_sign F_is_sign B, PySem.W.mg_of X G a_is_sign, k_is_sign, F_is_sign.binds (ps := ["thing"]) fun _ _ _ _ _ _ us hl => match us, hl with | [_], _ => rfl⟩
    have F_is_name := fnc_mk (st := s_is_name) l_is_name q_is_name k_is_name
    have C_is_name : Cal l.prog w K mg base [P_is_name, P_is_rule] "is_name" 2 ["thing"] [.ro] sem_is_name := ⟨f_is_name, _, ok_is_name F_is_name W_is_name (by simp) B, PySem.W.mg_of X G a_is_name, k_is_name, F_is_name.fn.binds (ps := ["thing"]) fun _ _ _ _ _ _ us hl => match us, hl with | [_], _ => rfl⟩
    have F_is_rule := fnc_mk (st := s_is_rule) l_is_rule q_is_rule k_is_rule
    have C_is_rule : Cal l.prog w K mg base [P_is_name, P_is_rule] "is_rule" 4 ["thing"] [.ro] sem_is_rule := ⟨f_is_rule, _, ok_is_rule F_is_rule W_is_rule (by simp) B C_is_name C_is_sign, PySem.W.mg_of X G a_is_rule, k_is_rule, F_is_rule.fn.binds (ps := ["thing"]) fun _ _ _ _ _ _ us hl => match us, hl with | [_], _ => rfl⟩
    have F_is_fork_rule := fun_mk (st := s_is_fork_rule) l_is_fork_rule q_is_fork_rule k_is_fork_rule
    have C_is_fork_rule : Cal l.prog w K mg base [P_is_name, P_is_rule] "is_fork_rule" 1 ["rule"] [.ro] sem_is_fork_rule := ⟨f_is_fork_rule, _, ok_is_fork_rule F_is_fork_rule B, PySem.W.mg_of X G a_is_fork_rule, k_is_fork_rule, F_is_fork_rule.binds (ps := ["rule"]) fun _ _ _ _ _ _ us hl => match us, hl with | [_], _ => rfl⟩
    have F_need_only_rules := fun_mk (st := s_need_only_rules) l_need_only_rules q_need_only_rules k_need_only_rules
    have C_need_only_rules : Cal l.prog w K mg base [P_is_name, P_is_rule] "need_only_rules" 5 ["rules"] [.ro] sem_need_only_rules := ⟨f_need_only_rules, _, ok_need_only_rules F_need_only_rules B C_is_rule, PySem.W.mg_of X G a_need_only_rules, k_need_only_rules, F_need_only_rules.binds (ps := ["rules"]) fun _ _ _ _ _ _ us hl => match us, hl with | [_], _ => rfl⟩
    have F_names_of := fun_mk (st := s_names_of) l_names_of q_names_of k_names_of
    have C_names_of : Cal l.prog w K mg base [P_is_name, P_is_rule] "names_of" 1 ["rules"] [.ro] sem_names_of := ⟨f_names_of, _, ok_names_of F_names_of B, PySem.W.mg_of X G a_names_of, k_names_of, F_names_of.binds (ps := ["rules"]) fun _ _ _ _ _ _ us hl => match us, hl with | [_], _ => rfl⟩
    have F_need_known_names := fun_mk (st := s_need_known_names) l_need_known_names q_need_known_names k_need_known_names
    have C_need_known_names : Cal l.prog w K mg base [P_is_name, P_is_rule] "need_known_names" 2 ["rules"] [.ro] sem_need_known_names := ⟨f_need_known_names, _, ok_need_known_names F_need_known_names B C_is_fork_rule C_names_of, PySem.W.mg_of X G a_need_known_names, k_need_known_names, F_need_known_names.binds (ps := ["rules"]) fun _ _ _ _ _ _ us hl => match us, hl with | [_], _ => rfl⟩
    have F_length_by := fun_mk (st := s_length_by) l_length_by q_length_by k_length_by
    have C_length_by : Cal l.prog w K mg base [P_is_name, P_is_rule] "length_by" 2 ["rule", "lengths"] [.ro, .ro] sem_length_by := ⟨f_length_by, _, ok_length_by F_length_by B C_is_fork_rule, PySem.W.mg_of X G a_length_by, k_length_by, F_length_by.binds (ps := ["rule", "lengths"]) fun _ _ _ _ _ _ us hl => match us, hl with | [_, _], _ => rfl⟩
    have F_keep_lesser := fun_mk (st := s_keep_lesser) l_keep_lesser q_keep_lesser k_keep_lesser
    have C_keep_lesser : Cal l.prog w K mg base [P_is_name, P_is_rule] "keep_lesser" 1 ["least", "name", "number"] [.io, .ro, .ro] sem_keep_lesser := ⟨f_keep_lesser, _, ok_keep_lesser F_keep_lesser B, PySem.W.mg_of X G a_keep_lesser, k_keep_lesser, F_keep_lesser.binds (ps := ["least", "name", "number"]) fun _ _ _ _ _ _ us hl => match us, hl with | [_, _, _], _ => rfl⟩
    have F_lengths_of := fun_mk (st := s_lengths_of) l_lengths_of q_lengths_of k_lengths_of
    have C_lengths_of : Cal l.prog w K mg base [P_is_name, P_is_rule] "lengths_of" 3 ["rules"] [.ro] sem_lengths_of := ⟨f_lengths_of, _, ok_lengths_of F_lengths_of B C_keep_lesser C_length_by, PySem.W.mg_of X G a_lengths_of, k_lengths_of, F_lengths_of.binds (ps := ["rules"]) fun _ _ _ _ _ _ us hl => match us, hl with | [_], _ => rfl⟩
    have F_need_ends := fun_mk (st := s_need_ends) l_need_ends q_need_ends k_need_ends
    have C_need_ends : Cal l.prog w K mg base [P_is_name, P_is_rule] "need_ends" 4 ["rules"] [.ro] sem_need_ends := ⟨f_need_ends, _, ok_need_ends F_need_ends B C_names_of C_lengths_of, PySem.W.mg_of X G a_need_ends, k_need_ends, F_need_ends.binds (ps := ["rules"]) fun _ _ _ _ _ _ us hl => match us, hl with | [_], _ => rfl⟩
    have F_need_rules := fun_mk (st := s_need_rules) l_need_rules q_need_rules k_need_rules
    have C_need_rules : Cal l.prog w K mg base [P_is_name, P_is_rule] "need_rules" 6 ["rules"] [.ro] sem_need_rules := ⟨f_need_rules, _, ok_need_rules F_need_rules B C_need_ends C_need_known_names C_need_only_rules, PySem.W.mg_of X G a_need_rules, k_need_rules, F_need_rules.binds (ps := ["rules"]) fun _ _ _ _ _ _ us hl => match us, hl with | [_], _ => rfl⟩
    have F_shortest := fun_mk (st := s_shortest) l_shortest q_shortest k_shortest
    have C_shortest : Cal l.prog w K mg base [P_is_name, P_is_rule] "shortest" 7 ["rules"] [.ro] sem_shortest := ⟨f_shortest, _, ok_shortest F_shortest B C_names_of C_lengths_of C_need_rules, PySem.W.mg_of X G a_shortest, k_shortest, F_shortest.binds (ps := ["rules"]) fun _ _ _ _ _ _ us hl => match us, hl with | [_], _ => rfl⟩
    have F__law_at := fun_mk (st := s__law_at) l__law_at q__law_at k__law_at
    have C__law_at : Cal l.prog w K mg base [P_is_name, P_is_rule] "_law_at" 1 ["_law_script", "_law_place"] [.ro, .ro] sem__law_at := ⟨f__law_at, _, ok__law_at F__law_at B, PySem.W.mg_of X G a__law_at, k__law_at, F__law_at.binds (ps := ["_law_script", "_law_place"]) fun _ _ _ _ _ _ us hl => match us, hl with | [_, _], _ => rfl⟩
    have F__law_word := fun_mk (st := s__law_word) l__law_word q__law_word k__law_word
    have C__law_word : Cal l.prog w K mg base [P_is_name, P_is_rule] "_law_word" 1 ["_law_cell", "_law_k"] [.ro, .ro] sem__law_word := ⟨f__law_word, _, ok__law_word F__law_word B, PySem.W.mg_of X G a__law_word, k__law_word, F__law_word.binds (ps := ["_law_cell", "_law_k"]) fun _ _ _ _ _ _ us hl => match us, hl with | [_, _], _ => rfl⟩
    have F__law_rules := fun_mk (st := s__law_rules) l__law_rules q__law_rules k__law_rules
    have C__law_rules : Cal l.prog w K mg base [P_is_name, P_is_rule] "_law_rules" 2 ["_law_script", "_law_base"] [.ro, .ro] sem__law_rules := ⟨f__law_rules, _, ok__law_rules F__law_rules B C__law_at C__law_word, PySem.W.mg_of X G a__law_rules, k__law_rules, F__law_rules.binds (ps := ["_law_script", "_law_base"]) fun _ _ _ _ _ _ us hl => match us, hl with | [_, _], _ => rfl⟩
    have F__law_comes_to := fun_mk (st := s__law_comes_to) l__law_comes_to q__law_comes_to k__law_comes_to
    have C__law_comes_to : Cal l.prog w K mg base [P_is_name, P_is_rule] "_law_comes_to" 1 ["_law_found", "_law_rule"] [.ro, .ro] sem__law_comes_to := ⟨f__law_comes_to, _, ok__law_comes_to F__law_comes_to B, PySem.W.mg_of X G a__law_comes_to, k__law_comes_to, F__law_comes_to.binds (ps := ["_law_found", "_law_rule"]) fun _ _ _ _ _ _ us hl => match us, hl with | [_, _], _ => rfl⟩
    have F_law := fun_mk (st := s_law) l_law q_law k_law
    exact ok_law F_law B C__law_comes_to C_names_of C_shortest C__law_rules C__law_at
end K3
open PySem PySem.W PyProof.Rows
set_option maxHeartbeats 0 in
theorem PySem.Challenge.cw_mendread_k03_shortest_texts_holds : PySem.Challenge.rw_mendread_k03_shortest_texts.Holds := by
  w_on; o_law; k_head; (case hw => w_witness2)
  k_fill
  refine DS.walk_tabs (l := PySem.Challenge.rw_mendread_k03_shortest_texts) (n := 63) (k := 8) (x := "_law_script") (CX := fun _ => L2.CX0) ["is_name", "is_rule"] rfl (by decide) rfl ⟨rfl, by decide, by decide⟩ ?R (fun w h Y => PySem.W.kIn_of Y) ?F (fun _ _ _ _ _ h => h)
  case R => decide +kernel
  case F =>
    intro w mg fa h YH KX G hmg TF
    refine' K3.all_mk KX G hmg TF ?a_is_sign ?l_is_sign ?q_is_sign ?k_is_sign ?a_is_name ?l_is_name ?q_is_name ?k_is_name ?g_is_name ?v_is_name ?n_is_name ?a_is_rule ?l_is_rule ?q_is_rule ?k_is_rule ?g_is_rule ?v_is_rule ?n_is_rule ?a_is_fork_rule ?l_is_fork_rule ?q_is_fork_rule ?k_is_fork_rule ?a_need_only_rules ?l_need_only_rules ?q_need_only_rules ?k_need_only_rules ?a_names_of ?l_names_of ?q_names_of ?k_names_of ?a_need_known_names ?l_need_known_names ?q_need_known_names ?k_need_known_names ?a_length_by ?l_length_by ?q_length_by ?k_length_by ?a_keep_lesser ?l_keep_lesser ?q_keep_lesser ?k_keep_lesser ?a_lengths_of ?l_lengths_of ?q_lengths_of ?k_lengths_of ?a_need_ends ?l_need_ends ?q_need_ends ?k_need_ends ?a_need_rules ?l_need_rules ?q_need_rules ?k_need_rules ?a_shortest ?l_shortest ?q_shortest ?k_shortest ?a__law_at ?l__law_at ?q__law_at ?k__law_at ?a__law_word ?l__law_word ?q__law_word ?k__law_word ?a__law_rules ?l__law_rules ?q__law_rules ?k__law_rules ?a__law_comes_to ?l__law_comes_to ?q__law_comes_to ?k__law_comes_to ?a_law ?l_law ?q_law ?k_law ?z_all ?z_bool ?z_dict ?z_enumerate ?z_int ?z_isinstance ?z_len ?z_list ?z_min ?z_ord ?z_range ?z_str ?z_tuple ?i_BLANK ?i_MOST_LETTERS ?i_MOST_RULES ?i_PERCENT ?i_TILDE
    (case a_is_sign => k_is); (case l_is_sign => k_is); (case q_is_sign => k_is); (case k_is_sign => k_is); (case a_is_name => k_is); (case l_is_name => k_is); (case q_is_name => k_is); (case k_is_name => k_is); (case g_is_name => k_is); (case v_is_name => rfl); (case n_is_name => rfl); (case a_is_rule => k_is); (case l_is_rule => k_is); (case q_is_rule => k_is); (case k_is_rule => k_is); (case g_is_rule => k_is); (case v_is_rule => rfl); (case n_is_rule => rfl); (case a_is_fork_rule => k_is); (case l_is_fork_rule => k_is); (case q_is_fork_rule => k_is); (case k_is_fork_rule => k_is); (case a_need_only_rules => k_is); (case l_need_only_rules => k_is); (case q_need_only_rules => k_is); (case k_need_only_rules => k_is); (case a_names_of => k_is); (case l_names_of => k_is); (case q_names_of => k_is); (case k_names_of => k_is); (case a_need_known_names => k_is); (case l_need_known_names => k_is); (case q_need_known_names => k_is); (case k_need_known_names => k_is); (case a_length_by => k_is); (case l_length_by => k_is); (case q_length_by => k_is); (case k_length_by => k_is); (case a_keep_lesser => k_is); (case l_keep_lesser => k_is); (case q_keep_lesser => k_is); (case k_keep_lesser => k_is); (case a_lengths_of => k_is); (case l_lengths_of => k_is); (case q_lengths_of => k_is); (case k_lengths_of => k_is); (case a_need_ends => k_is); (case l_need_ends => k_is); (case q_need_ends => k_is); (case k_need_ends => k_is); (case a_need_rules => k_is); (case l_need_rules => k_is); (case q_need_rules => k_is); (case k_need_rules => k_is); (case a_shortest => k_is); (case l_shortest => k_is); (case q_shortest => k_is); (case k_shortest => k_is); (case a__law_at => k_is); (case l__law_at => k_is); (case q__law_at => k_is); (case k__law_at => k_is); (case a__law_word => k_is); (case l__law_word => k_is); (case q__law_word => k_is); (case k__law_word => k_is); (case a__law_rules => k_is); (case l__law_rules => k_is); (case q__law_rules => k_is); (case k__law_rules => k_is); (case a__law_comes_to => k_is); (case l__law_comes_to => k_is); (case q__law_comes_to => k_is); (case k__law_comes_to => k_is); (case a_law => k_is); (case l_law => k_is); (case q_law => k_is); (case k_law => k_is); (case z_all => k_is); (case z_bool => k_is); (case z_dict => k_is); (case z_enumerate => k_is); (case z_int => k_is); (case z_isinstance => k_is); (case z_len => k_is); (case z_list => k_is); (case z_min => k_is); (case z_ord => k_is); (case z_range => k_is); (case z_str => k_is); (case z_tuple => k_is); (case i_BLANK => k_is); (case i_MOST_LETTERS => k_is); (case i_MOST_RULES => k_is); (case i_PERCENT => k_is); (case i_TILDE => k_is)
