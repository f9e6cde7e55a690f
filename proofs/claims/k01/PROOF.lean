import PyProof.Rows.All
import Wide.All
import OpenK.AllK
import Wide.FinOn
import HandS.ForMost
import HandS.Exc
import HandS.IsInst
import HandS.AnyAll
import HandS.TupAny
import HandS.GenOver
import HandS.Deep
import HandS.Iter
import HandS.GenList
import HandS.EndTab
import PySem.Challenge.RW_mendread_k01_signs_names_rules
set_option Elab.async false
set_option linter.all false
set_option maxRecDepth 100000
set_option maxHeartbeats 1000000
namespace DS
open PySem L2

abbrev D := PyData

/-! ## data over an abstract heap -/
def kD : Key → D
  | .inl i => .int i
  | .inr x => .str x
def sD : V → D
  | .bl b => .bool b
  | .int i => .int i
  | .str x => .str x
  | _ => .none
def flat : V → Bool
  | .non => true
  | .bl _ => true
  | .int _ => true
  | .str _ => true
  | _ => false
def enK (p : Key × V) : D × D := (kD p.1, sD p.2)
def enT (p : List Key × V) : D × D := (.tuple (p.1.map kD), sD p.2)

mutual
inductive Rp (K : PySem.W.Frag) (F : Hp) : V → D → Prop
  | non : Rp K F .non .none
  | bl (b : Bool) : Rp K F (.bl b) (.bool b)
  | int (i : Int) : Rp K F (.int i) (.int i)
  | str (x : Str) : Rp K F (.str x) (.str x)
  | lst {a : Addr} {xs : List V} {ds : List D} : SqL K F a xs → Rps K F xs ds → Rp K F (.ref a) (.list ds)
  | tup {a : Addr} {xs : List V} {ds : List D} : SqT K F a xs → Rps K F xs ds → Rp K F (.ref a) (.tuple ds)
  | dK {a : Addr} {kvs : List (Key × V)} : Rd F a (.dK kvs) → (kvs.all fun p => flat p.2) = true → Rp K F (.ref a) (.dict (kvs.map enK))
  | dT {a : Addr} {kvs : List (List Key × V)} : F a = some (.dT kvs) → (kvs.all fun p => flat p.2) = true → Rp K F (.ref a) (.dict (kvs.map enT))
inductive Rps (K : PySem.W.Frag) (F : Hp) : List V → List D → Prop
  | nil : Rps K F [] []
  | cons {v : V} {vs : List V} {d : D} {ds : List D} : Rp K F v d → Rps K F vs ds → Rps K F (v :: vs) (d :: ds)
end

/-- what stands stays -/
def Ext (F F' : Hp) : Prop := ∀ a o, F a = some o → F' a = some o
theorem Ext.refl (F : Hp) : Ext F F := fun _ _ h => h
theorem Ext.trans {F G H : Hp} (a : Ext F G) (b : Ext G H) : Ext F H := fun x u h => b x u (a x u h)
theorem Ext.of {F F' : Hp} (h : ∀ a o, F a = some o → F' a = some o) : Ext F F' := h
theorem Ext.upd {F : Hp} {p : Addr} {o : HO} (h : F p = none) : Ext F (L2.upd F p o) := fun a u e => by
  rw [upd_ne (ne_of_none e h)]
  exact e
theorem Ext.rd {F F' : Hp} (e : Ext F F') {a : Addr} {u : HO} (r : Rd F a u) : Rd F' a u := by
  rcases r with r | ⟨o, r⟩
  · exact .inl (e a _ r)
  · exact .inr ⟨o, e a _ r⟩
section
variable {K : PySem.W.Frag} {F F' H H' : Hp}
theorem Ext.sqL (e : Ext F F') {a : Addr} {xs : List V} (h : SqL K F a xs) : SqL K F' a xs := by
  rcases h with h | h
  · exact .inl (e.rd h)
  · exact .inr h
theorem Ext.sqT (e : Ext F F') {a : Addr} {xs : List V} (h : SqT K F a xs) : SqT K F' a xs := by
  rcases h with h | h
  · exact .inl (e.rd h)
  · exact .inr h
mutual
theorem Rp.ext (e : Ext F F') : ∀ {v : V} {d : D}, Rp K F v d → Rp K F' v d
  | _, _, .non => .non
  | _, _, .bl b => .bl b
  | _, _, .int i => .int i
  | _, _, .str x => .str x
  | _, _, .lst s r => .lst (e.sqL s) (Rps.ext e r)
  | _, _, .tup s r => .tup (e.sqT s) (Rps.ext e r)
  | _, _, .dK r f => .dK (e.rd r) f
  | _, _, .dT r f => .dT (e _ _ r) f
theorem Rps.ext (e : Ext F F') : ∀ {vs : List V} {ds : List D}, Rps K F vs ds → Rps K F' vs ds
  | _, _, .nil => .nil
  | _, _, .cons a b => .cons (Rp.ext e a) (Rps.ext e b)
end
theorem Rps.len : ∀ {vs : List V} {ds : List D}, Rps K F vs ds → vs.length = ds.length
  | _, _, .nil => rfl
  | _, _, .cons _ b => by rw [List.length_cons, List.length_cons, Rps.len b]
theorem Rps.app : ∀ {vs ws : List V} {ds es : List D}, Rps K F vs ds → Rps K F ws es → Rps K F (vs ++ ws) (ds ++ es)
  | _, _, _, _, .nil, s => s
  | _, _, _, _, .cons a b, s => .cons a (Rps.app b s)
theorem Rps.get : ∀ {vs : List V} {ds : List D} {i : Nat} {d : D}, Rps K F vs ds → ds[i]? = some d → ∃ v, vs[i]? = some v ∧ Rp K F v d
  | _, _, _, _, .nil, e => by simp at e
  | _, _, 0, _, .cons a b, e => by
    simp at e
    subst e
    exact ⟨_, rfl, a⟩
  | _, _, i + 1, _, .cons a b, e => by
    obtain ⟨v, h1, h2⟩ := Rps.get (i := i) b (by simpa using e)
    exact ⟨v, by simpa using h1, h2⟩
theorem Rps.get' : ∀ {vs : List V} {ds : List D} {i : Nat} {v : V}, Rps K F vs ds → vs[i]? = some v → ∃ d, ds[i]? = some d ∧ Rp K F v d
  | _, _, _, _, .nil, e => by simp at e
  | _, _, 0, _, .cons a b, e => by
    simp at e
    subst e
    exact ⟨_, rfl, a⟩
  | _, _, i + 1, _, .cons a b, e => by
    obtain ⟨v, h1, h2⟩ := Rps.get' (i := i) b (by simpa using e)
    exact ⟨v, by simpa using h1, h2⟩
theorem Rps.take : ∀ {vs : List V} {ds : List D} (n : Nat), Rps K F vs ds → Rps K F (vs.take n) (ds.take n)
  | _, _, 0, _ => .nil
  | _, _, _ + 1, .nil => .nil
  | _, _, n + 1, .cons a b => .cons a (Rps.take n b)
theorem Rps.drop : ∀ {vs : List V} {ds : List D} (n : Nat), Rps K F vs ds → Rps K F (vs.drop n) (ds.drop n)
  | _, _, 0, r => r
  | _, _, _ + 1, .nil => .nil
  | _, _, n + 1, .cons a b => Rps.drop n b
theorem Rps.dropLast {vs : List V} {ds : List D} (h : Rps K F vs ds) : Rps K F vs.dropLast ds.dropLast := by
  rw [List.dropLast_eq_take, List.dropLast_eq_take, h.len]
  exact h.take _
theorem Rps.rev : ∀ {vs : List V} {ds : List D}, Rps K F vs ds → Rps K F vs.reverse ds.reverse
  | _, _, .nil => .nil
  | _, _, .cons a b => by
    rw [List.reverse_cons, List.reverse_cons]
    exact (Rps.rev b).app (.cons a .nil)
theorem Rps.set {v : V} {d : D} (r : Rp K F v d) : ∀ {vs : List V} {ds : List D} (i : Nat), Rps K F vs ds → Rps K F (vs.set i v) (ds.set i d)
  | _, _, _, .nil => .nil
  | _, _, 0, .cons _ t => .cons r t
  | _, _, i + 1, .cons q t => .cons q (Rps.set r i t)
theorem Rps.insert {v : V} {d : D} (r : Rp K F v d) {vs : List V} {ds : List D} (i : Nat) (h : Rps K F vs ds) : Rps K F (vs.take i ++ v :: vs.drop i) (ds.take i ++ d :: ds.drop i) :=
  (h.take i).app (.cons r (h.drop i))
end

/-! ## a frame's names -/
inductive Cell where
  /-- data that is shared: read alone -/
  | sh (d : D)
  /-- a list or a dict of this frame's own -/
  | ow (d : D)
  /-- a list or a dict that the caller lends, to be changed -/
  | io (a : Addr) (d : D)
def Cell.got : Cell → D
  | .sh d => d
  | .ow d => d
  | .io _ d => d
def Cell.mine : Cell → Bool
  | .sh _ => false
  | _ => true
abbrev Nv := List (Option Cell)
def Own (K : PySem.W.Frag) (F H : Hp) (a : Addr) : D → Prop
  | .list ds => ∃ xs, H a = some (.lst xs) ∧ Rps K F xs ds
  | .dict es => (∃ kvs, H a = some (.dK kvs) ∧ (kvs.all fun p => flat p.2) = true ∧ es = kvs.map enK) ∨ ∃ kvs, H a = some (.dT kvs) ∧ (kvs.all fun p => flat p.2) = true ∧ es = kvs.map enT
  | _ => False
theorem Own.ext {K : PySem.W.Frag} {F F' H H' : Hp} {a : Addr} : ∀ {d : D}, Ext F F' → H' a = H a → Own K F H a d → Own K F' H' a d
  | .list ds, e, h, ⟨xs, h1, h2⟩ => ⟨xs, by rw [h]; exact h1, h2.ext e⟩
  | .dict es, e, h, .inl ⟨kvs, h1, h2⟩ => .inl ⟨kvs, by rw [h]; exact h1, h2⟩
  | .dict es, e, h, .inr ⟨kvs, h1, h2⟩ => .inr ⟨kvs, by rw [h]; exact h1, h2⟩
theorem Own.rp {K : PySem.W.Frag} {F H : Hp} {a : Addr} : ∀ {d : D}, Own K F H a d → ∃ o, H a = some o ∧ ∀ G, Ext F G → G a = some o → Rp K G (.ref a) d
  | .list ds, ⟨xs, h1, h2⟩ => ⟨_, h1, fun G e g => .lst (.inl (.inl g)) (h2.ext e)⟩
  | .dict es, .inl ⟨kvs, h1, h2, h3⟩ => ⟨_, h1, fun G e g => by rw [h3]; exact .dK (.inl g) h2⟩
  | .dict es, .inr ⟨kvs, h1, h2, h3⟩ => ⟨_, h1, fun G e g => by rw [h3]; exact .dT g h2⟩
def Mine (σ : L2.St) (ρ : Nv) (a : Addr) : Prop := ∃ (i : Nat) (c : Cell), ρ[i]? = some (some c) ∧ c.mine = true ∧ σ[i]? = some (some (.ref a))

/-- a code object's table, whatever it has by now -/
def tabP (p : Addr) : Heap → Prop := fun h => ∃ ps : Array Value, h.get? p = some { cls := .none, data := .fields ps } ∧ TriplesOk ps.toList

/-- how a frame lies: Z is others', F is read by anyone, the rest is its own -/
structure Rep (K : PySem.W.Frag) (cs : List Addr) (Z F H : Hp) (σ : L2.St) (ρ : Nv) : Prop where
  len : σ.length = ρ.length
  fh : ∀ a o, F a = some o → H a = some o
  zh : ∀ a o, Z a = some o → H a = some o ∧ F a = none
  mine : ∀ (i : Nat) (c : Cell), ρ[i]? = some (some c) → c.mine = true → ∃ a, σ[i]? = some (some (.ref a)) ∧ F a = none ∧ Z a = none ∧ Own K F H a c.got
  sh : ∀ (i : Nat) (d : D), ρ[i]? = some (some (.sh d)) → ∃ v, σ[i]? = some (some v) ∧ Rp K F v d
  inj : ∀ (i j : Nat) (c e : Cell) (a : Addr), ρ[i]? = some (some c) → c.mine = true → ρ[j]? = some (some e) → e.mine = true → σ[i]? = some (some (.ref a)) → σ[j]? = some (some (.ref a)) → i = j
  io : ∀ (i : Nat) (a : Addr) (d : D), ρ[i]? = some (some (.io a d)) → σ[i]? = some (some (.ref a))
  tab : ∀ p ∈ cs, F p = some (.ext (tabP p))

/-- a value that is data now: shared, or in a name of this frame's own -/
def Vw (K : PySem.W.Frag) (F : Hp) (σ : L2.St) (ρ : Nv) (v : V) (d : D) : Prop := Rp K F v d ∨ ∃ (i : Nat) (c : Cell), ρ[i]? = some (some c) ∧ c.mine = true ∧ c.got = d ∧ σ[i]? = some (some v)

section
variable {K : PySem.W.Frag} {cs : List Addr} {Z F F' H H' : Hp} {σ : L2.St} {ρ : Nv} {v : V} {d : D}
theorem Vw.ext (e : Ext F F') (h : Vw K F σ ρ v d) : Vw K F' σ ρ v d := by
  rcases h with h | h
  · exact .inl (h.ext e)
  · exact .inr h
theorem Rep.ex (R : Rep K cs Z F H σ ρ) : Ext F H := Ext.of R.fh
/-- as data over the whole heap -/
theorem Rep.all (R : Rep K cs Z F H σ ρ) (h : Vw K F σ ρ v d) : Rp K H v d := by
  rcases h with h | ⟨i, c, h1, h2, rfl, h3⟩
  · exact h.ext R.ex
  · obtain ⟨a, e, _, _, o⟩ := R.mine i c h1 h2
    rw [h3] at e
    cases e
    obtain ⟨ob, q1, q2⟩ := o.rp
    exact q2 H R.ex q1
theorem Rep.lst (R : Rep K cs Z F H σ ρ) {ds : List D} (h : Vw K F σ ρ v (.list ds)) : ∃ a xs, v = .ref a ∧ SqL K H a xs ∧ Rps K F xs ds := by
  rcases h with h | ⟨i, c, h1, h2, h4, h3⟩
  · cases h with
    | lst s r => exact ⟨_, _, rfl, R.ex.sqL s, r⟩
  · obtain ⟨a, e, _, _, o⟩ := R.mine i c h1 h2
    rw [h3] at e
    cases e
    rw [h4] at o
    obtain ⟨xs, q1, q2⟩ := o
    exact ⟨a, xs, rfl, .inl (.inl q1), q2⟩
theorem Rep.tup (R : Rep K cs Z F H σ ρ) {ds : List D} (h : Vw K F σ ρ v (.tuple ds)) : ∃ a xs, v = .ref a ∧ SqT K F a xs ∧ SqT K H a xs ∧ Rps K F xs ds := by
  rcases h with h | ⟨i, c, h1, h2, h4, h3⟩
  · cases h with
    | tup s r => exact ⟨_, _, rfl, s, R.ex.sqT s, r⟩
  · obtain ⟨a, e, _, _, o⟩ := R.mine i c h1 h2
    rw [h4] at o
    exact o.elim
/-- a new object, shared at once -/
theorem Rep.new {p : Addr} {o : HO} (R : Rep K cs Z F H σ ρ) (hp : H p = none) : Rep K cs Z (upd F p o) (upd H p o) σ ρ ∧ Ext F (upd F p o) ∧ F p = none := by
  have fp : F p = none := by
    cases e : F p with
    | none => rfl
    | some u => rw [R.fh p u e] at hp; cases hp
  have hne : ∀ a u, H a = some u → a ≠ p := fun a u e => ne_of_none e hp
  refine ⟨⟨R.len, fun a u e => ?_, fun a u e => ?_, fun i c h1 h2 => ?_, fun i d h1 => ?_, R.inj, R.io, fun q hq => ?_⟩, Ext.upd fp, fp⟩
  · by_cases h : a = p
    · subst h
      rw [upd_same] at e ⊢
      exact e
    · rw [upd_ne h] at e ⊢
      exact R.fh a u e
  · obtain ⟨q1, q2⟩ := R.zh a u e
    rw [upd_ne (hne a u q1), upd_ne (hne a u q1)]
    exact ⟨q1, q2⟩
  · obtain ⟨a, e, f, z, o⟩ := R.mine i c h1 h2
    obtain ⟨ob, q1, _⟩ := o.rp
    exact ⟨a, e, by rw [upd_ne (hne a _ q1)]; exact f, z, o.ext (Ext.upd fp) (upd_ne (hne a _ q1))⟩
  · obtain ⟨v, e, r⟩ := R.sh i d h1
    exact ⟨v, e, r.ext (Ext.upd fp)⟩
  · have e := R.tab q hq
    rw [upd_ne (hne q _ (R.fh _ _ e))]
    exact e
/-- a new object, nobody's yet -/
theorem Rep.made {p : Addr} {o : HO} (R : Rep K cs Z F H σ ρ) (hp : H p = none) : Rep K cs Z F (upd H p o) σ ρ ∧ F p = none ∧ Z p = none ∧ ¬ Mine σ ρ p := by
  have fp : F p = none := by
    cases e : F p with
    | none => rfl
    | some u => rw [R.fh p u e] at hp; cases hp
  have zp : Z p = none := by
    cases e : Z p with
    | none => rfl
    | some u => rw [(R.zh p u e).1] at hp; cases hp
  have hne : ∀ a u, H a = some u → a ≠ p := fun a u e => ne_of_none e hp
  refine ⟨⟨R.len, fun a u e => ?_, fun a u e => ?_, fun i c h1 h2 => ?_, R.sh, R.inj, R.io, R.tab⟩, fp, zp, ?_⟩
  · rw [upd_ne (hne a u (R.fh a u e))]
    exact R.fh a u e
  · obtain ⟨q1, q2⟩ := R.zh a u e
    rw [upd_ne (hne a u q1)]
    exact ⟨q1, q2⟩
  · obtain ⟨a, e, f, z, o⟩ := R.mine i c h1 h2
    obtain ⟨ob, q1, _⟩ := o.rp
    exact ⟨a, e, f, z, o.ext (Ext.refl F) (upd_ne (hne a _ q1))⟩
  · rintro ⟨i, c, h1, h2, h3⟩
    obtain ⟨a, e, f, z, o⟩ := R.mine i c h1 h2
    obtain ⟨ob, q1, _⟩ := o.rp
    rw [h3] at e
    cases e
    rw [hp] at q1
    cases q1
/-- what is nobody's becomes shared -/
theorem Rep.give {p : Addr} {o : HO} (R : Rep K cs Z F H σ ρ) (hp : H p = some o) (fp : F p = none) (zp : Z p = none) (mp : ¬ Mine σ ρ p) : Rep K cs Z (upd F p o) H σ ρ := by
  refine ⟨R.len, fun a u e => ?_, fun a u e => ?_, fun i c h1 h2 => ?_, fun i d h1 => ?_, R.inj, R.io, fun q hq => ?_⟩
  · by_cases h : a = p
    · subst h
      rw [upd_same] at e
      cases e
      exact hp
    · rw [upd_ne h] at e
      exact R.fh a u e
  · obtain ⟨q1, q2⟩ := R.zh a u e
    have h : a ≠ p := ne_of_none e zp
    rw [upd_ne h]
    exact ⟨q1, q2⟩
  · obtain ⟨a, e, f, z, ow⟩ := R.mine i c h1 h2
    have h : a ≠ p := fun z => mp ⟨i, c, h1, h2, by rw [← z]; exact e⟩
    exact ⟨a, e, by rw [upd_ne h]; exact f, z, ow.ext (Ext.upd fp) rfl⟩
  · obtain ⟨v, e, r⟩ := R.sh i d h1
    exact ⟨v, e, r.ext (Ext.upd fp)⟩
  · have e := R.tab q hq
    rw [upd_ne (ne_of_none e fp)]
    exact e
end

/-! ## expressions that change no name -/
def tP (K : PySem.W.Frag) (cs : List Addr) (f : Nv → Option D) : TE := fun σ H Q => ∃ Z F ρ d, Rep K cs Z F H σ ρ ∧ f ρ = some d ∧ ∀ v F' H', Ext F F' → Rep K cs Z F' H' σ ρ → Rp K F' v d → Q v H'
def tW (K : PySem.W.Frag) (cs : List Addr) (f : Nv → Option D) : TE := fun σ H Q => ∃ Z F ρ d, Rep K cs Z F H σ ρ ∧ f ρ = some d ∧ ∀ v F' H', Ext F F' → Rep K cs Z F' H' σ ρ → Vw K F' σ ρ v d → Q v H'
/-- a new list or dict, nobody's yet -/
def tN (K : PySem.W.Frag) (cs : List Addr) (f : Nv → Option D) : TE := fun σ H Q => ∃ Z F ρ d, Rep K cs Z F H σ ρ ∧ f ρ = some d ∧
  ∀ p F' H', Ext F F' → Rep K cs Z F' H' σ ρ → F' p = none → Z p = none → ¬ Mine σ ρ p → Own K F' H' p d → Q (.ref p) H'
def tPT (K : PySem.W.Frag) (cs : List Addr) (f : Nv → Option Bool) : TT := fun σ H Q => ∃ Z F ρ b, Rep K cs Z F H σ ρ ∧ f ρ = some b ∧ ∀ F' H', Ext F F' → Rep K cs Z F' H' σ ρ → Q b H'
def tPA (K : PySem.W.Frag) (cs : List Addr) (f : Nv → Option (List D)) : TA := fun σ H Q => ∃ Z F ρ ds, Rep K cs Z F H σ ρ ∧ f ρ = some ds ∧ ∀ vs F' H', Ext F F' → Rep K cs Z F' H' σ ρ → Rps K F' vs ds → Q vs H'
inductive Vws (K : PySem.W.Frag) (F : Hp) (σ : L2.St) (ρ : Nv) : List V → List D → Prop
  | nil : Vws K F σ ρ [] []
  | cons {v : V} {vs : List V} {d : D} {ds : List D} : Vw K F σ ρ v d → Vws K F σ ρ vs ds → Vws K F σ ρ (v :: vs) (d :: ds)
theorem Vws.ext {K : PySem.W.Frag} {F F' : Hp} {σ : L2.St} {ρ : Nv} (e : Ext F F') : ∀ {vs : List V} {ds : List D}, Vws K F σ ρ vs ds → Vws K F' σ ρ vs ds
  | _, _, .nil => .nil
  | _, _, .cons a b => .cons (a.ext e) (Vws.ext e b)
def tWA (K : PySem.W.Frag) (cs : List Addr) (f : Nv → Option (List D)) : TA := fun σ H Q => ∃ Z F ρ ds, Rep K cs Z F H σ ρ ∧ f ρ = some ds ∧ ∀ vs F' H', Ext F F' → Rep K cs Z F' H' σ ρ → Vws K F' σ ρ vs ds → Q vs H'

section
variable (cs : List Addr) (X : Cx)
structure EP' (e : Expr) (f : Nv → Option D) : Prop where
  h : PE X e (tP X.K cs f)
structure EW (e : Expr) (f : Nv → Option D) : Prop where
  h : PE X e (tW X.K cs f)
structure EN (e : Expr) (f : Nv → Option D) : Prop where
  h : PE X e (tN X.K cs f)
structure ET (e : Expr) (f : Nv → Option Bool) : Prop where
  h : PT X e (tPT X.K cs f)
structure EWs (es : List Expr) (f : Nv → Option (List D)) : Prop where
  h : PA X es (tWA X.K cs f)
structure EPs (es : List Expr) (f : Nv → Option (List D)) : Prop where
  h : PA X es (tPA X.K cs f)
end
section
variable {cs : List Addr} {X : Cx} {e a b c : Expr} {pos : Pos}
theorem pe_imp {t t' : TE} (h : PE X e t) (i : ∀ σ H Q, t' σ H Q → t σ H Q) : PE X e t' := ⟨fun pins s σ H Q I q => h.run pins s σ H Q I (i σ H Q q)⟩
theorem pt_imp {t t' : TT} (h : PT X e t) (i : ∀ σ H Q, t' σ H Q → t σ H Q) : PT X e t' := ⟨fun pins s σ H Q I q => h.run pins s σ H Q I (i σ H Q q)⟩
theorem pw_imp {t t' : TT} (h : PW X e t) (i : ∀ σ H Q, t' σ H Q → t σ H Q) : PW X e t' := ⟨fun wh pins s σ H Q I q => h.run wh pins s σ H Q I (i σ H Q q)⟩
theorem pa_imp {es : List Expr} {t t' : TA} (h : PA X es t) (i : ∀ σ H Q, t' σ H Q → t σ H Q) : PA X es t' := ⟨fun p pins s σ H Q I q => h.run p pins s σ H Q I (i σ H Q q)⟩
theorem ps_imp {st : Stmt} {t t' : TS} (h : PS X st t) (i : ∀ D σ H, t' D σ H → t D σ H) : PS X st t' := ⟨fun pins s σ H D I q => h.run pins s σ H D I (i D σ H q)⟩
theorem pss_imp {st : List Stmt} {t t' : TS} (h : PSs X st t) (i : ∀ D σ H, t' D σ H → t D σ H) : PSs X st t' := ⟨fun pins s σ H D I q => h.run pins s σ H D I (i D σ H q)⟩

theorem EP'.w {f : Nv → Option D} (h : EP' cs X e f) : EW cs X e f := ⟨pe_imp h.h fun _ _ _ ⟨Z, F, ρ, d, R, ef, q⟩ => ⟨Z, F, ρ, d, R, ef, fun v F' H' e' R' r => q v F' H' e' R' (.inl r)⟩⟩
theorem EN.p {f : Nv → Option D} (h : EN cs X e f) : EP' cs X e f := ⟨pe_imp h.h fun _ _ _ ⟨Z, F, ρ, d, R, ef, q⟩ => ⟨Z, F, ρ, d, R, ef, fun p F' H' e' R' fp zp mp ow => by
  obtain ⟨o, h1, h2⟩ := ow.rp
  exact q _ _ _ (e'.trans (Ext.upd fp)) (R'.give h1 fp zp mp) (h2 _ (Ext.upd fp) upd_same)⟩⟩
theorem EN.w {f : Nv → Option D} (h : EN cs X e f) : EW cs X e f := h.p.w

/-! ### constants and names -/
theorem e_int {i : Int} {j : Nat} : EP' cs X (.Constant (.int i) j pos) (fun _ => some (.int i)) := ⟨pe_imp pe_int fun _ _ _ ⟨Z, F, ρ, d, R, ef, q⟩ => by
  cases ef
  exact q _ F _ (Ext.refl F) R (.int i)⟩
theorem e_str {i : Str} {j : Nat} : EP' cs X (.Constant (.str i) j pos) (fun _ => some (.str i)) := ⟨pe_imp pe_str fun _ _ _ ⟨Z, F, ρ, d, R, ef, q⟩ => by
  cases ef
  exact q _ F _ (Ext.refl F) R (.str i)⟩
theorem e_bool {i : Bool} {j : Nat} : EP' cs X (.Constant (.bool i) j pos) (fun _ => some (.bool i)) := ⟨pe_imp pe_bl fun _ _ _ ⟨Z, F, ρ, d, R, ef, q⟩ => by
  cases ef
  exact q _ F _ (Ext.refl F) R (.bl i)⟩
theorem e_none {j : Nat} : EP' cs X (.Constant .none j pos) (fun _ => some .none) := ⟨pe_imp pe_non fun _ _ _ ⟨Z, F, ρ, d, R, ef, q⟩ => by
  cases ef
  exact q _ F _ (Ext.refl F) R .non⟩
/-- a name, read as shared data -/
def nmP (i : Nat) : Nv → Option D := fun ρ => match ρ[i]? with
  | some (some (.sh d)) => some d
  | _ => none
/-- .. or as what it holds now -/
def nmW (i : Nat) : Nv → Option D := fun ρ => match ρ[i]? with
  | some (some c) => some c.got
  | _ => none
theorem e_nameP {i : Nat} {x : Str} (h : PE X (.Name x pos) (tVar i)) : EP' cs X (.Name x pos) (nmP i) := ⟨pe_imp h fun σ H Q ⟨Z, F, ρ, d, R, ef, q⟩ => by
  unfold nmP at ef
  split at ef
  · rename_i d' e
    cases ef
    obtain ⟨v, h1, h2⟩ := R.sh i _ e
    exact ⟨v, h1, q v F H (Ext.refl F) R h2⟩
  · cases ef⟩
theorem e_nameW {i : Nat} {x : Str} (h : PE X (.Name x pos) (tVar i)) : EW cs X (.Name x pos) (nmW i) := ⟨pe_imp h fun σ H Q ⟨Z, F, ρ, d, R, ef, q⟩ => by
  unfold nmW at ef
  split at ef
  · rename_i c e
    cases ef
    cases hc : c.mine with
    | true =>
      obtain ⟨a, h1, _⟩ := R.mine i c e hc
      exact ⟨.ref a, h1, q _ F H (Ext.refl F) R (.inr ⟨i, c, e, hc, rfl, h1⟩)⟩
    | false =>
      cases c with
      | sh d =>
        obtain ⟨v, h1, h2⟩ := R.sh i _ e
        exact ⟨v, h1, q v F H (Ext.refl F) R (.inl h2)⟩
      | ow d => cases hc
      | io a d => cases hc
  · cases ef⟩
/-- a constant of the module -/
theorem e_glob {x : Str} {v : V} {d : D} (h : PE X (.Name x pos) (tC v)) (r : ∀ F, Rp X.K F v d) : EP' cs X (.Name x pos) (fun _ => some d) := ⟨pe_imp h fun _ H Q ⟨Z, F, ρ, d, R, ef, q⟩ => by
  cases ef
  exact q _ F H (Ext.refl F) R (r F)⟩

/-! ### operators -/
/-- what an operator does with data -/
def OpS (X : Cx) (cs : List Addr) (r : R2) (g : D → D → Option D) : Prop := ∀ (Z F H : Hp) (σ : L2.St) (ρ : Nv) (v u : V) (x y d : D) (Q : VK), Rep X.K cs Z F H σ ρ → Vw X.K F σ ρ v x → Vw X.K F σ ρ u y → g x y = some d →
  (∀ w F' H', Ext F F' → Rep X.K cs Z F' H' σ ρ → Rp X.K F' w d → Q w H') → r v u H Q
def op2 (g : D → D → Option D) (fa fb : Nv → Option D) : Nv → Option D := fun ρ => (fa ρ).bind fun x => (fb ρ).bind fun y => g x y
theorem t_op2 {r : R2} {g : D → D → Option D} (h : OpS X cs r g) {fa fb : Nv → Option D} : ∀ σ H Q, tP X.K cs (op2 g fa fb) σ H Q → tOp r (tW X.K cs fa) (tW X.K cs fb) σ H Q := fun σ H Q ⟨Z, F, ρ, d, R, ef, q⟩ => by
  unfold op2 at ef
  cases ea : fa ρ with
  | none => rw [ea] at ef; cases ef
  | some x =>
    rw [ea] at ef
    cases eb : fb ρ with
    | none => rw [show (some x).bind _ = _ from rfl, eb] at ef; cases ef
    | some y =>
      rw [show (some x).bind _ = _ from rfl, eb] at ef
      exact ⟨Z, F, ρ, x, R, ea, fun v F1 H1 e1 R1 w1 => ⟨Z, F1, ρ, y, R1, eb, fun u F2 H2 e2 R2 w2 => h Z F2 H2 σ ρ v u x y d Q R2 (w1.ext e2) w2 ef fun w F' H' e3 R3 r3 => q w F' H' ((e1.trans e2).trans e3) R3 r3⟩⟩
end
end DS

namespace DS
open PySem L2

/-! ## operators by values -/
/-- an operator on data: what it is told of its operands, what it gives -/
def rD (K : PySem.W.Frag) (cs : List Addr) (g : D → D → Option D) : R2 := fun v u H Q => ∃ Z F σ ρ x y d, Rep K cs Z F H σ ρ ∧ Vw K F σ ρ v x ∧ Vw K F σ ρ u y ∧ g x y = some d ∧ ∀ w F' H', Ext F F' → Rep K cs Z F' H' σ ρ → Rp K F' w d → Q w H'
theorem t_opD {K : PySem.W.Frag} {cs : List Addr} {g : D → D → Option D} {fa fb : Nv → Option D} : ∀ σ H Q, tP K cs (op2 g fa fb) σ H Q → tOp (rD K cs g) (tW K cs fa) (tW K cs fb) σ H Q := fun σ H Q ⟨Z, F, ρ, d, R, ef, q⟩ => by
  unfold op2 at ef
  obtain ⟨x, ea, ef⟩ := Option.bind_eq_some_iff.mp ef
  obtain ⟨y, eb, ef⟩ := Option.bind_eq_some_iff.mp ef
  exact ⟨Z, F, ρ, x, R, ea, fun v F1 H1 e1 R1 w1 => ⟨Z, F1, ρ, y, R1, eb, fun u F2 H2 e2 R2 w2 => ⟨Z, F2, σ, ρ, x, y, d, R2, w1.ext e2, w2, ef, fun w F' H' e3 R3 r3 => q w F' H' ((e1.trans e2).trans e3) R3 r3⟩⟩⟩
section
variable {K : PySem.W.Frag} {cs : List Addr} {Z F H : Hp} {σ : L2.St} {ρ : Nv} {v : V}
theorem Rep.vsc (R : Rep K cs Z F H σ ρ) {d : D} (h : Vw K F σ ρ v d) (hd : ∀ H' a, ¬ Own K F H' a d) : Rp K F v d := by
  rcases h with h | ⟨i, c, h1, h2, rfl, h3⟩
  · exact h
  · obtain ⟨a, _, _, _, o⟩ := R.mine i c h1 h2
    exact (hd _ _ o).elim
theorem Rep.vint (R : Rep K cs Z F H σ ρ) {i : Int} (h : Vw K F σ ρ v (.int i)) : v = .int i := by
  cases R.vsc h fun _ _ z => z
  rfl
theorem Rep.vbool (R : Rep K cs Z F H σ ρ) {i : Bool} (h : Vw K F σ ρ v (.bool i)) : v = .bl i := by
  cases R.vsc h fun _ _ z => z
  rfl
theorem Rep.vstr (R : Rep K cs Z F H σ ρ) {i : Str} (h : Vw K F σ ρ v (.str i)) : v = .str i := by
  cases R.vsc h fun _ _ z => z
  rfl
theorem Rep.vnone (R : Rep K cs Z F H σ ρ) (h : Vw K F σ ρ v .none) : v = .non := by
  cases R.vsc h fun _ _ z => z
  rfl
mutual
theorem Rp.dp : ∀ {v : V} {d : D}, Rp K F v d → d.canLay0 = true → Dp K F v d
  | _, _, .non, _ => .non
  | _, _, .bl b, _ => .bl b
  | _, _, .int i, _ => .int i
  | _, _, .str x, _ => .str x
  | _, _, .lst s r, h => .lst s (Rps.dp r (by simpa [PyData.canLay0] using h))
  | _, _, .tup s r, h => .tup s (Rps.dp r (by simpa [PyData.canLay0] using h))
  | _, _, .dK _ _, h => by simp [PyData.canLay0] at h
  | _, _, .dT _ _, h => by simp [PyData.canLay0] at h
theorem Rps.dp : ∀ {vs : List V} {ds : List D}, Rps K F vs ds → PyData.canLayAll0 ds = true → DpAll K F vs ds
  | _, _, .nil, _ => .nil
  | _, _, .cons a b, h => by
    rw [PyData.canLayAll0, Bool.and_eq_true] at h
    exact .cons (Rp.dp a h.1) (Rps.dp b h.2)
end
end

def addD : D → D → Option D
  | .int i, .int j => some (.int (i + j))
  | .str x, .str y => if x.length + y.length ≤ 100000 then some (.str (x ++ y)) else none
  | .list xs, .list ys => if xs.length + ys.length ≤ 100000 then some (.list (xs ++ ys)) else none
  | _, _ => none
def subD : D → D → Option D
  | .int i, .int j => some (.int (i - j))
  | _, _ => none
def mulD : D → D → Option D
  | .int i, .int j => if -1000000 < j ∧ j < 1000000 then some (.int (i * j)) else none
  | _, _ => none
def fdivD : D → D → Option D
  | .int i, .int j => if 0 < j ∧ j < 1073741824 then some (.int (i / j)) else none
  | _, _ => none
def modD : D → D → Option D
  | .int i, .int j => if 0 < j then some (.int (i % j)) else none
  | _, _ => none
def eqD (x y : D) : Option D := if SeqAt.shaped x = true ∧ SeqAt.shaped y = true then some (.bool (PyData.eqv x y)) else none
def neD (x y : D) : Option D := if SeqAt.shaped x = true ∧ SeqAt.shaped y = true then some (.bool (!PyData.eqv x y)) else none
def ltD : D → D → Option D
  | .int i, .int j => some (.bool (decide (i < j)))
  | _, _ => none
def leD : D → D → Option D
  | .int i, .int j => some (.bool (decide (i ≤ j)))
  | .str x, .str y => some (.bool (!decide (y.cps.toList < x.cps.toList)))
  | _, _ => none
def gtD : D → D → Option D
  | .int i, .int j => some (.bool (decide (j < i)))
  | _, _ => none
def geD : D → D → Option D
  | .int i, .int j => some (.bool (decide (j ≤ i)))
  | _, _ => none
def isNone : D → Bool
  | .none => true
  | _ => false
def isD (x : D) : D → Option D
  | .none => some (.bool (isNone x))
  | _ => none
def isntD (x : D) : D → Option D
  | .none => some (.bool (!isNone x))
  | _ => none
/-- one sign in a text, or something flat among flat things -/
def inD (x y : D) : Option Bool := match x, y with
  | .str a, .str z => if a.length = 1 then some (decide (a.cps.getD 0 0 ∈ z.cps.toList)) else none
  | x, .list ds => if SeqAt.shaped x = true ∧ SeqAt.shaped (.list ds) = true then some (ds.any fun z => PyData.eqv z x) else none
  | _, _ => none
def inD' (x y : D) : Option D := (inD x y).map .bool
def ninD' (x y : D) : Option D := (inD x y).map fun b => .bool (!b)

/-- list + list, whatever slots they have -/
theorem list_cat (l : Addr) (it : Array Value) (n : Nat) (sl : Array (Option Value)) (b : Addr) (it2 : Array Value) (n2 : Nat) (sl2 : Array (Option Value)) (hc : it.size + it2.size ≤ sizeLine) :
    Meets (Builtin.«list.__add__» ⟨[.ref l, .ref b], []⟩) (fun _ R s => s.heap.get? l = some { cls := .type "list", dict := none, data := .seq it n, slots := sl } ∧ s.heap.get? b = some { cls := .type "list", dict := none, data := .seq it2 n2, slots := sl2 } ∧
      R (.ok (.ret (Value.ref s.heap.objs.size))) { s with heap := s.heap.push { cls := Value.type "list", data := Data.seq (it ++ it2) }, toks := s.toks }) :=
  .of_wp fun prog w A R s h => by
    obtain ⟨hp, g, d, tk, os⟩ := s
    obtain ⟨hl, hb, h⟩ := h
    have f3 := AutoSeq1.sub_list_list
    wp_walk using AutoSeq1.wpAny_loadPart' hl, AutoSeq1.wpAny_loadPart' hb
    exact ⟨_, rfl, h⟩
section
variable {X : Cx} {cs : List Addr}
theorem od_add : OpR X (binaryOp .Add) (rD X.K cs addD) := by
  rintro pins s σ H v u a b Q I rx ry ⟨Z, F, σ', ρ, x, y, d, R, w1, w2, e, q⟩
  unfold addD at e
  split at e
  · cases e
    cases R.vint w1
    cases R.vint w2
    exact op_add pins s σ H _ _ a b Q I rx ry ⟨_, _, rfl, rfl, q _ F H (Ext.refl F) R (.int _)⟩
  · rename_i x y
    split at e
    · rename_i hl
      cases e
      cases R.vstr w1
      cases R.vstr w2
      exact op_add_str pins s σ H _ _ a b Q I rx ry ⟨_, _, rfl, rfl, Nat.le_trans hl (by decide), q _ F H (Ext.refl F) R (.str _)⟩
    · cases e
  · rename_i xs ys
    split at e
    · rename_i hl
      cases e
      obtain ⟨a1, vs, rfl, s1, r1⟩ := R.lst w1
      obtain ⟨a2, ws, rfl, s2, r2⟩ := R.lst w2
      cases rx
      cases ry
      obtain ⟨it1, t1, p1, z1⟩ := I.list s1
      obtain ⟨it2, t2, p2, z2⟩ := I.list s2
      have l1 := t1.length
      have l2 := t2.length
      have k1 := r1.len
      have k2 := r2.len
      have hz : vs.length + ws.length ≤ sizeLine := by
        have : (100000 : Nat) ≤ sizeLine := by decide
        omega
      obtain ⟨⟨oc, od, dt, sl⟩, n, h1, h2, h3, h4⟩ := p1
      obtain ⟨⟨oc2, od2, dt2, sl2⟩, n2, g1, g2, g3, g4⟩ := p2
      simp only at h2 h3 h4 g2 g3 g4
      subst h2 h3 h4 g2 g3 g4
      refine concat_meets ⟨_, h1, rfl⟩ ⟨_, g1, rfl⟩ noFill_list_add seq_list_add PySem.F.slot_list_add PySem.F.entry_list_add (PySem.F.args_list_add_2 _ _) (list_cat a1 it1.toArray n sl a2 it2.toArray n2 sl2 (by simp only [List.size_toArray]; omega)) ⟨h1, g1, ?_⟩
      have ea : it1.toArray ++ it2.toArray = (it1 ++ it2).toArray := by simp
      rw [ea]
      have hn : H s.heap.objs.size = none := I.fresh
      obtain ⟨R', e', fp⟩ := R.new (o := .lst (vs ++ ws)) hn
      exact ⟨.ref _, _, I.lnew (t' := s.toks) (t1.append t2) (by rw [List.length_append]; omega), rfl, q _ _ _ e' R' (.lst (.inl (.inl upd_same)) ((r1.app r2).ext e'))⟩
    · cases e
  · cases e

theorem od_sub : OpR X (binaryOp .Sub) (rD X.K cs subD) := by
  rintro pins s σ H v u a b Q I rx ry ⟨Z, F, σ', ρ, x, y, d, R, w1, w2, e, q⟩
  unfold subD at e
  split at e
  · cases e
    cases R.vint w1
    cases R.vint w2
    exact op_sub pins s σ H _ _ a b Q I rx ry ⟨_, _, rfl, rfl, q _ F H (Ext.refl F) R (.int _)⟩
  · cases e
theorem od_mul : OpR X (binaryOp .Mult) (rD X.K cs mulD) := by
  rintro pins s σ H v u a b Q I rx ry ⟨Z, F, σ', ρ, x, y, d, R, w1, w2, e, q⟩
  unfold mulD at e
  split at e
  · split at e
    · rename_i hc
      cases e
      cases R.vint w1
      cases R.vint w2
      exact op_mul pins s σ H _ _ a b Q I rx ry ⟨_, _, rfl, rfl, .inr ⟨by omega, by omega⟩, q _ F H (Ext.refl F) R (.int _)⟩
    · cases e
  · cases e
theorem od_fdiv : OpR X (binaryOp .FloorDiv) (rD X.K cs fdivD) := by
  rintro pins s σ H v u a b Q I rx ry ⟨Z, F, σ', ρ, x, y, d, R, w1, w2, e, q⟩
  unfold fdivD at e
  split at e
  · split at e
    · rename_i hc
      cases e
      cases R.vint w1
      cases R.vint w2
      exact op_fdiv pins s σ H _ _ a b Q I rx ry ⟨_, _, rfl, rfl, hc, q _ F H (Ext.refl F) R (.int _)⟩
    · cases e
  · cases e
theorem od_mod : OpR X (binaryOp .Mod) (rD X.K cs modD) := by
  rintro pins s σ H v u a b Q I rx ry ⟨Z, F, σ', ρ, x, y, d, R, w1, w2, e, q⟩
  unfold modD at e
  split at e
  · split at e
    · rename_i hc
      cases e
      cases R.vint w1
      cases R.vint w2
      exact op_mod pins s σ H _ _ a b Q I rx ry ⟨_, _, rfl, rfl, hc, q _ F H (Ext.refl F) R (.int _)⟩
    · cases e
  · cases e
theorem shp {d : D} (h : SeqAt.shaped d = true) : d.canLay0 = true := SeqAt.canLay_of_shaped h
theorem od_eq (hu : X.A.units + 64 < cLine) : OpR X (compareOp .Eq) (rD X.K cs eqD) := by
  rintro pins s σ H v u a b Q I rx ry ⟨Z, F, σ', ρ, x, y, d, R, w1, w2, e, q⟩
  unfold eqD at e
  split at e
  · rename_i hc
    cases e
    exact op_eqD hu pins s σ H _ _ a b Q I rx ry ⟨x, y, (R.all w1).dp (shp hc.1), (R.all w2).dp (shp hc.2), hc.1, hc.2, q _ F H (Ext.refl F) R (.bl _)⟩
  · cases e
theorem od_ne (hu : X.A.units + 64 < cLine) : OpR X (compareOp .NotEq) (rD X.K cs neD) := by
  rintro pins s σ H v u a b Q I rx ry ⟨Z, F, σ', ρ, x, y, d, R, w1, w2, e, q⟩
  unfold neD at e
  split at e
  · rename_i hc
    cases e
    exact op_neD hu pins s σ H _ _ a b Q I rx ry ⟨x, y, (R.all w1).dp (shp hc.1), (R.all w2).dp (shp hc.2), hc.1, hc.2, q _ F H (Ext.refl F) R (.bl _)⟩
  · cases e
theorem od_lt : OpR X (compareOp .Lt) (rD X.K cs ltD) := by
  rintro pins s σ H v u a b Q I rx ry ⟨Z, F, σ', ρ, x, y, d, R, w1, w2, e, q⟩
  unfold ltD at e
  split at e
  · cases e
    cases R.vint w1
    cases R.vint w2
    exact op_lt pins s σ H _ _ a b Q I rx ry ⟨_, _, rfl, rfl, q _ F H (Ext.refl F) R (.bl _)⟩
  · cases e
theorem od_gt : OpR X (compareOp .Gt) (rD X.K cs gtD) := by
  rintro pins s σ H v u a b Q I rx ry ⟨Z, F, σ', ρ, x, y, d, R, w1, w2, e, q⟩
  unfold gtD at e
  split at e
  · cases e
    cases R.vint w1
    cases R.vint w2
    exact op_gt pins s σ H _ _ a b Q I rx ry ⟨_, _, rfl, rfl, q _ F H (Ext.refl F) R (.bl _)⟩
  · cases e
theorem od_ge : OpR X (compareOp .GtE) (rD X.K cs geD) := by
  rintro pins s σ H v u a b Q I rx ry ⟨Z, F, σ', ρ, x, y, d, R, w1, w2, e, q⟩
  unfold geD at e
  split at e
  · cases e
    cases R.vint w1
    cases R.vint w2
    exact op_ge pins s σ H _ _ a b Q I rx ry ⟨_, _, rfl, rfl, q _ F H (Ext.refl F) R (.bl _)⟩
  · cases e
theorem od_le : OpR X (compareOp .LtE) (rD X.K cs leD) := by
  rintro pins s σ H v u a b Q I rx ry ⟨Z, F, σ', ρ, x, y, d, R, w1, w2, e, q⟩
  unfold leD at e
  split at e
  · cases e
    cases R.vint w1
    cases R.vint w2
    exact op_le pins s σ H _ _ a b Q I rx ry ⟨_, _, rfl, rfl, q _ F H (Ext.refl F) R (.bl _)⟩
  · cases e
    cases R.vstr w1
    cases R.vstr w2
    exact op_le_str pins s σ H _ _ a b Q I rx ry ⟨_, _, rfl, rfl, q _ F H (Ext.refl F) R (.bl _)⟩
  · cases e
theorem Rep.isN {K : PySem.W.Frag} {Z F H : Hp} {σ : L2.St} {ρ : Nv} {v : V} {x : D} (R : Rep K cs Z F H σ ρ) (h : Vw K F σ ρ v x) : decide (v = .non) = isNone x := by
  have r := R.all h
  cases r <;> simp [isNone]
theorem od_is : OpR X (compareOp .Is) (rD X.K cs isD) := by
  rintro pins s σ H v u a b Q I rx ry ⟨Z, F, σ', ρ, x, y, d, R, w1, w2, e, q⟩
  unfold isD at e
  split at e
  · cases e
    cases R.vnone w2
    refine op_isN pins s σ H _ _ a b Q I rx ry ⟨rfl, ?_⟩
    rw [R.isN w1]
    exact q _ F H (Ext.refl F) R (.bl _)
  · cases e
theorem od_isnt : OpR X (compareOp .IsNot) (rD X.K cs isntD) := by
  rintro pins s σ H v u a b Q I rx ry ⟨Z, F, σ', ρ, x, y, d, R, w1, w2, e, q⟩
  unfold isntD at e
  split at e
  · cases e
    cases R.vnone w2
    refine op_notN pins s σ H _ _ a b Q I rx ry ⟨rfl, ?_⟩
    rw [R.isN w1]
    exact q _ F H (Ext.refl F) R (.bl _)
  · cases e
theorem one_sign {a : Str} (h : a.length = 1) : a = ⟨#[a.cps.getD 0 0]⟩ := by
  obtain ⟨⟨l⟩⟩ := a
  have h' : l.length = 1 := h
  match l, h' with
  | [c], _ => rfl
theorem od_in (hu : X.A.units + 65 < cLine) : OpR X (compareOp .In) (rD X.K cs inD') := by
  rintro pins s σ H v u a b Q I rx ry ⟨Z, F, σ', ρ, x, y, d, R, w1, w2, e, q⟩
  unfold inD' at e
  obtain ⟨bb, e, rfl⟩ := Option.map_eq_some_iff.mp e
  unfold inD at e
  split at e
  · split at e
    · rename_i hl
      cases e
      cases R.vstr w1
      cases R.vstr w2
      refine op_in_sign pins s σ H _ _ a b Q I rx ry ⟨_, _, congrArg V.str (one_sign hl), rfl, q _ F H (Ext.refl F) R (.bl _)⟩
    · cases e
  · split at e
    · rename_i hc
      cases e
      exact op_inD hu pins s σ H _ _ a b Q I rx ry ⟨_, _, (R.all w1).dp (shp hc.1), (R.all w2).dp (shp hc.2), hc.1, hc.2, q _ F H (Ext.refl F) R (.bl _)⟩
    · cases e
  · cases e
theorem od_nin (hu : X.A.units + 65 < cLine) : OpR X (compareOp .NotIn) (rD X.K cs ninD') := by
  rintro pins s σ H v u a b Q I rx ry ⟨Z, F, σ', ρ, x, y, d, R, w1, w2, e, q⟩
  unfold ninD' at e
  obtain ⟨bb, e2, rfl⟩ := Option.map_eq_some_iff.mp e
  clear e
  unfold inD at e2
  split at e2
  · split at e2
    · rename_i hl
      obtain rfl := Option.some.inj e2
      cases R.vstr w1
      cases R.vstr w2
      refine op_notIn_sign pins s σ H _ _ a b Q I rx ry ⟨_, _, congrArg V.str (one_sign hl), rfl, q _ F H (Ext.refl F) R (.bl _)⟩
    · cases e2
  · split at e2
    · rename_i hc
      obtain rfl := Option.some.inj e2
      exact op_notInD hu pins s σ H _ _ a b Q I rx ry ⟨_, _, (R.all w1).dp (shp hc.1), (R.all w2).dp (shp hc.2), hc.1, hc.2, q _ F H (Ext.refl F) R (.bl _)⟩
    · cases e2
  · cases e2
end
end DS

namespace DS
open PySem L2

/-! ## expressions by their parts -/
section
variable {cs : List Addr} {X : Cx} {a b c e : Expr} {es : List Expr} {pos : Pos} {fa fb fc : Nv → Option D} {g g' : D → D → Option D} {ga gb : Nv → Option Bool}
theorem e_op {op : Operator} (ho : OpR X (binaryOp op) (rD X.K cs g)) (ha : EW cs X a fa) (hb : EW cs X b fb) : EP' cs X (.BinOp a op b pos) (op2 g fa fb) := ⟨pe_imp (pe_op ho ha.h hb.h) t_opD⟩
theorem e_cmp {op : CmpOp} (ho : OpR X (compareOp op) (rD X.K cs g)) (ha : EW cs X a fa) (hb : EW cs X b fb) (hm : behindInMarks op b = false) : EP' cs X (.Compare a [op] [b] pos) (op2 g fa fb) := ⟨pe_imp (pe_cmpR ho ha.h hb.h hm) t_opD⟩
def asB : D → Option Bool
  | .bool b => some b
  | _ => none
def opT (g : D → D → Option D) (fa fb : Nv → Option D) : Nv → Option Bool := fun ρ => (op2 g fa fb ρ).bind asB
theorem asB_some {d : D} {b : Bool} (h : asB d = some b) : d = .bool b := by
  cases d <;> simp [asB] at h
  rw [h]
theorem Rp.isbl {K : PySem.W.Frag} {F : Hp} {v : V} {b : Bool} (h : Rp K F v (.bool b)) : v = .bl b := by
  cases h
  rfl
theorem et_cmp {op : CmpOp} (ho : OpR X (compareOp op) (rD X.K cs g)) (ha : EW cs X a fa) (hb : EW cs X b fb) (hm : behindInMarks op b = false) : ET cs X (.Compare a [op] [b] pos) (opT g fa fb) := ⟨pt_imp (pt_cmpR ho ha.h hb.h hm) fun σ H Q ⟨Z, F, ρ, k, R, ef, q⟩ => by
  obtain ⟨d, e1, e2⟩ := Option.bind_eq_some_iff.mp ef
  have hk0 := asB_some e2
  exact t_opD σ H _ ⟨Z, F, ρ, _, R, e1, fun v F' H' e' R' r => ⟨k, (hk0 ▸ r).isbl, q F' H' e' R'⟩⟩⟩
/-- a op b op' c -/
def ch3 (g g' : D → D → Option D) (fa fb fc : Nv → Option D) : Nv → Option D := fun ρ => (fa ρ).bind fun x => (fb ρ).bind fun y => (g x y).bind fun z => (asB z).bind fun k => if k = true then (fc ρ).bind fun w => g' y w else some (.bool false)
theorem t_chain {K : PySem.W.Frag} : ∀ σ H Q, tP K cs (ch3 g g' fa fb fc) σ H Q → tChain (rD K cs g) (rD K cs g') (tW K cs fa) (tW K cs fb) (tW K cs fc) σ H Q := fun σ H Q ⟨Z, F, ρ, d, R, ef, q⟩ => by
  unfold ch3 at ef
  obtain ⟨x, ea, ef⟩ := Option.bind_eq_some_iff.mp ef
  obtain ⟨y, eb, ef⟩ := Option.bind_eq_some_iff.mp ef
  obtain ⟨z, ez, ef⟩ := Option.bind_eq_some_iff.mp ef
  obtain ⟨k, ek, ef⟩ := Option.bind_eq_some_iff.mp ef
  have hk0 := asB_some ek
  refine ⟨Z, F, ρ, x, R, ea, fun v F1 H1 e1 R1 w1 => ⟨Z, F1, ρ, y, R1, eb, fun u F2 H2 e2 R2 w2 => ⟨Z, F2, σ, ρ, x, y, _, R2, w1.ext e2, w2, ez, fun t F3 H3 e3 R3 r3 => ⟨k, (hk0 ▸ r3).isbl, ?_⟩⟩⟩⟩
  by_cases hk : k = true
  · rw [if_pos hk] at ef ⊢
    obtain ⟨w, ew, ef⟩ := Option.bind_eq_some_iff.mp ef
    exact ⟨Z, F3, ρ, w, R3, ew, fun s F4 H4 e4 R4 w4 => ⟨Z, F4, σ, ρ, y, w, d, R4, (w2.ext e3).ext e4, w4, ef, fun s' F5 H5 e5 R5 r5 => q s' F5 H5 ((((e1.trans e2).trans e3).trans e4).trans e5) R5 r5⟩⟩
  · rw [if_neg hk] at ef ⊢
    cases ef
    exact q _ F3 H3 ((e1.trans e2).trans e3) R3 (.bl false)
theorem e_chain {op op' : CmpOp} (ho : OpR X (compareOp op) (rD X.K cs g)) (ho' : OpR X (compareOp op') (rD X.K cs g')) (ha : EW cs X a fa) (hb : EW cs X b fb) (hc : EW cs X c fc) (hm : lastMarks [op, op'] [b, c] = false := by with_unfolding_all rfl) :
    EP' cs X (.Compare a [op, op'] [b, c] pos) (ch3 g g' fa fb fc) := ⟨pe_imp (pe_chain ho ho' ha.h hb.h hc.h hm) t_chain⟩
theorem et_chain {op op' : CmpOp} (ho : OpR X (compareOp op) (rD X.K cs g)) (ho' : OpR X (compareOp op') (rD X.K cs g')) (ha : EW cs X a fa) (hb : EW cs X b fb) (hc : EW cs X c fc) (hm : lastMarks [op, op'] [b, c] = false := by with_unfolding_all rfl) :
    ET cs X (.Compare a [op, op'] [b, c] pos) (fun ρ => (ch3 g g' fa fb fc ρ).bind asB) := ⟨pt_imp (pt_chain ho ho' ha.h hb.h hc.h hm) fun σ H Q ⟨Z, F, ρ, k, R, ef, q⟩ => by
  obtain ⟨d, e1, e2⟩ := Option.bind_eq_some_iff.mp ef
  have hk0 := asB_some e2
  exact t_chain σ H _ ⟨Z, F, ρ, _, R, e1, fun v F' H' e' R' r => ⟨k, (hk0 ▸ r).isbl, q F' H' e' R'⟩⟩⟩

/-! ### and, or, not, if -/
def andV (fa fb : Nv → Option D) : Nv → Option D := fun ρ => (fa ρ).bind fun x => (asB x).bind fun k => if k = true then fb ρ else some (.bool false)
def orV (fa fb : Nv → Option D) : Nv → Option D := fun ρ => (fa ρ).bind fun x => (asB x).bind fun k => if k = true then some (.bool true) else fb ρ
def notV (fa : Nv → Option D) : Nv → Option D := fun ρ => (fa ρ).bind fun x => (asB x).map fun k => .bool (!k)
def ifV (t : Nv → Option Bool) (fa fb : Nv → Option D) : Nv → Option D := fun ρ => (t ρ).bind fun k => if k = true then fa ρ else fb ρ
def andT (ga gb : Nv → Option Bool) : Nv → Option Bool := fun ρ => (ga ρ).bind fun k => if k = true then gb ρ else some false
def orT (ga gb : Nv → Option Bool) : Nv → Option Bool := fun ρ => (ga ρ).bind fun k => if k = true then some true else gb ρ
def notT (ga : Nv → Option Bool) : Nv → Option Bool := fun ρ => (ga ρ).map (!·)
theorem e_one {op : BoolOp} (h : EP' cs X a fa) : EP' cs X (.BoolOp op [a] pos) fa := ⟨pe_one h.h⟩
theorem e_and {rest : List Expr} (ha : EP' cs X a fa) (hb : EP' cs X (.BoolOp .And (b :: rest) pos) fb) : EP' cs X (.BoolOp .And (a :: b :: rest) pos) (andV fa fb) := ⟨pe_imp (pe_and ha.h hb.h) fun σ H Q ⟨Z, F, ρ, d, R, ef, q⟩ => by
  unfold andV at ef
  obtain ⟨x, ea, ef⟩ := Option.bind_eq_some_iff.mp ef
  obtain ⟨k, ek, ef⟩ := Option.bind_eq_some_iff.mp ef
  have hk0 := asB_some ek
  refine ⟨Z, F, ρ, _, R, ea, fun v F1 H1 e1 R1 r1 => ⟨k, (hk0 ▸ r1).isbl, ?_⟩⟩
  by_cases hk : k = true
  · rw [if_pos hk] at ef ⊢
    exact ⟨Z, F1, ρ, d, R1, ef, fun v F2 H2 e2 R2 r2 => q v F2 H2 (e1.trans e2) R2 r2⟩
  · rw [if_neg hk] at ef ⊢
    cases ef
    exact q _ F1 H1 e1 R1 (.bl false)⟩
theorem e_or {rest : List Expr} (ha : EP' cs X a fa) (hb : EP' cs X (.BoolOp .Or (b :: rest) pos) fb) : EP' cs X (.BoolOp .Or (a :: b :: rest) pos) (orV fa fb) := ⟨pe_imp (pe_or ha.h hb.h) fun σ H Q ⟨Z, F, ρ, d, R, ef, q⟩ => by
  unfold orV at ef
  obtain ⟨x, ea, ef⟩ := Option.bind_eq_some_iff.mp ef
  obtain ⟨k, ek, ef⟩ := Option.bind_eq_some_iff.mp ef
  have hk0 := asB_some ek
  refine ⟨Z, F, ρ, _, R, ea, fun v F1 H1 e1 R1 r1 => ⟨k, (hk0 ▸ r1).isbl, ?_⟩⟩
  by_cases hk : k = true
  · rw [if_pos hk] at ef ⊢
    cases ef
    exact q _ F1 H1 e1 R1 (.bl true)
  · rw [if_neg hk] at ef ⊢
    exact ⟨Z, F1, ρ, d, R1, ef, fun v F2 H2 e2 R2 r2 => q v F2 H2 (e1.trans e2) R2 r2⟩⟩
theorem e_not (ha : EP' cs X a fa) : EP' cs X (.UnaryOp .Not a pos) (notV fa) := ⟨pe_imp (pe_not ha.h) fun σ H Q ⟨Z, F, ρ, d, R, ef, q⟩ => by
  unfold notV at ef
  obtain ⟨x, ea, ef⟩ := Option.bind_eq_some_iff.mp ef
  obtain ⟨k, ek, ef⟩ := Option.map_eq_some_iff.mp ef
  have hk0 := asB_some ek
  subst ef
  exact ⟨Z, F, ρ, _, R, ea, fun v F1 H1 e1 R1 r1 => ⟨k, (hk0 ▸ r1).isbl, q _ F1 H1 e1 R1 (.bl _)⟩⟩⟩
theorem e_if (ht : ET cs X c ga) (ha : EP' cs X a fa) (hb : EP' cs X b fb) : EP' cs X (.IfExp c a b pos) (ifV ga fa fb) := ⟨pe_imp (pe_ifExp ht.h ha.h hb.h) fun σ H Q ⟨Z, F, ρ, d, R, ef, q⟩ => by
  unfold ifV at ef
  obtain ⟨k, ek, ef⟩ := Option.bind_eq_some_iff.mp ef
  refine ⟨Z, F, ρ, k, R, ek, fun F1 H1 e1 R1 => ?_⟩
  by_cases hk : k = true
  · rw [if_pos hk] at ef ⊢
    exact ⟨Z, F1, ρ, d, R1, ef, fun v F2 H2 e2 R2 r2 => q v F2 H2 (e1.trans e2) R2 r2⟩
  · rw [if_neg hk] at ef ⊢
    exact ⟨Z, F1, ρ, d, R1, ef, fun v F2 H2 e2 R2 r2 => q v F2 H2 (e1.trans e2) R2 r2⟩⟩
structure EPW (cs : List Addr) (X : Cx) (e : Expr) (f : Nv → Option Bool) : Prop where
  h : PW X e (tPT X.K cs f)
theorem et_pw (h : EPW cs X a ga) : ET cs X a ga := ⟨h.h.pt⟩
theorem ew_and1 (h : ET cs X a ga) : EPW cs X (.BoolOp .And [a] pos) ga := ⟨pw_and1 h.h⟩
theorem ew_or1 (h : ET cs X a ga) : EPW cs X (.BoolOp .Or [a] pos) ga := ⟨pw_or1 h.h⟩
theorem ew_and {rest : List Expr} (ha : ET cs X a ga) (hb : EPW cs X (.BoolOp .And (b :: rest) pos) gb) : EPW cs X (.BoolOp .And (a :: b :: rest) pos) (andT ga gb) := ⟨pw_imp (pw_and ha.h hb.h) fun σ H Q ⟨Z, F, ρ, d, R, ef, q⟩ => by
  unfold andT at ef
  obtain ⟨k, ek, ef⟩ := Option.bind_eq_some_iff.mp ef
  refine ⟨Z, F, ρ, k, R, ek, fun F1 H1 e1 R1 => ?_⟩
  by_cases hk : k = true
  · rw [if_pos hk] at ef ⊢
    exact ⟨Z, F1, ρ, d, R1, ef, fun F2 H2 e2 R2 => q F2 H2 (e1.trans e2) R2⟩
  · rw [if_neg hk] at ef ⊢
    cases ef
    exact q F1 H1 e1 R1⟩
theorem ew_or {rest : List Expr} (ha : ET cs X a ga) (hb : EPW cs X (.BoolOp .Or (b :: rest) pos) gb) : EPW cs X (.BoolOp .Or (a :: b :: rest) pos) (orT ga gb) := ⟨pw_imp (pw_or ha.h hb.h) fun σ H Q ⟨Z, F, ρ, d, R, ef, q⟩ => by
  unfold orT at ef
  obtain ⟨k, ek, ef⟩ := Option.bind_eq_some_iff.mp ef
  refine ⟨Z, F, ρ, k, R, ek, fun F1 H1 e1 R1 => ?_⟩
  by_cases hk : k = true
  · rw [if_pos hk] at ef ⊢
    cases ef
    exact q F1 H1 e1 R1
  · rw [if_neg hk] at ef ⊢
    exact ⟨Z, F1, ρ, d, R1, ef, fun F2 H2 e2 R2 => q F2 H2 (e1.trans e2) R2⟩⟩
theorem et_not (ha : ET cs X a ga) : ET cs X (.UnaryOp .Not a pos) (notT ga) := ⟨pt_imp (pt_not ha.h) fun σ H Q ⟨Z, F, ρ, d, R, ef, q⟩ => by
  unfold notT at ef
  obtain ⟨k, ek, rfl⟩ := Option.map_eq_some_iff.mp ef
  exact ⟨Z, F, ρ, k, R, ek, fun F1 H1 e1 R1 => q F1 H1 e1 R1⟩⟩
/-- truth -/
def truD : D → Option Bool
  | .none => some false
  | .bool b => some b
  | .int i => some (i != 0)
  | .str x => if x.length ≤ 100000 then some ((x.length : Int) != 0) else none
  | .list xs => some (!xs.isEmpty)
  | .tuple xs => some (!xs.isEmpty)
  | _ => none
theorem Rps.isEmpty {K : PySem.W.Frag} {F : Hp} {vs : List V} {ds : List D} (h : Rps K F vs ds) : vs.isEmpty = ds.isEmpty := by
  cases h <;> rfl
theorem tru_of {K : PySem.W.Frag} {Z F H : Hp} {σ : L2.St} {ρ : Nv} {v : V} {d : D} {k : Bool} (R : Rep K cs Z F H σ ρ) (w : Vw K F σ ρ v d) (h : truD d = some k) : TruV K v H k := by
  have r := R.all w
  cases r with
  | non => cases h; rfl
  | bl b => cases h; rfl
  | int i => cases h; rfl
  | str x =>
    have h : (if x.length ≤ 100000 then some ((x.length : Int) != 0) else none) = some k := h
    split at h
    · rename_i hl
      cases h
      exact ⟨Nat.le_trans hl (by decide), rfl⟩
    · cases h
  | lst s r => cases h; exact .inl ⟨_, s, by rw [r.isEmpty]⟩
  | tup s r => cases h; exact .inr (.inl ⟨_, s, by rw [r.isEmpty]⟩)
  | dK _ _ => cases h
  | dT _ _ => cases h
theorem et_val (h : EW cs X e fa) (he : ∀ whole, isTrue e X.env whole = (do let v ← whole; standAt e.pos; holding [v] (truthy v)) := by intro _; rfl) : ET cs X e (fun ρ => (fa ρ).bind truD) := ⟨pt_imp (pt_truth h.h he) fun σ H Q ⟨Z, F, ρ, k, R, ef, q⟩ => by
  obtain ⟨d, e1, e2⟩ := Option.bind_eq_some_iff.mp ef
  exact ⟨Z, F, ρ, d, R, e1, fun v F' H' e' R' w => ⟨k, tru_of R' w e2, q F' H' e' R'⟩⟩⟩

/-! ### argument lists, displays -/
def cons2 (fa : Nv → Option D) (fr : Nv → Option (List D)) : Nv → Option (List D) := fun ρ => (fa ρ).bind fun x => (fr ρ).map (x :: ·)
theorem ep_nil : EPs cs X [] (fun _ => some []) := ⟨pa_imp pa_nil fun σ H Q ⟨Z, F, ρ, d, R, ef, q⟩ => by
  cases ef
  exact q [] F H (Ext.refl F) R .nil⟩
theorem ep_cons {fr : Nv → Option (List D)} (ha : EP' cs X e fa) (hr : EPs cs X es fr) (hs : starEach (e :: es) X.env = (false, eval e X.env) :: starEach es X.env := by rfl) : EPs cs X (e :: es) (cons2 fa fr) := ⟨pa_imp (pa_cons ha.h hr.h hs) fun σ H Q ⟨Z, F, ρ, d, R, ef, q⟩ => by
  unfold cons2 at ef
  obtain ⟨x, ea, ef⟩ := Option.bind_eq_some_iff.mp ef
  obtain ⟨xs, er, rfl⟩ := Option.map_eq_some_iff.mp ef
  exact ⟨Z, F, ρ, x, R, ea, fun v F1 H1 e1 R1 r1 => ⟨Z, F1, ρ, xs, R1, er, fun vs F2 H2 e2 R2 r2 => q _ F2 H2 (e1.trans e2) R2 (.cons (r1.ext e2) r2)⟩⟩⟩
theorem ewa_nil : EWs cs X [] (fun _ => some []) := ⟨pa_imp pa_nil fun σ H Q ⟨Z, F, ρ, d, R, ef, q⟩ => by
  cases ef
  exact q [] F H (Ext.refl F) R .nil⟩
theorem ewa_cons {fr : Nv → Option (List D)} (ha : EW cs X e fa) (hr : EWs cs X es fr) (hs : starEach (e :: es) X.env = (false, eval e X.env) :: starEach es X.env := by rfl) : EWs cs X (e :: es) (cons2 fa fr) := ⟨pa_imp (pa_cons ha.h hr.h hs) fun σ H Q ⟨Z, F, ρ, d, R, ef, q⟩ => by
  unfold cons2 at ef
  obtain ⟨x, ea, ef⟩ := Option.bind_eq_some_iff.mp ef
  obtain ⟨xs, er, rfl⟩ := Option.map_eq_some_iff.mp ef
  exact ⟨Z, F, ρ, x, R, ea, fun v F1 H1 e1 R1 r1 => ⟨Z, F1, ρ, xs, R1, er, fun vs F2 H2 e2 R2 r2 => q _ F2 H2 (e1.trans e2) R2 (.cons (r1.ext e2) r2)⟩⟩⟩
def mkT (fr : Nv → Option (List D)) : Nv → Option D := fun ρ => (fr ρ).bind fun xs => if xs.length ≤ 100000 then some (.tuple xs) else none
def mkL (fr : Nv → Option (List D)) : Nv → Option D := fun ρ => (fr ρ).bind fun xs => if xs.length ≤ 100000 then some (.list xs) else none
theorem e_tup {k : Nat} {fr : Nv → Option (List D)} (h : EPs cs X es fr) : EP' cs X (.Tuple es k pos) (mkT fr) := ⟨pe_imp (pe_tup h.h) fun σ H Q ⟨Z, F, ρ, d, R, ef, q⟩ => by
  obtain ⟨xs, er, ef⟩ := Option.bind_eq_some_iff.mp ef
  split at ef
  · rename_i hl
    cases ef
    refine ⟨Z, F, ρ, xs, R, er, fun vs F1 H1 e1 R1 r1 => ⟨?_, fun p hp => ?_⟩⟩
    · rw [r1.len]
      exact Nat.le_trans hl (by decide)
    · obtain ⟨R2, e2, _⟩ := R1.new (o := .tup vs) hp
      exact q _ _ _ (e1.trans e2) R2 (.tup (.inl (.inl upd_same)) (r1.ext e2))
  · cases ef⟩
theorem e_lst {fr : Nv → Option (List D)} (h : EPs cs X es fr) : EN cs X (.List es pos) (mkL fr) := ⟨pe_imp (pe_lst h.h) fun σ H Q ⟨Z, F, ρ, d, R, ef, q⟩ => by
  obtain ⟨xs, er, ef⟩ := Option.bind_eq_some_iff.mp ef
  split at ef
  · rename_i hl
    cases ef
    refine ⟨Z, F, ρ, xs, R, er, fun vs F1 H1 e1 R1 r1 => ⟨?_, fun p hp => ?_⟩⟩
    · rw [r1.len]
      exact Nat.le_trans hl (by decide)
    · obtain ⟨R2, fp, zp, mp⟩ := R1.made (o := .lst vs) hp
      exact q _ _ _ e1 R2 fp zp mp ⟨vs, upd_same, r1⟩
  · cases ef⟩

/-! ### items, slices -/
def ixD : D → D → Option D
  | .list xs, .int i => atI xs i
  | .tuple xs, .int i => atI xs i
  | .str z, .int i => if z.length ≤ 100000 then (atI z.cps.toList i).map fun c => .str ⟨#[c]⟩ else none
  | _, _ => none
theorem atI_rp {K : PySem.W.Frag} {F : Hp} {vs : List V} {ds : List D} {i : Int} {d : D} (h : Rps K F vs ds) (e : atI ds i = some d) : ∃ v, atI vs i = some v ∧ Rp K F v d := by
  unfold atI at e ⊢
  rw [h.len]
  obtain ⟨j, e1, e2⟩ := Option.bind_eq_some_iff.mp e
  obtain ⟨v, e3, r⟩ := h.get e2
  exact ⟨v, by rw [e1]; exact e3, r⟩
theorem ox_ix : IxR X (rD X.K cs ixD) := by
  rintro value slice pins s σ H v u a b Q I rx ry ⟨Z, F, σ', ρ, x, y, d, R, w1, w2, e, q⟩ hs
  unfold ixD at e
  split at e
  · cases R.vint w2
    obtain ⟨a1, vs, rfl, s1, r1⟩ := R.lst w1
    obtain ⟨w, e2, r2⟩ := atI_rp r1 e
    exact ix_list value slice pins s σ H _ _ a b Q I rx ry ⟨a1, vs, _, w, rfl, rfl, s1, e2, q w F H (Ext.refl F) R r2⟩ hs
  · cases R.vint w2
    obtain ⟨a1, vs, rfl, _, s1, r1⟩ := R.tup w1
    obtain ⟨w, e2, r2⟩ := atI_rp r1 e
    exact ix_tup value slice pins s σ H _ _ a b Q I rx ry ⟨a1, vs, _, w, rfl, rfl, s1, e2, q w F H (Ext.refl F) R r2⟩ hs
  · cases R.vint w2
    cases R.vstr w1
    split at e
    · rename_i hl
      obtain ⟨c, e2, rfl⟩ := Option.map_eq_some_iff.mp e
      exact ix_str value slice pins s σ H _ _ a b Q I rx ry ⟨_, _, c, rfl, rfl, Nat.le_trans hl (by decide), e2, q _ F H (Ext.refl F) R (.str _)⟩ hs
    · cases e
  · cases e
theorem e_ix (ha : EW cs X a fa) (hb : EW cs X b fb) (hs : PlainIx b) : EP' cs X (.Subscript a b pos) (op2 ixD fa fb) := ⟨pe_imp (pe_ix ox_ix ha.h hb.h hs) t_opD⟩
/-- a bound of a slice -/
structure EO (cs : List Addr) (X : Cx) (e : Option Expr) (f : Nv → Option (Option Int)) : Prop where
  h : PO X e (fun σ H Q => ∃ Z F ρ o, Rep X.K cs Z F H σ ρ ∧ f ρ = some o ∧ ∀ F' H', Ext F F' → Rep X.K cs Z F' H' σ ρ → Q o H')
def asI : D → Option Int
  | .int i => some i
  | _ => none
theorem po_imp {o : Option Expr} {t t' : TO} (h : PO X o t) (i : ∀ σ H Q, t' σ H Q → t σ H Q) : PO X o t' := ⟨fun pins s σ H Q I q => h.run pins s σ H Q I (i σ H Q q)⟩
theorem eo_none : EO cs X none (fun _ => some none) := ⟨po_imp po_none fun σ H Q ⟨Z, F, ρ, o, R, ef, q⟩ => by
  cases ef
  exact q F H (Ext.refl F) R⟩
theorem eo_some (h : EP' cs X a fa) : EO cs X (some a) (fun ρ => (fa ρ).bind fun x => (asI x).map some) := ⟨po_imp (po_some h.h) fun σ H Q ⟨Z, F, ρ, o, R, ef, q⟩ => by
  obtain ⟨x, ea, ef⟩ := Option.bind_eq_some_iff.mp ef
  obtain ⟨i, ei, rfl⟩ := Option.map_eq_some_iff.mp ef
  have hx : x = .int i := by
    cases x <;> simp [asI] at ei
    rw [ei]
  subst hx
  refine ⟨Z, F, ρ, _, R, ea, fun v F1 H1 e1 R1 r1 => ?_⟩
  cases r1
  exact ⟨i, rfl, q F1 H1 e1 R1⟩⟩
def cutD (xs : List D) (lo hi : Option Int) : List D := (xs.drop (HT.sIx xs.length 0 lo)).take (HT.sIx xs.length xs.length hi - HT.sIx xs.length 0 lo)
theorem cut_rp {K : PySem.W.Frag} {F : Hp} {vs : List V} {ds : List D} (h : Rps K F vs ds) (lo hi : Option Int) : Rps K F (cutV vs lo hi) (cutD ds lo hi) := by
  unfold cutV cutD
  rw [h.len]
  exact (h.drop _).take _
/-- a slice of a list: a new one -/
def slL (fa : Nv → Option D) (fl fh : Nv → Option (Option Int)) : Nv → Option D := fun ρ => (fa ρ).bind fun x => (fl ρ).bind fun lo => (fh ρ).bind fun hi => match x with
  | .list xs => some (.list (cutD xs lo hi))
  | _ => none
theorem e_slL {lo hi : Option Expr} {p2 : Pos} {fl fh : Nv → Option (Option Int)} (ha : EW cs X a fa) (hl : EO cs X lo fl) (hh : EO cs X hi fh) : EN cs X (.Subscript a (.Slice lo hi none p2) pos) (slL fa fl fh) := ⟨pe_imp (pe_slice sl_list ha.h hl.h hh.h) fun σ H Q ⟨Z, F, ρ, d, R, ef, q⟩ => by
  unfold slL at ef
  obtain ⟨x, ea, ef⟩ := Option.bind_eq_some_iff.mp ef
  obtain ⟨l, el, ef⟩ := Option.bind_eq_some_iff.mp ef
  obtain ⟨h, eh, ef⟩ := Option.bind_eq_some_iff.mp ef
  split at ef
  · cases ef
    refine ⟨Z, F, ρ, _, R, ea, fun v F1 H1 e1 R1 w1 => ⟨Z, F1, ρ, l, R1, el, fun F2 H2 e2 R2 => ⟨Z, F2, ρ, h, R2, eh, fun F3 H3 e3 R3 => ?_⟩⟩⟩
    obtain ⟨a1, vs, rfl, s1, r1⟩ := R3.lst ((w1.ext e2).ext e3)
    refine ⟨a1, vs, rfl, s1, fun p hp => ?_⟩
    obtain ⟨R4, fp, zp, mp⟩ := R3.made (o := .lst (cutV vs l h)) hp
    exact q _ _ _ ((e1.trans e2).trans e3) R4 fp zp mp ⟨_, upd_same, cut_rp r1 l h⟩
  · cases ef⟩
/-- a slice of a text, of a tuple -/
def rSD (K : PySem.W.Frag) : V → Option Int → Option Int → Hp → VK → Prop := fun x lo hi H Q => rSlS x lo hi H Q ∨ rSlA K x lo hi H Q
def slS (fa : Nv → Option D) (fl fh : Nv → Option (Option Int)) : Nv → Option D := fun ρ => (fa ρ).bind fun x => (fl ρ).bind fun lo => (fh ρ).bind fun hi => match x with
  | .str z => if z.length ≤ 100000 then some (.str (cutS z lo hi)) else none
  | .tuple xs => some (.tuple (cutD xs lo hi))
  | _ => none
theorem cut_whole {xs : List V} {lo hi : Option Int} (h : HT.sIx xs.length 0 lo = 0 ∧ HT.sIx xs.length xs.length hi = xs.length) : cutV xs lo hi = xs := by
  unfold cutV
  rw [h.1, h.2, List.drop_zero, Nat.sub_zero, List.take_length]
theorem e_slS {lo hi : Option Expr} {p2 : Pos} {fl fh : Nv → Option (Option Int)} (ha : EW cs X a fa) (hl : EO cs X lo fl) (hh : EO cs X hi fh) : EP' cs X (.Subscript a (.Slice lo hi none p2) pos) (slS fa fl fh) := ⟨pe_imp (pe_slice (SlR.or sl_str sl_tupA) ha.h hl.h hh.h) fun σ H Q ⟨Z, F, ρ, d, R, ef, q⟩ => by
  unfold slS at ef
  obtain ⟨x, ea, ef⟩ := Option.bind_eq_some_iff.mp ef
  obtain ⟨l, el, ef⟩ := Option.bind_eq_some_iff.mp ef
  obtain ⟨h, eh, ef⟩ := Option.bind_eq_some_iff.mp ef
  refine ⟨Z, F, ρ, x, R, ea, fun v F1 H1 e1 R1 w1 => ⟨Z, F1, ρ, l, R1, el, fun F2 H2 e2 R2 => ⟨Z, F2, ρ, h, R2, eh, fun F3 H3 e3 R3 => ?_⟩⟩⟩
  have e13 := (e1.trans e2).trans e3
  have w3 := (w1.ext e2).ext e3
  split at ef
  · split at ef
    · rename_i hl
      cases ef
      cases R3.vstr w3
      exact .inl ⟨_, rfl, Nat.le_trans hl (by decide), q _ F3 H3 e13 R3 (.str _)⟩
    · cases ef
  · cases ef
    obtain ⟨a1, vs, rfl, s0, s1, r1⟩ := R3.tup w3
    refine .inr ⟨a1, vs, rfl, s1, fun hw => ?_, fun hw p hp => ?_⟩
    · have ec := cut_rp r1 l h
      rw [cut_whole hw] at ec
      exact q _ F3 H3 e13 R3 (.tup s0 ec)
    · obtain ⟨R4, e4, _⟩ := R3.new (o := .tup (cutV vs l h)) hp
      exact q _ _ _ (e13.trans e4) R4 (.tup (.inl (.inl upd_same)) ((cut_rp r1 l h).ext e4))
  · cases ef⟩
end
end DS

namespace DS
open PySem L2

/-! ## calls of what is built in -/
def rDs (K : PySem.W.Frag) (cs : List Addr) (g : List D → Option D) : List V → Hp → VK → Prop := fun vs H Q => ∃ Z F σ ρ ds d, Rep K cs Z F H σ ρ ∧ Vws K F σ ρ vs ds ∧ g ds = some d ∧ ∀ w F' H', Ext F F' → Rep K cs Z F' H' σ ρ → Rp K F' w d → Q w H'
def rNs (K : PySem.W.Frag) (cs : List Addr) (g : List D → Option D) : List V → Hp → VK → Prop := fun vs H Q => ∃ Z F σ ρ ds d, Rep K cs Z F H σ ρ ∧ Vws K F σ ρ vs ds ∧ g ds = some d ∧
  ∀ p F' H', Ext F F' → Rep K cs Z F' H' σ ρ → F' p = none → Z p = none → ¬ Mine σ ρ p → Own K F' H' p d → Q (.ref p) H'
def callD (g : List D → Option D) (fr : Nv → Option (List D)) : Nv → Option D := fun ρ => (fr ρ).bind g
section
variable {cs : List Addr} {X : Cx} {a b c e o : Expr} {es : List Expr} {pos p apos : Pos} {fa fb : Nv → Option D} {fr : Nv → Option (List D)} {g : List D → Option D} {x : Str} {id T : String}
theorem t_callD {K : PySem.W.Frag} : ∀ σ H Q, tP K cs (callD g fr) σ H Q → tCB (rDs K cs g) (tWA K cs fr) σ H Q := fun σ H Q ⟨Z, F, ρ, d, R, ef, q⟩ => by
  obtain ⟨ds, e1, e2⟩ := Option.bind_eq_some_iff.mp ef
  exact ⟨Z, F, ρ, ds, R, e1, fun vs F1 H1 x1 R1 w1 => ⟨Z, F1, σ, ρ, ds, d, R1, w1, e2, fun w F2 H2 x2 R2 r2 => q w F2 H2 (x1.trans x2) R2 r2⟩⟩
theorem t_callN {K : PySem.W.Frag} : ∀ σ H Q, tN K cs (callD g fr) σ H Q → tCB (rNs K cs g) (tWA K cs fr) σ H Q := fun σ H Q ⟨Z, F, ρ, d, R, ef, q⟩ => by
  obtain ⟨ds, e1, e2⟩ := Option.bind_eq_some_iff.mp ef
  exact ⟨Z, F, ρ, ds, R, e1, fun vs F1 H1 x1 R1 w1 => ⟨Z, F1, σ, ρ, ds, d, R1, w1, e2, fun w F2 H2 x2 R2 => q w F2 H2 (x1.trans x2) R2⟩⟩
theorem e_callB (hc : CallR X (.builtin id) (rDs X.K cs g)) (hg : Gl X x) (hm : X.mg x = none) (hv : bootBuiltins x = some (.builtin id)) (ha : EWs cs X (e :: es) fr) (hn : x ≠ "__name__" := by decide) (hdb : (x == ("__debug__" : Str)) = false := by decide)
    (he : starEach (e :: es) X.env = (false, eval e X.env) :: starEach es X.env := by rfl) (hpl : (backTo pos (starEach es X.env)).any (·.1) = false := by rfl) : EP' cs X (.Call (.Name x p) (e :: es) [] pos) (callD g fr) :=
  ⟨pe_imp (pe_callB hc hg hm hv ha.h hn hdb he hpl) t_callD⟩
theorem e_callT (hc : CallR X (.type T) (rDs X.K cs g)) (hg : Gl X x) (hm : X.mg x = none) (hv : bootBuiltins x = some (.type T)) (ha : EWs cs X (e :: es) fr) (hn : x ≠ "__name__" := by decide) (hdb : (x == ("__debug__" : Str)) = false := by decide)
    (he : starEach (e :: es) X.env = (false, eval e X.env) :: starEach es X.env := by rfl) (hpl : (backTo pos (starEach es X.env)).any (·.1) = false := by rfl) : EP' cs X (.Call (.Name x p) (e :: es) [] pos) (callD g fr) :=
  ⟨pe_imp (pe_callTy hc hg hm hv ha.h hn hdb he hpl) t_callD⟩
theorem e_callTN (hc : CallR X (.type T) (rNs X.K cs g)) (hg : Gl X x) (hm : X.mg x = none) (hv : bootBuiltins x = some (.type T)) (ha : EWs cs X (e :: es) fr) (hn : x ≠ "__name__" := by decide) (hdb : (x == ("__debug__" : Str)) = false := by decide)
    (he : starEach (e :: es) X.env = (false, eval e X.env) :: starEach es X.env := by rfl) (hpl : (backTo pos (starEach es X.env)).any (·.1) = false := by rfl) : EN cs X (.Call (.Name x p) (e :: es) [] pos) (callD g fr) :=
  ⟨pe_imp (pe_callTy hc hg hm hv ha.h hn hdb he hpl) t_callN⟩
def lenD : List D → Option D
  | [.str x] => if x.length ≤ 100000 then some (.int x.length) else none
  | [.list xs] => some (.int xs.length)
  | [.tuple xs] => some (.int xs.length)
  | _ => none
theorem vws1 {K : PySem.W.Frag} {F : Hp} {σ : L2.St} {ρ : Nv} {vs : List V} {d : D} (h : Vws K F σ ρ vs [d]) : ∃ v, vs = [v] ∧ Vw K F σ ρ v d := by
  cases h with
  | cons a b =>
    cases b
    exact ⟨_, rfl, a⟩
theorem vws2 {K : PySem.W.Frag} {F : Hp} {σ : L2.St} {ρ : Nv} {vs : List V} {d e : D} (h : Vws K F σ ρ vs [d, e]) : ∃ v u, vs = [v, u] ∧ Vw K F σ ρ v d ∧ Vw K F σ ρ u e := by
  cases h with
  | cons a b =>
    obtain ⟨u, rfl, w⟩ := vws1 b
    exact ⟨_, u, rfl, a, w⟩
theorem cd_len : CallR X (.builtin "len") (rDs X.K cs lenD) := by
  rintro pins s σ H xs us Q I r ⟨Z, F, σ', ρ, ds, d, R, w, e, q⟩
  unfold lenD at e
  split at e
  · split at e
    · rename_i hl
      cases e
      obtain ⟨v, rfl, w1⟩ := vws1 w
      cases R.vstr w1
      exact call_len pins s σ H _ us Q I r ⟨_, _, rfl, ⟨Nat.le_trans hl (by decide), rfl⟩, q _ F H (Ext.refl F) R (.int _)⟩
    · cases e
  · cases e
    obtain ⟨v, rfl, w1⟩ := vws1 w
    obtain ⟨a, vs, rfl, s1, r1⟩ := R.lst w1
    exact call_len pins s σ H _ us Q I r ⟨_, _, rfl, .inl ⟨_, s1, r1.len.symm⟩, q _ F H (Ext.refl F) R (.int _)⟩
  · cases e
    obtain ⟨v, rfl, w1⟩ := vws1 w
    obtain ⟨a, vs, rfl, _, s1, r1⟩ := R.tup w1
    exact call_len pins s σ H _ us Q I r ⟨_, _, rfl, .inr ⟨_, s1, r1.len.symm⟩, q _ F H (Ext.refl F) R (.int _)⟩
  · cases e
def ordD : List D → Option D
  | [.str x] => if x.length = 1 then some (.int (x.cps.getD 0 0 : Nat)) else none
  | _ => none
theorem cd_ord : CallR X (.builtin "ord") (rDs X.K cs ordD) := by
  rintro pins s σ H xs us Q I r ⟨Z, F, σ', ρ, ds, d, R, w, e, q⟩
  unfold ordD at e
  split at e
  · split at e
    · rename_i hl
      cases e
      obtain ⟨v, rfl, w1⟩ := vws1 w
      cases R.vstr w1
      exact call_ord pins s σ H _ us Q I r ⟨_, rfl, hl, q _ F H (Ext.refl F) R (.int _)⟩
    · cases e
  · cases e
def seqD : D → Option (List D)
  | .list xs => some xs
  | .tuple xs => some xs
  | _ => none
def listD : List D → Option D
  | [.list xs] => some (.list xs)
  | [.tuple xs] => some (.list xs)
  | _ => none
theorem cn_list : CallR X (.type "list") (rNs X.K cs listD) := by
  rintro pins s σ H xs us Q I r ⟨Z, F, σ', ρ, ds, d, R, w, e, q⟩
  unfold listD at e
  split at e
  · cases e
    obtain ⟨v, rfl, w1⟩ := vws1 w
    obtain ⟨a, vs, rfl, s1, r1⟩ := R.lst w1
    refine call_list_of pins s σ H _ us Q I r ⟨a, vs, rfl, .inl s1, fun l hl => ?_⟩
    obtain ⟨R4, fp, zp, mp⟩ := R.made (o := .lst vs) hl
    exact q l F _ (Ext.refl F) R4 fp zp mp ⟨vs, upd_same, r1⟩
  · cases e
    obtain ⟨v, rfl, w1⟩ := vws1 w
    obtain ⟨a, vs, rfl, _, s1, r1⟩ := R.tup w1
    refine call_list_of pins s σ H _ us Q I r ⟨a, vs, rfl, .inr s1, fun l hl => ?_⟩
    obtain ⟨R4, fp, zp, mp⟩ := R.made (o := .lst vs) hl
    exact q l F _ (Ext.refl F) R4 fp zp mp ⟨vs, upd_same, r1⟩
  · cases e
def tupD : List D → Option D
  | [.list xs] => some (.tuple xs)
  | [.tuple xs] => some (.tuple xs)
  | _ => none
theorem cd_tuple : CallR X (.type "tuple") (rDs X.K cs tupD) := by
  rintro pins s σ H xs us Q I r ⟨Z, F, σ', ρ, ds, d, R, w, e, q⟩
  unfold tupD at e
  split at e
  · cases e
    obtain ⟨v, rfl, w1⟩ := vws1 w
    obtain ⟨a, vs, rfl, s1, r1⟩ := R.lst w1
    refine call_tuple_of pins s σ H _ us Q I r ⟨a, vs, rfl, .inl ⟨s1, fun l hl => ?_⟩⟩
    obtain ⟨R4, e4, _⟩ := R.new (o := .tup vs) hl
    exact q _ _ _ e4 R4 (.tup (.inl (.inl upd_same)) (r1.ext e4))
  · cases e
    obtain ⟨v, rfl, w1⟩ := vws1 w
    obtain ⟨a, vs, rfl, s0, s1, r1⟩ := R.tup w1
    exact call_tuple_of pins s σ H _ us Q I r ⟨a, vs, rfl, .inr ⟨s1, q _ F H (Ext.refl F) R (.tup s0 r1)⟩⟩
  · cases e

/-! ### isinstance -/
def tyD : D → String
  | .none => "NoneType"
  | .bool _ => "bool"
  | .int _ => "int"
  | .str _ => "str"
  | .list _ => "list"
  | .tuple _ => "tuple"
  | .dict _ => "dict"
theorem tyx_of {K : PySem.W.Frag} {H : Hp} {v : V} {d : D} (h : Rp K H v d) : TyX K H v (.type (tyD d)) := by
  cases h with
  | non => exact .base .non
  | bl b => exact .base (.bl b)
  | int i => exact .base (.int i)
  | str x => exact .base (.str x)
  | lst s r =>
    rcases s with (s | ⟨o, s⟩) | ⟨o, its, n, h1, h2, _⟩
    · exact .base (.lst s)
    · exact .base (.frz s)
    · exact .kList h1 h2
  | tup s r =>
    rcases s with (s | ⟨o, s⟩) | ⟨o, its, n, h1, h2, _⟩
    · exact .base (.tup s)
    · exact .fTuple s
    · exact .kTuple h1 h2
  | dK s _ =>
    rcases s with s | ⟨o, s⟩
    · exact .base (.dK s)
    · exact .fDict s
  | dT s _ => exact .base (.dT s)
/-- isinstance(x, T): by x's kind -/
def isiB (T : String) (d : D) : Bool := match d with
  | .none => T == "NoneType"
  | .bool _ => T == "bool" || T == "int"
  | .int _ => T == "int"
  | .str _ => T == "str"
  | .list _ => T == "list"
  | .tuple _ => T == "tuple"
  | .dict _ => T == "dict"
/-- the kinds that are asked for -/
def IsiT (T : String) : Prop := ∀ d, kitB (tyD d) T = some (isiB T d)
theorem isi_str : IsiT "str" := fun d => by cases d <;> (simp only [tyD, isiB]; decide +kernel)
theorem isi_int : IsiT "int" := fun d => by cases d <;> (simp only [tyD, isiB]; decide +kernel)
theorem isi_bool : IsiT "bool" := fun d => by cases d <;> (simp only [tyD, isiB]; decide +kernel)
theorem isi_list : IsiT "list" := fun d => by cases d <;> (simp only [tyD, isiB]; decide +kernel)
theorem isi_tuple : IsiT "tuple" := fun d => by cases d <;> (simp only [tyD, isiB]; decide +kernel)
theorem isi_dict : IsiT "dict" := fun d => by cases d <;> (simp only [tyD, isiB]; decide +kernel)
theorem e_isi (hT : IsiT T) (hg : Gl X "isinstance") (hm : X.mg "isinstance" = none) (ha : EW cs X e fa) (hgT : Gl X x) (hmT : X.mg x = none) (hvT : bootBuiltins x = some (.type T)) (hn : x ≠ "__name__" := by decide) (hdb : (x == ("__debug__" : Str)) = false := by decide)
    (hs : starEach [e, .Name x p] X.env = (false, eval e X.env) :: starEach [.Name x p] X.env := by rfl) (hs2 : starEach [.Name x p] X.env = (false, eval (.Name x p) X.env) :: starEach [] X.env := by rfl)
    (hpl : (backTo pos (starEach [.Name x p] X.env)).any (·.1) = false := by rfl) :
    EP' cs X (.Call (.Name "isinstance" apos) [e, .Name x p] [] pos) (fun ρ => (fa ρ).map fun d => .bool (isiB T d)) :=
  ⟨pe_imp (pe_callB call_isi hg hm PyProof.Rows.boot_isinstance (pa_cons ha.h (pa_cons (pe_bltn (v := .ty T) hgT hmT hvT rfl hn hdb) pa_nil hs2) hs) (by decide) (by decide) hs hpl) fun σ H Q ⟨Z, F, ρ, d, R, ef, q⟩ => by
    obtain ⟨x', ea, rfl⟩ := Option.map_eq_some_iff.mp ef
    exact ⟨Z, F, ρ, x', R, ea, fun v F1 H1 e1 R1 w1 => ⟨v, .ty T, _, _, _, rfl, .ty T, tyx_of (R1.all w1), kit_ty (hT x'), q _ F1 H1 e1 R1 (.bl _)⟩⟩⟩

/-! ### methods of texts -/
def lowerD : D → Option D
  | .str a => if a.length ≤ 100000 then some (.str (Txt.lower a)) else none
  | _ => none
theorem e_lower (ho : EW cs X o fa) (hbase : attributeBase o "lower" X.env (eval o X.env) = eval o X.env := by rfl) (hline : (apos.endLine == pos.line) = true := by rfl) : EP' cs X (.Call (.Attribute o "lower" apos) [] [] pos) (fun ρ => (fa ρ).bind lowerD) :=
  ⟨pe_imp (pe_lower ho.h hbase hline) fun σ H Q ⟨Z, F, ρ, d, R, ef, q⟩ => by
    obtain ⟨x, ea, e2⟩ := Option.bind_eq_some_iff.mp ef
    refine ⟨Z, F, ρ, x, R, ea, fun v F1 H1 e1 R1 w1 => ?_⟩
    unfold lowerD at e2
    split at e2
    · split at e2
      · rename_i hl
        cases e2
        cases R1.vstr w1
        exact ⟨⟨_, rfl⟩, _, rfl, rfl, Nat.le_trans hl (by decide), q _ F1 H1 e1 R1 (.str _)⟩
      · cases e2
    · cases e2⟩
def strsD : List D → Option (List Str)
  | [] => some []
  | .str x :: r => (strsD r).map (x :: ·)
  | _ => none
theorem strs_rp {K : PySem.W.Frag} {F : Hp} : ∀ {ds : List D} {ys : List Str} {vs : List V}, strsD ds = some ys → Rps K F vs ds → vs = ys.map V.str
  | [], ys, vs, e, r => by
    cases e
    cases r
    rfl
  | d :: ds, ys, vs, e, r => by
    cases r with
    | cons a b =>
      cases a with
      | str x =>
        obtain ⟨zs, e2, rfl⟩ := Option.map_eq_some_iff.mp e
        rw [strs_rp e2 b]
        rfl
      | _ => cases e
/-- sep.join(xs) -/
def joinD (x y : D) : Option D := match x with
  | .str a => (seqD y).bind fun ds => (strsD ds).bind fun ys => if (ys.map (·.length)).sum + ys.length * a.length ≤ 100000 then some (.str (Txt.join a ys)) else none
  | _ => none
theorem e_join (ho : EW cs X o fa) (he : EW cs X e fb) (hs : starEach [e] X.env = [(false, eval e X.env)] := by rfl) (hbase : attributeBase o "join" X.env (eval o X.env) = eval o X.env := by rfl) (hline : (apos.endLine == pos.line) = true := by rfl) :
    EP' cs X (.Call (.Attribute o "join" apos) [e] [] pos) (op2 joinD fa fb) :=
  ⟨pe_imp (pe_join ho.h he.h hs hbase hline) fun σ H Q ⟨Z, F, ρ, d, R, ef, q⟩ => by
    unfold op2 at ef
    obtain ⟨x, ea, ef⟩ := Option.bind_eq_some_iff.mp ef
    obtain ⟨y, eb, ef⟩ := Option.bind_eq_some_iff.mp ef
    unfold joinD at ef
    split at ef
    · obtain ⟨ds, e2, ef⟩ := Option.bind_eq_some_iff.mp ef
      obtain ⟨ys, e3, ef⟩ := Option.bind_eq_some_iff.mp ef
      split at ef
      · rename_i hl
        cases ef
        refine ⟨Z, F, ρ, _, R, ea, fun v F1 H1 e1 R1 w1 => ?_⟩
        cases R1.vstr w1
        refine ⟨⟨_, rfl⟩, Z, F1, ρ, y, R1, eb, fun u F2 H2 e4 R2 w2 => ?_⟩
        unfold seqD at e2
        split at e2
        · cases e2
          obtain ⟨p, vs, rfl, s1, r1⟩ := R2.lst w2
          rw [strs_rp e3 r1] at s1
          exact ⟨_, p, ys, rfl, rfl, .inl s1, Nat.le_trans hl (by decide), q _ F2 H2 (e1.trans e4) R2 (.str _)⟩
        · cases e2
          obtain ⟨p, vs, rfl, _, s1, r1⟩ := R2.tup w2
          rw [strs_rp e3 r1] at s1
          exact ⟨_, p, ys, rfl, rfl, .inr s1, Nat.le_trans hl (by decide), q _ F2 H2 (e1.trans e4) R2 (.str _)⟩
        · cases e2
      · cases ef
    · cases ef⟩
end

/-! ## defs -/
/-- how an argument is handed on: to be read; to be changed and given back; for good -/
inductive Md where
  | ro
  | io
  | mv
/-- what a def comes to: a value (a new list or dict of nobody's, or shared data) and what is given back; or an exception of the class at c -/
inductive Ou where
  | ret (d : D) (own : Bool) (outs : List D)
  | exc (c : Value)
def argC : Md → V → D → Option Cell
  | .ro, _, d => some (.sh d)
  | .io, .ref a, d => some (.io a d)
  | .io, _, _ => none
  | .mv, _, d => some (.ow d)
def argNv : List Md → List V → List D → Nv
  | m :: ms, v :: vs, d :: ds => argC m v d :: argNv ms vs ds
  | _, _, _ => []
/-- the arguments behind the call: outs in the order of the lent ones -/
def outNv : List Md → List V → List D → Nv
  | .io :: ms, .ref a :: vs, d :: ds => some (.io a d) :: outNv ms vs ds
  | _ :: ms, _ :: vs, ds => none :: outNv ms vs ds
  | _, _, _ => []
def ResV (K : PySem.W.Frag) (Z F H : Hp) (σ : L2.St) (ρ : Nv) (v : V) (d : D) (own : Bool) : Prop :=
  if own = true then ∃ p, v = .ref p ∧ F p = none ∧ Z p = none ∧ ¬ Mine σ ρ p ∧ Own K F H p d else Rp K F v d
def ioOk : List Md → List V → Bool
  | .io :: ms, .ref _ :: vs => ioOk ms vs
  | .io :: _, _ => false
  | _ :: ms, _ :: vs => ioOk ms vs
  | _, _ => true
def spD (K : PySem.W.Frag) (cs : List Addr) (ms : List Md) (sem : List D → Option Ou) : Sp := fun vs H Q E => ∃ Z F ds o, vs.length = ms.length ∧ ds.length = ms.length ∧ ioOk ms vs = true ∧ Rep K cs Z F H (vs.map some) (argNv ms vs ds) ∧ sem ds = some o ∧
  match o with
  | .ret d own outs => ∀ v F' H', Ext F F' → Rep K cs Z F' H' (vs.map some) (outNv ms vs outs) → ResV K Z F' H' (vs.map some) (outNv ms vs outs) v d own → Q v H'
  | .exc c => ∀ F' H', Ext F F' → Rep K cs Z F' H' [] [] → E c none H'
end DS

namespace DS
open PySem L2
/-- what is not read by all is others' -/
noncomputable def oth (F H : Hp) : Hp := fun a => match F a with
  | some _ => none
  | none => H a
theorem oth_of {F H : Hp} {a : Addr} {o : HO} (h : F a = none) (e : H a = some o) : oth F H a = some o := by
  unfold oth
  rw [h]
  exact e
theorem of_oth {F H : Hp} {a : Addr} {o : HO} (h : oth F H a = some o) : H a = some o ∧ F a = none := by
  unfold oth at h
  split at h
  · cases h
  · exact ⟨h, by assumption⟩
open Classical
section
variable {K : PySem.W.Frag} {cs : List Addr} {Z F H F' H' : Hp} {σ σ' : L2.St} {ρ ρ' : Nv} {vs : List V} {ds : List D}
theorem shs_get {ds : List D} {i : Nat} {c : Cell} (h : (ds.map fun d => some (Cell.sh d))[i]? = some (some c)) : ∃ d, ds[i]? = some d ∧ c = .sh d := by
  rw [List.getElem?_map] at h
  obtain ⟨d, h1, h2⟩ := Option.map_eq_some_iff.mp h
  cases h2
  exact ⟨d, h1, rfl⟩
/-- a frame that owns nothing and reads ds -/
theorem rep_sh (hl : vs.length = ds.length) (fh : ∀ a o, F a = some o → H a = some o) (zh : ∀ a o, Z a = some o → H a = some o ∧ F a = none) (r : Rps K F vs ds) (tab : ∀ p ∈ cs, F p = some (.ext (tabP p))) :
    Rep K cs Z F H (vs.map some) (ds.map fun d => some (.sh d)) := by
  refine ⟨by rw [List.length_map, List.length_map]; exact hl, fh, zh, fun i c h1 h2 => ?_, fun i d h1 => ?_, fun i j c e a h1 h2 _ _ _ _ => ?_, fun i a d h1 => ?_, tab⟩
  · obtain ⟨d, _, rfl⟩ := shs_get h1
    cases h2
  · obtain ⟨d', h2, e⟩ := shs_get h1
    cases e
    obtain ⟨v, h3, r3⟩ := r.get h2
    exact ⟨v, by rw [List.getElem?_map, h3]; rfl, r3⟩
  · obtain ⟨d, _, rfl⟩ := shs_get h1
    cases h2
  · obtain ⟨d', _, e⟩ := shs_get h1
    cases e
theorem Rep.lend (R : Rep K cs Z F H σ ρ) (r : Rps K F vs ds) : Rep K cs (oth F H) F H (vs.map some) (ds.map fun d => some (.sh d)) :=
  rep_sh r.len R.fh (fun _ _ h => of_oth h) r R.tab
theorem Rep.back (R : Rep K cs Z F H σ ρ) (e : Ext F F') (R' : Rep K cs (oth F H) F' H' σ' ρ') : Rep K cs Z F' H' σ ρ := by
  refine ⟨R.len, R'.fh, fun a o h => ?_, fun i c h1 h2 => ?_, fun i d h1 => ?_, R.inj, R.io, R'.tab⟩
  · obtain ⟨h1, h2⟩ := R.zh a o h
    exact R'.zh a o (oth_of h2 h1)
  · obtain ⟨a, q1, q2, q3, q4⟩ := R.mine i c h1 h2
    obtain ⟨ob, q5, _⟩ := q4.rp
    obtain ⟨q6, q7⟩ := R'.zh a ob (oth_of q2 q5)
    exact ⟨a, q1, q7, q3, q4.ext e (by rw [q6, q5])⟩
  · obtain ⟨v, q1, q2⟩ := R.sh i d h1
    exact ⟨v, q1, q2.ext e⟩
theorem Rep.backN (R : Rep K cs Z F H σ ρ) {p : Addr} (hz : oth F H p = none) : Z p = none ∧ ¬ Mine σ ρ p := by
  refine ⟨?_, fun ⟨i, c, h1, h2, h3⟩ => ?_⟩
  · cases e : Z p with
    | none => rfl
    | some o =>
      obtain ⟨h1, h2⟩ := R.zh p o e
      rw [oth_of h2 h1] at hz
      cases hz
  · obtain ⟨a, q1, q2, q3, q4⟩ := R.mine i c h1 h2
    rw [h3] at q1
    cases q1
    obtain ⟨ob, q5, _⟩ := q4.rp
    rw [oth_of q2 q5] at hz
    cases hz
/-- what is this frame's own is lent, too -/
noncomputable def plusM (σ : L2.St) (ρ : Nv) (F H : Hp) : Hp := fun a => match F a with
  | some o => some o
  | none => if Mine σ ρ a then H a else none
noncomputable def lessM (σ : L2.St) (ρ : Nv) (F : Hp) : Hp := fun a => if Mine σ ρ a then none else F a
theorem plus_ext : Ext F (plusM σ ρ F H) := fun a o e => by
  unfold plusM
  rw [e]
theorem plus_mine {a : Addr} {o : HO} (hf : F a = none) (hm : Mine σ ρ a) (h : H a = some o) : plusM σ ρ F H a = some o := by
  unfold plusM
  rw [hf]
  show (if _ then _ else _) = _
  rw [if_pos hm]
  exact h
theorem plus_of {a : Addr} {o : HO} (R : Rep K cs Z F H σ ρ) (h : plusM σ ρ F H a = some o) : H a = some o := by
  unfold plusM at h
  split at h
  · rename_i o' e
    cases h
    exact R.fh _ _ e
  · split at h
    · exact h
    · cases h
theorem Rep.mineF (R : Rep K cs Z F H σ ρ) {a : Addr} (hm : Mine σ ρ a) : F a = none ∧ Z a = none ∧ ∃ o, H a = some o := by
  obtain ⟨i, c, h1, h2, h3⟩ := hm
  obtain ⟨b, q1, q2, q3, q4⟩ := R.mine i c h1 h2
  rw [h3] at q1
  cases q1
  obtain ⟨ob, q5, _⟩ := q4.rp
  exact ⟨q2, q3, ob, q5⟩
theorem Rep.vwP (R : Rep K cs Z F H σ ρ) {v : V} {d : D} (h : Vw K F σ ρ v d) : Rp K (plusM σ ρ F H) v d := by
  rcases h with h | ⟨i, c, h1, h2, rfl, h3⟩
  · exact h.ext plus_ext
  · obtain ⟨a, e, f, _, o⟩ := R.mine i c h1 h2
    rw [h3] at e
    cases e
    obtain ⟨ob, q1, q2⟩ := o.rp
    exact q2 _ plus_ext (plus_mine f ⟨i, c, h1, h2, h3⟩ q1)
theorem Rep.vwsP (R : Rep K cs Z F H σ ρ) : ∀ {vs : List V} {ds : List D}, Vws K F σ ρ vs ds → Rps K (plusM σ ρ F H) vs ds
  | _, _, .nil => .nil
  | _, _, .cons a b => .cons (R.vwP a) (R.vwsP b)
theorem Rep.lendW (R : Rep K cs Z F H σ ρ) (r : Vws K F σ ρ vs ds) : Rep K cs (oth (plusM σ ρ F H) H) (plusM σ ρ F H) H (vs.map some) (ds.map fun d => some (.sh d)) :=
  rep_sh (R.vwsP r).len (fun _ _ h => plus_of R h) (fun _ _ h => of_oth h) (R.vwsP r) fun p hp => plus_ext p _ (R.tab p hp)
theorem Rep.backW (R : Rep K cs Z F H σ ρ) (e : Ext (plusM σ ρ F H) F') (R' : Rep K cs (oth (plusM σ ρ F H) H) F' H' σ' ρ') : Rep K cs Z (lessM σ ρ F') H' σ ρ ∧ Ext F (lessM σ ρ F') := by
  have ex : Ext F (lessM σ ρ F') := fun a o h => by
    have hm : ¬ Mine σ ρ a := fun z => by
      rw [(R.mineF z).1] at h
      cases h
    unfold lessM
    rw [if_neg hm]
    exact e a o (plus_ext a o h)
  refine ⟨⟨R.len, fun a o h => ?_, fun a o h => ?_, fun i c h1 h2 => ?_, fun i d h1 => ?_, R.inj, R.io, fun p hp => ex p _ (R.tab p hp)⟩, ex⟩
  · unfold lessM at h
    split at h
    · cases h
    · exact R'.fh a o h
  · obtain ⟨h1, h2⟩ := R.zh a o h
    have hm : ¬ Mine σ ρ a := fun z => by
      rw [(R.mineF z).2.1] at h
      cases h
    have hp : plusM σ ρ F H a = none := by
      unfold plusM
      rw [h2]
      show (if _ then _ else _) = _
      rw [if_neg hm]
    obtain ⟨q1, q2⟩ := R'.zh a o (oth_of hp h1)
    refine ⟨q1, ?_⟩
    unfold lessM
    rw [if_neg hm]
    exact q2
  · obtain ⟨a, q1, q2, q3, q4⟩ := R.mine i c h1 h2
    obtain ⟨ob, q5, _⟩ := q4.rp
    have hm : Mine σ ρ a := ⟨i, c, h1, h2, q1⟩
    have q6 := R'.fh a ob (e a ob (plus_mine q2 hm q5))
    refine ⟨a, q1, ?_, q3, q4.ext ex (by rw [q6, q5])⟩
    unfold lessM
    rw [if_pos hm]
  · obtain ⟨v, q1, q2⟩ := R.sh i d h1
    exact ⟨v, q1, q2.ext ex⟩
def scal : D → Bool
  | .none => true
  | .bool _ => true
  | .int _ => true
  | .str _ => true
  | _ => false
theorem Rp.scal {v : V} {d : D} (h : Rp K F v d) (hs : scal d = true) (G : Hp) : Rp K G v d := by
  cases h with
  | non => exact .non
  | bl b => exact .bl b
  | int i => exact .int i
  | str x => exact .str x
  | _ => cases hs
theorem argNv_ro : ∀ {ms : List Md} {vs : List V} {ds : List D}, (∀ m ∈ ms, m = .ro) → vs.length = ms.length → ds.length = ms.length → argNv ms vs ds = ds.map fun d => some (.sh d)
  | [], vs, ds, _, h1, h2 => by
    cases vs with
    | cons _ _ => cases h1
    | nil =>
      cases ds with
      | cons _ _ => cases h2
      | nil => rfl
  | m :: ms, vs, ds, h, h1, h2 => by
    cases vs with
    | nil => cases h1
    | cons v vs =>
      cases ds with
      | nil => cases h2
      | cons d ds =>
        have e : m = .ro := h m List.mem_cons_self
        subst e
        show some (Cell.sh d) :: argNv ms vs ds = some (Cell.sh d) :: _
        rw [argNv_ro (fun m hm => h m (List.mem_cons_of_mem _ hm)) (by simpa using h1) (by simpa using h2)]
end

/-! ## calls of defs that change nothing -/
theorem ioOk_ro : ∀ {ms : List Md} {vs : List V}, (∀ m ∈ ms, m = .ro) → ioOk ms vs = true
  | [], _, _ => by unfold ioOk; rfl
  | m :: ms, [], h => by
    have e : m = .ro := h m List.mem_cons_self
    subst e
    rfl
  | m :: ms, v :: vs, h => by
    have e : m = .ro := h m List.mem_cons_self
    subst e
    exact ioOk_ro (ms := ms) (vs := vs) fun m hm => h m (List.mem_cons_of_mem _ hm)
def callS (n : Nat) (sem : List D → Option Ou) (fr : Nv → Option (List D)) : Nv → Option D := fun ρ => (fr ρ).bind fun ds => if ds.length = n then match sem ds with
  | some (.ret d _ _) => some d
  | _ => none
  else none
/-- .. where the value is a new list or dict -/
def callO (n : Nat) (sem : List D → Option Ou) (fr : Nv → Option (List D)) : Nv → Option D := fun ρ => (fr ρ).bind fun ds => if ds.length = n then match sem ds with
  | some (.ret d true _) => some d
  | _ => none
  else none
/-- .. where it is flat -/
def callF (n : Nat) (sem : List D → Option Ou) (fr : Nv → Option (List D)) : Nv → Option D := fun ρ => (fr ρ).bind fun ds => if ds.length = n then match sem ds with
  | some (.ret d false _) => if scal d = true then some d else none
  | _ => none
  else none
section
variable {cs : List Addr} {X : Cx} {e : Expr} {es : List Expr} {pos p : Pos} {fr : Nv → Option (List D)} {x : Str} {CX : CXT} {k : Nat} {f : Addr} {fd : FuncData} {ps : List Str} {ms : List Md} {sem : List D → Option Ou}
theorem vws_len {K : PySem.W.Frag} {F : Hp} {σ : L2.St} {ρ : Nv} : ∀ {vs : List V} {ds : List D}, Vws K F σ ρ vs ds → vs.length = ds.length
  | _, _, .nil => rfl
  | _, _, .cons _ b => by rw [List.length_cons, List.length_cons, vws_len b]
theorem e_call (F : FnOk X.prog X.w X.K X.mg X.base CX k f fd ps (spD X.K cs ms sem)) (hro : ∀ m ∈ ms, m = .ro) (hr : Room k X.A) (hg : Gl X x) (hm : X.mg x = some (.ref f)) (hk : PySem.W.keepIn X.K (.ref f) = true) (hb : Binds X.K fd ps []) (hx : Passes CX X E0)
    (ha : EPs cs X (e :: es) fr) (hdb : (x == ("__debug__" : Str)) = false := by decide) (he : starEach (e :: es) X.env = (false, eval e X.env) :: starEach es X.env := by rfl) (hpl : (backTo pos (starEach es X.env)).any (·.1) = false := by rfl) :
    EP' cs X (.Call (.Name x p) (e :: es) [] pos) (callS ms.length sem fr) := ⟨pe_imp (pe_call F hr hg hm hk hb .nil hx ha.h hdb he hpl) fun σ H Q ⟨Z, F0, ρ, d, R, ef, q⟩ => by
  obtain ⟨ds, e1, e2⟩ := Option.bind_eq_some_iff.mp ef
  split at e2
  · rename_i hl
    refine ⟨Z, F0, ρ, ds, R, e1, fun vs F1 H1 x1 R1 r1 => ?_⟩
    split at e2
    · rename_i d' own outs es
      cases e2
      rw [List.append_nil]
      have hv : vs.length = ms.length := by rw [r1.len]; exact hl
      refine ⟨oth F1 H1, F1, ds, _, hv, hl, ioOk_ro hro, ?_, es, fun v F2 H2 x2 R2 res => ?_⟩
      · rw [argNv_ro hro hv hl]
        exact R1.lend r1
      · have RB := R1.back x2 R2
        unfold ResV at res
        split at res
        · obtain ⟨p', rfl, h1, h2, h3, h4⟩ := res
          obtain ⟨z1, z2⟩ := R1.backN h2
          obtain ⟨o, g1, g2⟩ := h4.rp
          exact q _ _ _ ((x1.trans x2).trans (Ext.upd h1)) (RB.give g1 h1 z1 z2) (g2 _ (Ext.upd h1) upd_same)
        · exact q v F2 H2 (x1.trans x2) RB res
    · cases e2
  · cases e2⟩
theorem e_callO (F : FnOk X.prog X.w X.K X.mg X.base CX k f fd ps (spD X.K cs ms sem)) (hro : ∀ m ∈ ms, m = .ro) (hr : Room k X.A) (hg : Gl X x) (hm : X.mg x = some (.ref f)) (hk : PySem.W.keepIn X.K (.ref f) = true) (hb : Binds X.K fd ps []) (hx : Passes CX X E0)
    (ha : EPs cs X (e :: es) fr) (hdb : (x == ("__debug__" : Str)) = false := by decide) (he : starEach (e :: es) X.env = (false, eval e X.env) :: starEach es X.env := by rfl) (hpl : (backTo pos (starEach es X.env)).any (·.1) = false := by rfl) :
    EN cs X (.Call (.Name x p) (e :: es) [] pos) (callO ms.length sem fr) := ⟨pe_imp (pe_call F hr hg hm hk hb .nil hx ha.h hdb he hpl) fun σ H Q ⟨Z, F0, ρ, d, R, ef, q⟩ => by
  obtain ⟨ds, e1, e2⟩ := Option.bind_eq_some_iff.mp ef
  split at e2
  · rename_i hl
    refine ⟨Z, F0, ρ, ds, R, e1, fun vs F1 H1 x1 R1 r1 => ?_⟩
    split at e2
    · rename_i d' outs es
      cases e2
      rw [List.append_nil]
      have hv : vs.length = ms.length := by rw [r1.len]; exact hl
      refine ⟨oth F1 H1, F1, ds, _, hv, hl, ioOk_ro hro, ?_, es, fun v F2 H2 x2 R2 res => ?_⟩
      · rw [argNv_ro hro hv hl]
        exact R1.lend r1
      · have RB := R1.back x2 R2
        unfold ResV at res
        rw [if_pos rfl] at res
        obtain ⟨p', rfl, h1, h2, h3, h4⟩ := res
        obtain ⟨z1, z2⟩ := R1.backN h2
        exact q _ _ _ (x1.trans x2) RB h1 z1 z2 h4
    · cases e2
  · cases e2⟩
theorem e_callF (F : FnOk X.prog X.w X.K X.mg X.base CX k f fd ps (spD X.K cs ms sem)) (hro : ∀ m ∈ ms, m = .ro) (hr : Room k X.A) (hg : Gl X x) (hm : X.mg x = some (.ref f)) (hk : PySem.W.keepIn X.K (.ref f) = true) (hb : Binds X.K fd ps []) (hx : Passes CX X E0)
    (ha : EWs cs X (e :: es) fr) (hdb : (x == ("__debug__" : Str)) = false := by decide) (he : starEach (e :: es) X.env = (false, eval e X.env) :: starEach es X.env := by rfl) (hpl : (backTo pos (starEach es X.env)).any (·.1) = false := by rfl) :
    EP' cs X (.Call (.Name x p) (e :: es) [] pos) (callF ms.length sem fr) := ⟨pe_imp (pe_call F hr hg hm hk hb .nil hx ha.h hdb he hpl) fun σ H Q ⟨Z, F0, ρ, d, R, ef, q⟩ => by
  obtain ⟨ds, e1, e2⟩ := Option.bind_eq_some_iff.mp ef
  split at e2
  · rename_i hl
    refine ⟨Z, F0, ρ, ds, R, e1, fun vs F1 H1 x1 R1 w1 => ?_⟩
    split at e2
    · rename_i d' outs es
      split at e2
      · rename_i hs
        cases e2
        rw [List.append_nil]
        have hv : vs.length = ms.length := by rw [vws_len w1]; exact hl
        refine ⟨oth (plusM σ ρ F1 H1) H1, plusM σ ρ F1 H1, ds, _, hv, hl, ioOk_ro hro, ?_, es, fun v F2 H2 x2 R2 res => ?_⟩
        · rw [argNv_ro hro hv hl]
          exact R1.lendW w1
        · obtain ⟨RB, xb⟩ := R1.backW x2 R2
          unfold ResV at res
          rw [if_neg Bool.false_ne_true] at res
          exact q v _ H2 (x1.trans xb) RB (res.scal hs _)
      · cases e2
    · cases e2
  · cases e2⟩
end
end DS

namespace DS
open PySem L2

/-! ## statements -/
inductive SR where
  | nx (ρ : Nv)
  | bk (ρ : Nv)
  | ct (ρ : Nv)
  | rt (d : D) (own : Bool) (ρ : Nv)
  | exc (c : Value)
/-- what is wanted behind a statement, at the names' end ρ -/
def Wish (K : PySem.W.Frag) (cs : List Addr) (E : XK) (Z F : Hp) (n : Nat) (D : Ends) : SR → Prop
  | .nx ρ => ∀ σ F' H', σ.length = n → Ext F F' → Rep K cs Z F' H' σ ρ → D.nx σ H'
  | .bk ρ => ∀ σ F' H', σ.length = n → Ext F F' → Rep K cs Z F' H' σ ρ → D.bk σ H'
  | .ct ρ => ∀ σ F' H', σ.length = n → Ext F F' → Rep K cs Z F' H' σ ρ → D.ct σ H'
  | .rt d own ρ => ∀ v σ F' H', σ.length = n → Ext F F' → Rep K cs Z F' H' σ ρ → ResV K Z F' H' σ ρ v d own → D.rt v H'
  | .exc c => ∀ F' H', Ext F F' → Rep K cs Z F' H' [] [] → E c none H'
def tS (K : PySem.W.Frag) (cs : List Addr) (E : XK) (g : Nv → Option SR) : TS := fun D σ H => ∃ Z F ρ r, Rep K cs Z F H σ ρ ∧ g ρ = some r ∧ Wish K cs E Z F σ.length D r
structure SD (cs : List Addr) (X : Cx) (E : XK) (st : Stmt) (g : Nv → Option SR) : Prop where
  h : PS X st (tS X.K cs E g)
structure SDs (cs : List Addr) (X : Cx) (E : XK) (st : List Stmt) (g : Nv → Option SR) : Prop where
  h : PSs X st (tS X.K cs E g)
def seqS (g g' : Nv → Option SR) : Nv → Option SR := fun ρ => (g ρ).bind fun r => match r with
  | .nx ρ' => g' ρ'
  | r => some r
section
variable {K : PySem.W.Frag} {cs : List Addr} {Z F H F' H' : Hp} {σ σ' : L2.St} {ρ ρ' : Nv} {v : V} {d : D}
theorem Wish.ext {E : XK} {n : Nat} {D : Ends} {r : SR} (e : Ext F F') (h : Wish K cs E Z F n D r) : Wish K cs E Z F' n D r := by
  cases r with
  | nx ρ => exact fun σ G H' l x => h σ G H' l (e.trans x)
  | bk ρ => exact fun σ G H' l x => h σ G H' l (e.trans x)
  | ct ρ => exact fun σ G H' l x => h σ G H' l (e.trans x)
  | rt d o ρ => exact fun v σ G H' l x => h v σ G H' l (e.trans x)
  | exc c => exact fun G H' x => h G H' (e.trans x)
/-- a slot takes shared data -/
theorem Rep.setSh (R : Rep K cs Z F H σ ρ) (i : Nat) (r : Rp K F v d) : Rep K cs Z F H (σ.set i (some v)) (ρ.set i (some (.sh d))) := by
  have hset : ∀ {j : Nat} {c : Cell}, (ρ.set i (some (.sh d)))[j]? = some (some c) → (j = i ∧ c = .sh d ∧ i < ρ.length) ∨ (j ≠ i ∧ ρ[j]? = some (some c)) := fun {j c} h => by
    by_cases hj : j = i
    · subst hj
      by_cases hl : j < ρ.length
      · rw [List.getElem?_set_self hl] at h
        cases h
        exact .inl ⟨rfl, rfl, hl⟩
      · rw [List.getElem?_eq_none (by rw [List.length_set]; omega)] at h
        cases h
    · rw [List.getElem?_set_ne (Ne.symm hj)] at h
      exact .inr ⟨hj, h⟩
  have sne : ∀ {j : Nat}, j ≠ i → (σ.set i (some v))[j]? = σ[j]? := fun hj => List.getElem?_set_ne (Ne.symm hj)
  refine ⟨by rw [List.length_set, List.length_set]; exact R.len, R.fh, R.zh, fun j c h1 h2 => ?_, fun j d' h1 => ?_, fun j k c e a h1 h2 h3 h4 h5 h6 => ?_, fun j a d' h1 => ?_, R.tab⟩
  · rcases hset h1 with ⟨_, rfl, _⟩ | ⟨hj, h⟩
    · cases h2
    · rw [sne hj]
      exact R.mine j c h h2
  · rcases hset h1 with ⟨rfl, e, hl⟩ | ⟨hj, h⟩
    · cases e
      exact ⟨v, by rw [List.getElem?_set_self (by rw [R.len]; exact hl)], r⟩
    · rw [sne hj]
      exact R.sh j d' h
  · rcases hset h1 with ⟨_, rfl, _⟩ | ⟨hj, h⟩
    · cases h2
    · rcases hset h3 with ⟨_, rfl, _⟩ | ⟨hk, h'⟩
      · cases h4
      · rw [sne hj] at h5
        rw [sne hk] at h6
        exact R.inj j k c e a h h2 h' h4 h5 h6
  · rcases hset h1 with ⟨_, e, _⟩ | ⟨hj, h⟩
    · cases e
    · rw [sne hj]
      exact R.io j a d' h
/-- .. a new list or dict -/
theorem Rep.setOw {p : Addr} (R : Rep K cs Z F H σ ρ) (i : Nat) (fp : F p = none) (zp : Z p = none) (mp : ¬ Mine σ ρ p) (o : Own K F H p d) : Rep K cs Z F H (σ.set i (some (.ref p))) (ρ.set i (some (.ow d))) := by
  have hset : ∀ {j : Nat} {c : Cell}, (ρ.set i (some (.ow d)))[j]? = some (some c) → (j = i ∧ c = .ow d ∧ i < ρ.length) ∨ (j ≠ i ∧ ρ[j]? = some (some c)) := fun {j c} h => by
    by_cases hj : j = i
    · subst hj
      by_cases hl : j < ρ.length
      · rw [List.getElem?_set_self hl] at h
        cases h
        exact .inl ⟨rfl, rfl, hl⟩
      · rw [List.getElem?_eq_none (by rw [List.length_set]; omega)] at h
        cases h
    · rw [List.getElem?_set_ne (Ne.symm hj)] at h
      exact .inr ⟨hj, h⟩
  have sne : ∀ {j : Nat}, j ≠ i → (σ.set i (some (V.ref p)))[j]? = σ[j]? := fun hj => List.getElem?_set_ne (Ne.symm hj)
  have sself : i < ρ.length → (σ.set i (some (V.ref p)))[i]? = some (some (.ref p)) := fun hl => by rw [List.getElem?_set_self (by rw [R.len]; exact hl)]
  refine ⟨by rw [List.length_set, List.length_set]; exact R.len, R.fh, R.zh, fun j c h1 h2 => ?_, fun j d' h1 => ?_, fun j k c e a h1 h2 h3 h4 h5 h6 => ?_, fun j a d' h1 => ?_, R.tab⟩
  · rcases hset h1 with ⟨rfl, rfl, hl⟩ | ⟨hj, h⟩
    · exact ⟨p, sself hl, fp, zp, o⟩
    · rw [sne hj]
      exact R.mine j c h h2
  · rcases hset h1 with ⟨rfl, e, hl⟩ | ⟨hj, h⟩
    · cases e
    · rw [sne hj]
      exact R.sh j d' h
  · rcases hset h1 with ⟨rfl, rfl, hl⟩ | ⟨hj, h⟩
    · rcases hset h3 with ⟨rfl, _, _⟩ | ⟨hk, h'⟩
      · rfl
      · rw [sself hl] at h5
        cases h5
        rw [sne hk] at h6
        exact (mp ⟨k, e, h', h4, h6⟩).elim
    · rcases hset h3 with ⟨rfl, rfl, hl⟩ | ⟨hk, h'⟩
      · rw [sself hl] at h6
        cases h6
        rw [sne hj] at h5
        exact (mp ⟨j, c, h, h2, h5⟩).elim
      · rw [sne hj] at h5
        rw [sne hk] at h6
        exact R.inj j k c e a h h2 h' h4 h5 h6
  · rcases hset h1 with ⟨_, e, _⟩ | ⟨hj, h⟩
    · cases e
    · rw [sne hj]
      exact R.io j a d' h
/-- a name is forgotten -/
theorem Rep.drop (R : Rep K cs Z F H σ ρ) (i : Nat) (w : Option V) : Rep K cs Z F H (σ.set i w) (ρ.set i none) := by
  have hset : ∀ {j : Nat} {c : Cell}, (ρ.set i none)[j]? = some (some c) → j ≠ i ∧ ρ[j]? = some (some c) := fun {j c} h => by
    by_cases hj : j = i
    · subst hj
      by_cases hl : j < ρ.length
      · rw [List.getElem?_set_self hl] at h
        cases h
      · rw [List.getElem?_eq_none (by rw [List.length_set]; omega)] at h
        cases h
    · rw [List.getElem?_set_ne (Ne.symm hj)] at h
      exact ⟨hj, h⟩
  have sne : ∀ {j : Nat}, j ≠ i → (σ.set i w)[j]? = σ[j]? := fun hj => List.getElem?_set_ne (Ne.symm hj)
  refine ⟨by rw [List.length_set, List.length_set]; exact R.len, R.fh, R.zh, fun j c h1 h2 => ?_, fun j d' h1 => ?_, fun j k c e a h1 h2 h3 h4 h5 h6 => ?_, fun j a d' h1 => ?_, R.tab⟩
  · obtain ⟨hj, h⟩ := hset h1
    rw [sne hj]
    exact R.mine j c h h2
  · obtain ⟨hj, h⟩ := hset h1
    rw [sne hj]
    exact R.sh j d' h
  · obtain ⟨hj, h⟩ := hset h1
    obtain ⟨hk, h'⟩ := hset h3
    rw [sne hj] at h5
    rw [sne hk] at h6
    exact R.inj j k c e a h h2 h' h4 h5 h6
  · obtain ⟨hj, h⟩ := hset h1
    rw [sne hj]
    exact R.io j a d' h
end
section
variable {cs : List Addr} {X : Cx} {E : XK} {st : Stmt} {rest : List Stmt} {g g' : Nv → Option SR} {e : Expr} {pos : Pos} {fa : Nv → Option D} {ga : Nv → Option Bool}
theorem sd_nil : SDs cs X E [] (fun ρ => some (.nx ρ)) := ⟨pss_imp pss_nil fun D σ H ⟨Z, F, ρ, r, R, e, w⟩ => by
  cases e
  exact w σ F H rfl (Ext.refl F) R⟩
theorem t_seq {K : PySem.W.Frag} : ∀ D σ H, tS K cs E (seqS g g') D σ H → tSeq (tS K cs E g) (tS K cs E g') D σ H := fun D σ H ⟨Z, F, ρ, r, R, e, w⟩ => by
  obtain ⟨r1, e1, e2⟩ := Option.bind_eq_some_iff.mp e
  refine ⟨Z, F, ρ, r1, R, e1, ?_⟩
  cases r1 with
  | nx ρ1 =>
    intro σ1 F1 H1 l1 x1 R1
    exact ⟨Z, F1, ρ1, r, R1, e2, by rw [l1]; exact w.ext x1⟩
  | bk ρ1 => cases e2; exact w
  | ct ρ1 => cases e2; exact w
  | rt d o ρ1 => cases e2; exact w
  | exc c => cases e2; exact w
theorem sd_cons (h1 : SD cs X E st g) (h2 : SDs cs X E rest g') : SDs cs X E (st :: rest) (seqS g g') := ⟨pss_imp (pss_cons h1.h h2.h) t_seq⟩
theorem sd_one (h : SD cs X E st g) : SDs cs X E [st] g := ⟨pss_one h.h⟩
theorem sd_pass : SD cs X E (.Pass pos) (fun ρ => some (.nx ρ)) := ⟨ps_imp ps_pass fun D σ H ⟨Z, F, ρ, r, R, e, w⟩ => by
  cases e
  exact w σ F H rfl (Ext.refl F) R⟩
theorem sd_break : SD cs X E (.Break pos) (fun ρ => some (.bk ρ)) := ⟨ps_imp ps_break fun D σ H ⟨Z, F, ρ, r, R, e, w⟩ => by
  cases e
  exact w σ F H rfl (Ext.refl F) R⟩
theorem sd_cont : SD cs X E (.Continue pos) (fun ρ => some (.ct ρ)) := ⟨ps_imp ps_continue fun D σ H ⟨Z, F, ρ, r, R, e, w⟩ => by
  cases e
  exact w σ F H rfl (Ext.refl F) R⟩
/-- a text that says what is done -/
theorem sd_doc {x : Str} {j : Nat} {pos' : Pos} : SD cs X E (.Expr (.Constant (.str x) j pos) pos') (fun ρ => some (.nx ρ)) := ⟨ps_imp ps_doc fun D σ H ⟨Z, F, ρ, r, R, e, w⟩ => by
  cases e
  exact w σ F H rfl (Ext.refl F) R⟩
/-- code that is never reached -/
theorem sd_never : SD cs X E st (fun _ => none) := ⟨ps_imp ps_never fun D σ H ⟨Z, F, ρ, r, R, e, w⟩ => by cases e⟩
theorem sds_never : SDs cs X E rest (fun _ => none) := ⟨pss_imp pss_never fun D σ H ⟨Z, F, ρ, r, R, e, w⟩ => by cases e⟩
theorem sd_expr (h : EP' cs X e fa) (hs : swapsWith e none pos.line X.env = pure false := by rfl) : SD cs X E (.Expr e pos) (fun ρ => (fa ρ).map fun _ => .nx ρ) := ⟨ps_imp (ps_expr h.h hs) fun D σ H ⟨Z, F, ρ, r, R, ef, w⟩ => by
  obtain ⟨d, e1, rfl⟩ := Option.map_eq_some_iff.mp ef
  exact ⟨Z, F, ρ, d, R, e1, fun v F1 H1 x1 R1 _ => w σ F1 H1 rfl x1 R1⟩⟩
def setS (i : Nat) (fa : Nv → Option D) : Nv → Option SR := fun ρ => (fa ρ).map fun d => .nx (ρ.set i (some (.sh d)))
def setN (i : Nat) (fa : Nv → Option D) : Nv → Option SR := fun ρ => (fa ρ).map fun d => .nx (ρ.set i (some (.ow d)))
theorem sd_set {i : Nat} {x : Str} {pos' : Pos} (hN : X.N.Nodup) (hi : X.N[i]? = some x) (hx : Loc X.env.scope x) (h : EP' cs X e fa) (hs : swapsWith e (some (.Name x pos')) pos.line X.env = pure false := by rfl) (hf : X.fn x = true ∨ X.env.scope.names.lookup x = some .local := by first | exact .inl rfl | exact .inr rfl | assumption) :
    SD cs X E (.Assign [.Name x pos'] e pos) (setS i fa) := ⟨ps_imp (ps_set hN hi hx h.h hs hf) fun D σ H ⟨Z, F, ρ, r, R, ef, w⟩ => by
  obtain ⟨d, e1, rfl⟩ := Option.map_eq_some_iff.mp ef
  exact ⟨Z, F, ρ, d, R, e1, fun v F1 H1 x1 R1 r1 => w _ F1 H1 (by rw [List.length_set]) x1 (R1.setSh i r1)⟩⟩
theorem sd_setN {i : Nat} {x : Str} {pos' : Pos} (hN : X.N.Nodup) (hi : X.N[i]? = some x) (hx : Loc X.env.scope x) (h : EN cs X e fa) (hs : swapsWith e (some (.Name x pos')) pos.line X.env = pure false := by rfl) (hf : X.fn x = true ∨ X.env.scope.names.lookup x = some .local := by first | exact .inl rfl | exact .inr rfl | assumption) :
    SD cs X E (.Assign [.Name x pos'] e pos) (setN i fa) := ⟨ps_imp (ps_set hN hi hx h.h hs hf) fun D σ H ⟨Z, F, ρ, r, R, ef, w⟩ => by
  obtain ⟨d, e1, rfl⟩ := Option.map_eq_some_iff.mp ef
  exact ⟨Z, F, ρ, d, R, e1, fun p F1 H1 x1 R1 fp zp mp o => w _ F1 H1 (by rw [List.length_set]) x1 (R1.setOw i fp zp mp o)⟩⟩
theorem sd_ret (h : EP' cs X e fa) : SD cs X E (.Return (some e) pos) (fun ρ => (fa ρ).map fun d => .rt d false ρ) := ⟨ps_imp (ps_ret h.h) fun D σ H ⟨Z, F, ρ, r, R, ef, w⟩ => by
  obtain ⟨d, e1, rfl⟩ := Option.map_eq_some_iff.mp ef
  exact ⟨Z, F, ρ, d, R, e1, fun v F1 H1 x1 R1 r1 => w v σ F1 H1 rfl x1 R1 (by unfold ResV; rw [if_neg Bool.false_ne_true]; exact r1)⟩⟩
theorem sd_retN (h : EN cs X e fa) : SD cs X E (.Return (some e) pos) (fun ρ => (fa ρ).map fun d => .rt d true ρ) := ⟨ps_imp (ps_ret h.h) fun D σ H ⟨Z, F, ρ, r, R, ef, w⟩ => by
  obtain ⟨d, e1, rfl⟩ := Option.map_eq_some_iff.mp ef
  exact ⟨Z, F, ρ, d, R, e1, fun p F1 H1 x1 R1 fp zp mp o => w _ σ F1 H1 rfl x1 R1 (by unfold ResV; rw [if_pos rfl]; exact ⟨p, rfl, fp, zp, mp, o⟩)⟩⟩
/-- return x, x a name of this frame's own list or dict, or of shared data -/
def retNm (i : Nat) : Nv → Option SR := fun ρ => match ρ[i]? with
  | some (some (.sh d)) => some (.rt d false ρ)
  | some (some (.ow d)) => some (.rt d true (ρ.set i none))
  | _ => none
theorem sd_retNm {i : Nat} {x : Str} {pos' : Pos} (h : PE X (.Name x pos) (tVar i)) : SD cs X E (.Return (some (.Name x pos)) pos') (retNm i) := ⟨ps_imp (ps_ret h) fun D σ H ⟨Z, F, ρ, r, R, ef, w⟩ => by
  unfold retNm at ef
  split at ef
  · rename_i d e
    cases ef
    obtain ⟨v, h1, h2⟩ := R.sh i _ e
    exact ⟨v, h1, w v σ F H rfl (Ext.refl F) R (by unfold ResV; rw [if_neg Bool.false_ne_true]; exact h2)⟩
  · rename_i d e
    cases ef
    obtain ⟨a, h1, h2, h3, h4⟩ := R.mine i _ e rfl
    refine ⟨.ref a, h1, w (.ref a) (σ.set i (some (.ref a))) F H (by rw [List.length_set]) (Ext.refl F) (R.drop i _) ?_⟩
    unfold ResV
    rw [if_pos rfl]
    refine ⟨a, rfl, h2, h3, fun ⟨j, c, g1, g2, g3⟩ => ?_, h4⟩
    by_cases hj : j = i
    · subst hj
      by_cases hl : j < ρ.length
      · rw [List.getElem?_set_self hl] at g1
        cases g1
      · rw [List.getElem?_eq_none (by rw [List.length_set]; omega)] at g1
        cases g1
    · rw [List.getElem?_set_ne (Ne.symm hj)] at g1 g3
      exact hj (R.inj j i c _ a g1 g2 e rfl g3 h1)
  · cases ef⟩
theorem sd_ret0 : SD cs X E (.Return none pos) (fun ρ => some (.rt .none false ρ)) := ⟨ps_imp ps_retN fun D σ H ⟨Z, F, ρ, r, R, ef, w⟩ => by
  cases ef
  exact w .non σ F H rfl (Ext.refl F) R (by unfold ResV; rw [if_neg Bool.false_ne_true]; exact .non)⟩
def ifS (ga : Nv → Option Bool) (g g' : Nv → Option SR) : Nv → Option SR := fun ρ => (ga ρ).bind fun k => if k = true then g ρ else g' ρ
theorem sd_if {a b : List Stmt} {c : Expr} (hc : ET cs X c ga) (ha : SDs cs X E a g) (hb : SDs cs X E b g') : SD cs X E (.If c a b pos) (ifS ga g g') := ⟨ps_imp (ps_if hc.h ha.h hb.h) fun D σ H ⟨Z, F, ρ, r, R, ef, w⟩ => by
  obtain ⟨k, e1, e2⟩ := Option.bind_eq_some_iff.mp ef
  refine ⟨Z, F, ρ, k, R, e1, fun F1 H1 x1 R1 => ?_⟩
  by_cases hk : k = true
  · rw [if_pos hk] at e2 ⊢
    exact ⟨Z, F1, ρ, r, R1, e2, w.ext x1⟩
  · rw [if_neg hk] at e2 ⊢
    exact ⟨Z, F1, ρ, r, R1, e2, w.ext x1⟩⟩

/-! ### while -/
def whileS (t : Nv → Option Bool) (g : Nv → Option SR) : Nat → Nv → Option SR
  | 0, _ => none
  | n + 1, ρ => (t ρ).bind fun k => if k = true then (g ρ).bind fun r => match r with
    | .nx ρ' => whileS t g n ρ'
    | .ct ρ' => whileS t g n ρ'
    | .bk ρ' => some (.nx ρ')
    | r => some r
  else some (.nx ρ)
theorem sd_while {c : Expr} {body : List Stmt} (hp : PassesOwn (model X.prog X.w) X.A X.env X.xe) (hc : ET cs X c ga) (hb : SDs cs X E body g) (n : Nv → Nat) : SD cs X E (.While c body [] pos) (fun ρ => whileS ga g (n ρ) ρ) := ⟨ps_imp (ps_while hp hc.h hb.h) fun D σ H ⟨Z, F, ρ, r, R, ef, w⟩ => by
  refine ⟨fun m σ1 H1 => ∃ F1 ρ1, Ext F F1 ∧ σ1.length = σ.length ∧ Rep X.K cs Z F1 H1 σ1 ρ1 ∧ whileS ga g m ρ1 = some r, ⟨n ρ, F, ρ, Ext.refl F, rfl, R, ef⟩, ?_⟩
  rintro m σ1 H1 ⟨F1, ρ1, x1, l1, R1, e1⟩
  cases m with
  | zero => cases e1
  | succ m =>
    obtain ⟨k, e2, e3⟩ := Option.bind_eq_some_iff.mp e1
    refine ⟨Z, F1, ρ1, k, R1, e2, fun F2 H2 x2 R2 => ?_⟩
    by_cases hk : k = true
    · rw [if_pos hk] at e3
      obtain ⟨r1, e4, e5⟩ := Option.bind_eq_some_iff.mp e3
      rw [if_pos hk]
      have again : ∀ {ρ3 : Nv}, whileS ga g m ρ3 = some r → ∀ σ3 F3 H3, σ3.length = σ1.length → Ext F2 F3 → Rep X.K cs Z F3 H3 σ3 ρ3 → ∃ m', m' < m + 1 ∧ ∃ F1 ρ1, Ext F F1 ∧ σ3.length = σ.length ∧ Rep X.K cs Z F1 H3 σ3 ρ1 ∧ whileS ga g m' ρ1 = some r :=
        fun e6 σ3 F3 H3 l3 x3 R3 => ⟨m, Nat.lt_succ_self m, F3, _, (x1.trans x2).trans x3, l3.trans l1, R3, e6⟩
      refine ⟨fun σ3 H3 => ∃ m', m' < m + 1 ∧ ∃ F1 ρ1, Ext F F1 ∧ σ3.length = σ.length ∧ Rep X.K cs Z F1 H3 σ3 ρ1 ∧ whileS ga g m' ρ1 = some r, fun σ3 H3 h => h, Z, F2, ρ1, r1, R2, e4, ?_⟩
      cases r1 with
      | nx ρ3 => exact fun σ3 F3 H3 l3 x3 R3 => again e5 σ3 F3 H3 l3 x3 R3
      | ct ρ3 => exact fun σ3 F3 H3 l3 x3 R3 => again e5 σ3 F3 H3 l3 x3 R3
      | bk ρ3 =>
        cases e5
        exact fun σ3 F3 H3 l3 x3 R3 => w σ3 F3 H3 (l3.trans l1) ((x1.trans x2).trans x3) R3
      | rt d o ρ3 =>
        cases e5
        exact fun v σ3 F3 H3 l3 x3 R3 => w v σ3 F3 H3 (l3.trans l1) ((x1.trans x2).trans x3) R3
      | exc c =>
        cases e5
        exact fun F3 H3 x3 R3 => w F3 H3 ((x1.trans x2).trans x3) R3
    · rw [if_neg hk] at e3
      cases e3
      rw [if_neg hk]
      exact w σ1 F2 H2 l1 (x1.trans x2) R2⟩
end
end DS

namespace DS
open PySem L2

/-! ## a def by its body -/
def outsOf : List Md → List V → Nv → Option (List D)
  | [], _, _ => some []
  | .io :: ms, .ref a :: vs, some (.io b d) :: ρ => if a = b then (outsOf ms vs ρ).map (d :: ·) else none
  | .io :: _, _, _ => none
  | _ :: ms, _ :: vs, _ :: ρ => outsOf ms vs ρ
  | _ :: _, _, _ => none
def finD (ms : List Md) (vs : List V) : SR → Option Ou
  | .nx ρ => (outsOf ms vs ρ).map (.ret .none false ·)
  | .rt d own ρ => (outsOf ms vs ρ).map (.ret d own ·)
  | .exc c => some (.exc c)
  | _ => none
def runD (ms : List Md) (n : Nat) (g : Nv → Option SR) (vs : List V) (ds : List D) : Option Ou := (g (argNv ms vs ds ++ List.replicate n none)).bind (finD ms vs)
theorem outNv_get : ∀ {ms : List Md} {vs : List V} {ρ : Nv} {outs : List D} {i : Nat} {c : Cell}, outsOf ms vs ρ = some outs → (outNv ms vs outs)[i]? = some (some c) → ∃ a d, c = .io a d ∧ vs[i]? = some (.ref a) ∧ ρ[i]? = some (some (.io a d))
  | [], _, _, _, _, _, h, e => by
    cases h
    simp [outNv] at e
  | .io :: ms, .ref a :: vs, some (.io b d) :: ρ, outs, i, c, h, e => by
    unfold outsOf at h
    split at h
    · rename_i hab
      obtain ⟨os, h2, rfl⟩ := Option.map_eq_some_iff.mp h
      cases i with
      | zero =>
        have e' : some (Cell.io a d) = some c := Option.some.inj e
        cases e'
        exact ⟨a, d, rfl, rfl, by rw [hab]; rfl⟩
      | succ i => exact outNv_get (ms := ms) (i := i) h2 e
    · cases h
  | .ro :: ms, v :: vs, r :: ρ, outs, i, c, h, e => by
    have h' : outsOf ms vs ρ = some outs := by cases v <;> exact h
    cases i with
    | zero => cases v <;> simp [outNv] at e
    | succ i =>
      have e' : (outNv ms vs outs)[i]? = some (some c) := by cases v <;> exact e
      exact outNv_get (ms := ms) (i := i) h' e'
  | .mv :: ms, v :: vs, r :: ρ, outs, i, c, h, e => by
    have h' : outsOf ms vs ρ = some outs := by cases v <;> exact h
    cases i with
    | zero => cases v <;> simp [outNv] at e
    | succ i =>
      have e' : (outNv ms vs outs)[i]? = some (some c) := by cases v <;> exact e
      exact outNv_get (ms := ms) (i := i) h' e'
theorem outNv_len : ∀ {ms : List Md} {vs : List V} {ρ : Nv} {outs : List D}, vs.length = ms.length → outsOf ms vs ρ = some outs → (outNv ms vs outs).length = ms.length
  | [], [], _, _, _, h => by
    cases h
    rfl
  | .io :: ms, .ref a :: vs, some (.io b d) :: ρ, outs, hl, h => by
    unfold outsOf at h
    split at h
    · obtain ⟨os, h2, rfl⟩ := Option.map_eq_some_iff.mp h
      show (outNv ms vs os).length + 1 = ms.length + 1
      rw [outNv_len (by simpa using hl) h2]
    · cases h
  | .ro :: ms, v :: vs, r :: ρ, outs, hl, h => by
    have h' : outsOf ms vs ρ = some outs := by cases v <;> exact h
    have e : outNv (.ro :: ms) (v :: vs) outs = none :: outNv ms vs outs := by cases v <;> rfl
    rw [e, List.length_cons, List.length_cons, outNv_len (by simpa using hl) h']
  | .mv :: ms, v :: vs, r :: ρ, outs, hl, h => by
    have h' : outsOf ms vs ρ = some outs := by cases v <;> exact h
    have e : outNv (.mv :: ms) (v :: vs) outs = none :: outNv ms vs outs := by cases v <;> rfl
    rw [e, List.length_cons, List.length_cons, outNv_len (by simpa using hl) h']
section
variable {K : PySem.W.Frag} {cs : List Addr} {Z F H F' H' : Hp} {σ : L2.St} {ρ : Nv} {ms : List Md} {vs : List V} {outs : List D} {v : V} {d : D} {own : Bool}
theorem Rep.back2 (R : Rep K cs Z F H σ ρ) (hl : vs.length = ms.length) (h : outsOf ms vs ρ = some outs) : Rep K cs Z F H (vs.map some) (outNv ms vs outs) := by
  refine ⟨by rw [List.length_map, outNv_len hl h, hl], R.fh, R.zh, fun i c h1 h2 => ?_, fun i d h1 => ?_, fun i j c e a h1 h2 h3 h4 h5 h6 => ?_, fun i a d h1 => ?_, R.tab⟩
  · obtain ⟨a, d, rfl, h3, h4⟩ := outNv_get h h1
    obtain ⟨a', q1, q2⟩ := R.mine i _ h4 rfl
    have q3 := R.io i a d h4
    rw [q3] at q1
    cases q1
    exact ⟨a, by rw [List.getElem?_map, h3]; rfl, q2⟩
  · obtain ⟨_, _, e, _⟩ := outNv_get h h1
    cases e
  · obtain ⟨a1, d1, rfl, g3, g4⟩ := outNv_get h h1
    obtain ⟨a2, d2, rfl, k3, k4⟩ := outNv_get h h3
    rw [List.getElem?_map, g3] at h5
    rw [List.getElem?_map, k3] at h6
    cases h5
    cases h6
    exact R.inj i j _ _ _ g4 rfl k4 rfl (R.io _ _ _ g4) (R.io _ _ _ k4)
  · obtain ⟨a1, d1, e, g3, g4⟩ := outNv_get h h1
    cases e
    rw [List.getElem?_map, g3]
    rfl
theorem ResV.back2 (R : Rep K cs Z F H σ ρ) (h : outsOf ms vs ρ = some outs) (r : ResV K Z F H σ ρ v d own) : ResV K Z F H (vs.map some) (outNv ms vs outs) v d own := by
  unfold ResV at r ⊢
  split at r
  · rename_i ho
    rw [if_pos ho]
    obtain ⟨p, rfl, h1, h2, h3, h4⟩ := r
    refine ⟨p, rfl, h1, h2, fun ⟨i, c, g1, g2, g3⟩ => ?_, h4⟩
    obtain ⟨a1, d1, rfl, k3, k4⟩ := outNv_get h g1
    rw [List.getElem?_map, k3] at g3
    cases g3
    exact h3 ⟨i, _, k4, rfl, R.io i _ _ k4⟩
  · rename_i ho
    rw [if_neg ho]
    exact r
/-- more names, without values yet -/
theorem Rep.pad (R : Rep K cs Z F H σ ρ) (n : Nat) : Rep K cs Z F H (σ ++ List.replicate n none) (ρ ++ List.replicate n none) := by
  have hg : ∀ {i : Nat} {c : Cell}, (ρ ++ List.replicate n none)[i]? = some (some c) → ρ[i]? = some (some c) ∧ (σ ++ List.replicate n none)[i]? = σ[i]? := fun {i c} h => by
    by_cases hi : i < ρ.length
    · rw [List.getElem?_append_left hi] at h
      exact ⟨h, List.getElem?_append_left (by rw [R.len]; exact hi)⟩
    · rw [List.getElem?_append_right (by omega), List.getElem?_replicate] at h
      split at h <;> cases h
  refine ⟨by rw [List.length_append, List.length_append, R.len, List.length_replicate, List.length_replicate], R.fh, R.zh, fun i c h1 h2 => ?_, fun i d h1 => ?_, fun i j c e a h1 h2 h3 h4 h5 h6 => ?_, fun i a d h1 => ?_, R.tab⟩
  · obtain ⟨g1, g2⟩ := hg h1
    rw [g2]
    exact R.mine i c g1 h2
  · obtain ⟨g1, g2⟩ := hg h1
    rw [g2]
    exact R.sh i d g1
  · obtain ⟨g1, g2⟩ := hg h1
    obtain ⟨k1, k2⟩ := hg h3
    rw [g2] at h5
    rw [k2] at h6
    exact R.inj i j c e a g1 h2 k1 h4 h5 h6
  · obtain ⟨g1, g2⟩ := hg h1
    rw [g2]
    exact R.io i a d g1
end
/-- what the body's run must come to -/
def Comes (ms : List Md) (n : Nat) (g : Nv → Option SR) (sem : List D → Option Ou) : Prop := ∀ vs ds o, vs.length = ms.length → ds.length = ms.length → ioOk ms vs = true → sem ds = some o → runD ms n g vs ds = some o
theorem body_ends {cs : List Addr} {K : PySem.W.Frag} {N ps : List Str} {ms : List Md} {sem : List D → Option Ou} {g : Nv → Option SR} {vs : List V} {H : Hp} {Q : VK} {E : XK} (hm : ms.length = ps.length) (hc : Comes ms (N.length - ps.length) g sem) (h : spD K cs ms sem vs H Q E) :
    tS K cs E g { nx := fun _ H' => Q .non H', rt := Q } (L2.start N vs) H := by
  obtain ⟨Z, F, ds, o, hv, hd, hio, R, hs, q⟩ := h
  have e := hc vs ds o hv hd hio hs
  unfold runD at e
  obtain ⟨r, e1, e2⟩ := Option.bind_eq_some_iff.mp e
  have hst : L2.start N vs = vs.map some ++ List.replicate (N.length - ps.length) none := by
    unfold L2.start
    rw [hv, hm]
  refine ⟨Z, F, _, r, by rw [hst]; exact R.pad _, e1, ?_⟩
  cases r with
  | nx ρ =>
    obtain ⟨outs, e3, rfl⟩ := Option.map_eq_some_iff.mp e2
    exact fun σ F' H' _ x R' => q .non F' H' x (R'.back2 hv e3) (by unfold ResV; rw [if_neg Bool.false_ne_true]; exact .non)
  | bk ρ => cases e2
  | ct ρ => cases e2
  | rt d own ρ =>
    obtain ⟨outs, e3, rfl⟩ := Option.map_eq_some_iff.mp e2
    exact fun v σ F' H' _ x R' res => q v F' H' x (R'.back2 hv e3) (ResV.back2 R' e3 res)
  | exc c =>
    cases e2
    exact q
theorem fn_ds {P : Program} {w : World} {K : PySem.W.Frag} {mg : Str → Option Value} {base : Heap} {cs : List Addr} {x qual : Str} {st : Stmt} {f : Addr} {fd : FuncData} {N ps : List Str} {k : Nat} {ms : List Md} {sem : List D → Option Ou} (F : Fun K x qual st f fd) (S : FnScope N ps (defScope st)) (hm : ms.length = ps.length)
    (hbody : ∀ (cdv : Value) (A : Around) (outer : List Env) (s : Shared) (H : Hp) (E : XK), Room k (A.deeper (PyProof.Rows.envOfC qual (defScope st) s.heap.objs.size f cdv)) →
      ∃ g, SDs cs (cxOf CX0 P w K mg base N qual (defScope st) f cdv A outer s H E).nox E (defBody st) g ∧ Comes ms (N.length - ps.length) g sem) :
    FnOk P w K mg base CX0 (k + 1) f fd ps (spD K cs ms sem) := by
  refine F.ok S (fun vs H Q E h => ?_) fun cdv A outer s H vs Q E hr h => ?_
  · obtain ⟨_, _, _, _, hv, _⟩ := h
    rw [hv, hm]
  · obtain ⟨g, h1, h2⟩ := hbody cdv A outer s H E hr
    exact ⟨_, h1.h, body_ends hm h2 h⟩
end DS

namespace DS
open PySem L2

/-! ## what is walked -/
/-- ds come one by one, while P holds -/
structure Src (K : PySem.W.Frag) (cs : List Addr) (P : Hp → L2.St → Nv → Prop) (J : It) (ds : List D) : Prop where
  mono : ∀ F F' σ ρ, Ext F F' → P F σ ρ → P F' σ ρ
  go : ∀ Z F H σ ρ i x, Rep K cs Z F H σ ρ → P F σ ρ → ds[i]? = some x → J.go i H ∧ ∀ y H', J.yld i H y H' → ∃ F', Ext F F' ∧ Rep K cs Z F' H' σ ρ ∧ Rp K F' y x
  stop : ∀ Z F H σ ρ i, Rep K cs Z F H σ ρ → P F σ ρ → ds.length ≤ i → J.stop i H
/-- whatever the names become -/
def AnyP (P : Hp → L2.St → Nv → Prop) : Prop := ∀ F σ ρ σ' ρ', P F σ ρ → P F σ' ρ'
def noMine (ρ : Nv) (i : Nat) : Bool := match ρ[i]? with
  | some (some c) => !c.mine
  | _ => true
def SetP (P : Hp → L2.St → Nv → Prop) : Prop := ∀ F σ ρ i w c, noMine ρ i = true → P F σ ρ → P F (σ.set i w) (ρ.set i c)
def tI (K : PySem.W.Frag) (cs : List Addr) (C : (Hp → L2.St → Nv → Prop) → Prop) (f : Nv → Option (List D)) : TI := fun σ H R => ∃ Z F ρ ds, Rep K cs Z F H σ ρ ∧ f ρ = some ds ∧ ∀ J P F' H', Ext F F' → Rep K cs Z F' H' σ ρ → P F' σ ρ → C P → Src K cs P J ds → R J H'
structure EI (cs : List Addr) (X : Cx) (C : (Hp → L2.St → Nv → Prop) → Prop) (tg e : Expr) (f : Nv → Option (List D)) : Prop where
  h : PI X tg e (tI X.K cs C f)
theorem AnyP.set {P : Hp → L2.St → Nv → Prop} (h : AnyP P) : SetP P := fun F σ ρ i w c _ p => h F σ ρ _ _ p
section
variable {cs : List Addr} {X : Cx} {tg e a b : Expr} {fa fb : Nv → Option D} {f : Nv → Option (List D)} {p pos : Pos}
theorem pi_imp {wi wi' : TI} (h : PI X tg e wi) (i : ∀ σ H R, wi' σ H R → wi σ H R) : PI X tg e wi' := ⟨fun pins s σ H R I q => h.run pins s σ H R I (i σ H R q)⟩
theorem EI.comp (h : EI cs X AnyP tg e f) : EI cs X SetP tg e f := ⟨pi_imp h.h fun σ H R ⟨Z, F, ρ, ds, r, ef, q⟩ => ⟨Z, F, ρ, ds, r, ef, fun J P F' H' x R' p c s => q J P F' H' x R' p c.set s⟩⟩
def asL : D → Option (List D)
  | .list xs => some xs
  | _ => none
def asTu : D → Option (List D)
  | .tuple xs => some xs
  | _ => none
theorem asL_some {d : D} {xs : List D} (h : asL d = some xs) : d = .list xs := by
  cases d <;> simp [asL] at h
  rw [h]
theorem asTu_some {d : D} {xs : List D} (h : asTu d = some xs) : d = .tuple xs := by
  cases d <;> simp [asTu] at h
  rw [h]
theorem src_list {K : PySem.W.Frag} {a : Addr} {ds : List D} {P : Hp → L2.St → Nv → Prop} (hm : ∀ F F' σ ρ, Ext F F' → P F σ ρ → P F' σ ρ) (h : ∀ Z F H σ ρ, Rep K cs Z F H σ ρ → P F σ ρ → ∃ xs, SqL K H a xs ∧ Rps K F xs ds) : Src K cs P (Itl K a) ds := by
  refine ⟨hm, fun Z F H σ ρ i x R p hi => ?_, fun Z F H σ ρ i R p hi => ?_⟩
  · obtain ⟨xs, s, r⟩ := h Z F H σ ρ R p
    obtain ⟨v, h1, h2⟩ := r.get hi
    refine ⟨⟨xs, v, s, h1⟩, fun y H' ⟨e1, e2⟩ => ?_⟩
    subst e1
    have e3 := e2 xs s
    rw [h1] at e3
    cases e3
    exact ⟨F, Ext.refl F, R, h2⟩
  · obtain ⟨xs, s, r⟩ := h Z F H σ ρ R p
    exact ⟨xs, s, by rw [r.len]; exact hi⟩
/-- a list that all read -/
theorem i_list (h : EP' cs X e fa) : EI cs X AnyP tg e (fun ρ => (fa ρ).bind asL) := ⟨pi_imp (pi_list h.h) fun σ H R ⟨Z, F, ρ, ds, r, ef, q⟩ => by
  obtain ⟨d, e1, e2⟩ := Option.bind_eq_some_iff.mp ef
  have hd := asL_some e2
  refine ⟨Z, F, ρ, d, r, e1, fun v F1 H1 x1 R1 r1 => ?_⟩
  rw [hd] at r1
  cases r1 with
  | lst s t =>
    refine ⟨_, rfl, ⟨_, R1.ex.sqL s⟩, ?_⟩
    refine q _ (fun F _ _ => Ext F1 F) F1 H1 x1 R1 (Ext.refl F1) (fun _ _ _ _ _ p => p) (src_list (fun _ _ _ _ x p => p.trans x) fun Z F H σ ρ R2 p => ?_)
    exact ⟨_, R2.ex.sqL (Ext.sqL p s), t.ext p⟩⟩
/-- a list as it stands -/
theorem i_listW (h : EW cs X e fa) : EI cs X SetP tg e (fun ρ => (fa ρ).bind asL) := ⟨pi_imp (pi_list h.h) fun σ H R ⟨Z, F, ρ, ds, r, ef, q⟩ => by
  obtain ⟨d, e1, e2⟩ := Option.bind_eq_some_iff.mp ef
  have hd := asL_some e2
  refine ⟨Z, F, ρ, d, r, e1, fun v F1 H1 x1 R1 w1 => ?_⟩
  rw [hd] at w1
  obtain ⟨a, xs, rfl, s1, _⟩ := R1.lst w1
  refine ⟨a, rfl, ⟨xs, s1⟩, ?_⟩
  refine q _ (fun F σ ρ => Vw X.K F σ ρ (.ref a) (.list ds)) F1 H1 x1 R1 w1 (fun F σ ρ i w c hn p => ?_) (src_list (fun _ _ _ _ x p => p.ext x) fun Z F H σ ρ R2 p => ?_)
  · rcases p with p | ⟨j, c', h1, h2, h3, h4⟩
    · exact .inl p
    · have hj : j ≠ i := fun z => by
        subst z
        unfold noMine at hn
        rw [h1] at hn
        simp [h2] at hn
      exact .inr ⟨j, c', by rw [List.getElem?_set_ne (Ne.symm hj)]; exact h1, h2, h3, by rw [List.getElem?_set_ne (Ne.symm hj)]; exact h4⟩
  · obtain ⟨a', xs', e3, s', t⟩ := R2.lst p
    cases e3
    exact ⟨xs', s', t⟩⟩
theorem i_tup (h : EP' cs X e fa) : EI cs X AnyP tg e (fun ρ => (fa ρ).bind asTu) := ⟨pi_imp (pi_tup h.h) fun σ H R ⟨Z, F, ρ, ds, r, ef, q⟩ => by
  obtain ⟨d, e1, e2⟩ := Option.bind_eq_some_iff.mp ef
  have hd := asTu_some e2
  refine ⟨Z, F, ρ, d, r, e1, fun v F1 H1 x1 R1 r1 => ?_⟩
  rw [hd] at r1
  cases r1 with
  | tup s t =>
    refine ⟨_, rfl, ⟨_, R1.ex.sqT s⟩, ?_⟩
    refine q _ (fun F _ _ => Ext F1 F) F1 H1 x1 R1 (Ext.refl F1) (fun _ _ _ _ _ p => p) ⟨fun _ _ _ _ x p => p.trans x, fun Z F H σ ρ i x R2 p hi => ?_, fun Z F H σ ρ i R2 p hi => ?_⟩
    · obtain ⟨v, h1, h2⟩ := (t.ext p).get hi
      have s2 := R2.ex.sqT (Ext.sqT p s)
      refine ⟨⟨_, v, s2, h1⟩, fun y H' ⟨e1, e2⟩ => ?_⟩
      subst e1
      have e3 := e2 _ s2
      rw [h1] at e3
      cases e3
      exact ⟨F, Ext.refl F, R2, h2⟩
    · exact ⟨_, R2.ex.sqT (Ext.sqT p s), by rw [t.len]; exact hi⟩⟩
/-- the signs of a text -/
def signsD (x : Str) : List D := x.cps.toList.map fun c => .str ⟨#[c]⟩
def asSg : D → Option (List D)
  | .str x => some (signsD x)
  | _ => none
theorem i_str (h : EW cs X e fa) : EI cs X AnyP tg e (fun ρ => (fa ρ).bind asSg) := ⟨pi_imp (pi_str h.h) fun σ H R ⟨Z, F, ρ, ds, r, ef, q⟩ => by
  obtain ⟨d, e1, e2⟩ := Option.bind_eq_some_iff.mp ef
  refine ⟨Z, F, ρ, d, r, e1, fun v F1 H1 x1 R1 w1 => ?_⟩
  unfold asSg at e2
  split at e2
  · cases e2
    cases R1.vstr w1
    refine ⟨_, rfl, q _ (fun _ _ _ => True) F1 H1 x1 R1 trivial (fun _ _ _ _ _ p => p) ⟨fun _ _ _ _ _ p => p, fun Z F H σ ρ i x R2 _ hi => ?_, fun Z F H σ ρ i R2 _ hi => ?_⟩⟩
    · unfold signsD at hi
      rw [List.getElem?_map] at hi
      obtain ⟨c, h1, rfl⟩ := Option.map_eq_some_iff.mp hi
      rw [Array.getElem?_toList] at h1
      refine ⟨(Array.getElem?_eq_some_iff.mp h1).1, fun y H' ⟨e1, c', e2, e3⟩ => ?_⟩
      subst e1 e3
      rw [h1] at e2
      cases e2
      exact ⟨F, Ext.refl F, R2, .str _⟩
    · unfold signsD at hi
      rw [List.length_map] at hi
      exact hi
  · cases e2⟩
def rngD (lo : Int) (n : Nat) : List D := (List.range n).map fun (i : Nat) => .int (lo + i)
theorem src_rng {K : PySem.W.Frag} (lo : Int) (n : Nat) : Src K cs (fun _ _ _ => True) (Itr lo n) (rngD lo n) := by
  refine ⟨fun _ _ _ _ _ p => p, fun Z F H σ ρ i x R2 _ hi => ?_, fun Z F H σ ρ i R2 _ hi => ?_⟩
  · unfold rngD at hi
    rw [List.getElem?_map] at hi
    obtain ⟨j, h1, rfl⟩ := Option.map_eq_some_iff.mp hi
    obtain ⟨h2, h3⟩ := List.getElem?_eq_some_iff.mp h1
    rw [List.getElem_range] at h3
    subst h3
    rw [List.length_range] at h2
    refine ⟨h2, fun y H' ⟨e1, e2⟩ => ?_⟩
    subst e1 e2
    exact ⟨F, Ext.refl F, R2, .int _⟩
  · unfold rngD at hi
    rw [List.length_map, List.length_range] at hi
    exact hi
def rng1 : List D → Option (List D)
  | [.int j] => if -(2 ^ 62) ≤ j ∧ j < 2 ^ 62 then some (rngD 0 j.toNat) else none
  | _ => none
def rng2 : List D → Option (List D)
  | [.int i, .int j] => if (-(2 ^ 62) ≤ i ∧ i < 2 ^ 62) ∧ (-(2 ^ 62) ≤ j ∧ j < 2 ^ 62) then some (rngD i (j - i).toNat) else none
  | _ => none
theorem rps_int {K : PySem.W.Frag} {F : Hp} {v : V} {i : Int} (h : Rp K F v (.int i)) : v = .int i := by
  cases h
  rfl
theorem i_rng1 {fr : Nv → Option (List D)} (hg : Gl X "range") (hm : X.mg "range" = none) (ha : EPs cs X [a] fr) (hs : starEach [a] X.env = [(false, eval a X.env)] := by rfl) : EI cs X AnyP tg (.Call (.Name "range" p) [a] [] pos) (fun ρ => (fr ρ).bind rng1) :=
  ⟨pi_imp (pi_range1 hg hm ha.h hs) fun σ H R ⟨Z, F, ρ, ds, r, ef, q⟩ => by
    obtain ⟨d, e1, e2⟩ := Option.bind_eq_some_iff.mp ef
    refine ⟨Z, F, ρ, d, r, e1, fun vs F1 H1 x1 R1 r1 => ?_⟩
    unfold rng1 at e2
    split at e2
    · split at e2
      · rename_i hb
        cases e2
        cases r1 with
        | cons t u =>
          cases u
          cases rps_int t
          exact ⟨_, rfl, hb.1, hb.2, q _ _ F1 H1 x1 R1 trivial (fun _ _ _ _ _ p => p) (src_rng 0 _)⟩
      · cases e2
    · cases e2⟩
theorem i_rng2 {fr : Nv → Option (List D)} (hg : Gl X "range") (hm : X.mg "range" = none) (ha : EPs cs X [a, b] fr) (hs : starEach [a, b] X.env = [(false, eval a X.env), (false, eval b X.env)] := by rfl) (hs2 : starEach [b] X.env = [(false, eval b X.env)] := by rfl) :
    EI cs X AnyP tg (.Call (.Name "range" p) [a, b] [] pos) (fun ρ => (fr ρ).bind rng2) :=
  ⟨pi_imp (pi_range2 hg hm ha.h hs hs2) fun σ H R ⟨Z, F, ρ, ds, r, ef, q⟩ => by
    obtain ⟨d, e1, e2⟩ := Option.bind_eq_some_iff.mp ef
    refine ⟨Z, F, ρ, d, r, e1, fun vs F1 H1 x1 R1 r1 => ?_⟩
    unfold rng2 at e2
    split at e2
    · split at e2
      · rename_i hb
        cases e2
        cases r1 with
        | cons t u =>
          cases u with
          | cons t' u =>
            cases u
            cases rps_int t
            cases rps_int t'
            exact ⟨_, _, rfl, ⟨hb.1.1, hb.1.2, hb.2.1, hb.2.2⟩, q _ _ F1 H1 x1 R1 trivial (fun _ _ _ _ _ p => p) (src_rng _ _)⟩
      · cases e2
    · cases e2⟩
def enumD (ds : List D) : List D := (List.range ds.length).map fun (i : Nat) => .tuple [.int i, ds.getD i .none]
theorem i_enum {fr : Nv → Option (List D)} {elts : List Expr} {kk : Nat} {tpos : Pos} (hg : Gl X "enumerate") (hm : X.mg "enumerate" = none) (ha : EPs cs X [a] fr) (hs : starEach [a] X.env = [(false, eval a X.env)] := by rfl) :
    EI cs X AnyP (.Tuple elts kk tpos) (.Call (.Name "enumerate" p) [a] [] pos) (fun ρ => (fr ρ).bind fun ds => match ds with
      | [.list xs] => some (enumD xs)
      | _ => none) :=
  ⟨pi_imp (pi_enum hg hm ha.h hs) fun σ H R ⟨Z, F, ρ, ds, r, ef, q⟩ => by
    obtain ⟨d, e1, e2⟩ := Option.bind_eq_some_iff.mp ef
    refine ⟨Z, F, ρ, d, r, e1, fun vs F1 H1 x1 R1 r1 => ?_⟩
    split at e2
    · rename_i xs
      cases e2
      cases r1 with
      | cons t u =>
        cases u
        cases t with
        | lst s t =>
          refine ⟨_, _, rfl, R1.ex.sqL s, ?_⟩
          refine q _ (fun F _ _ => Ext F1 F) F1 H1 x1 R1 (Ext.refl F1) (fun _ _ _ _ _ p => p) ⟨fun _ _ _ _ x p => p.trans x, fun Z F H σ ρ i x R2 p hi => ?_, fun Z F H σ ρ i R2 p hi => ?_⟩
          · unfold enumD at hi
            rw [List.getElem?_map] at hi
            obtain ⟨j, h1, rfl⟩ := Option.map_eq_some_iff.mp hi
            obtain ⟨h2, h3⟩ := List.getElem?_eq_some_iff.mp h1
            rw [List.getElem_range] at h3
            subst h3
            rw [List.length_range] at h2
            have s2 := R2.ex.sqL (Ext.sqL p s)
            have hx : xs[i]? = some (xs.getD i .none) := by rw [List.getD_eq_getElem?_getD, List.getElem?_eq_getElem h2]; rfl
            obtain ⟨v, g1, g2⟩ := (t.ext p).get hx
            refine ⟨⟨_, v, s2, g1⟩, fun y H' ⟨T, z, e1, e2, e3, e4⟩ => ?_⟩
            have e5 := e4 _ s2
            rw [g1] at e5
            cases e5
            subst e1 e3
            obtain ⟨R3, x3, _⟩ := R2.new (o := .tup [.int (i : Nat), v]) e2
            exact ⟨_, x3, R3, .tup (.inl (.inl upd_same)) (.cons (.int _) (.cons (g2.ext x3) .nil))⟩
          · unfold enumD at hi
            rw [List.length_map, List.length_range] at hi
            exact ⟨_, R2.ex.sqL (Ext.sqL p s), by rw [t.len]; exact hi⟩
    · cases e2⟩
end

/-! ## what is stored -/
def tG (K : PySem.W.Frag) (cs : List Addr) (a : D → Nv → Option Nv) : TG := fun v σ H Q => ∃ Z F ρ d ρ', Rep K cs Z F H σ ρ ∧ Rp K F v d ∧ a d ρ = some ρ' ∧ ∀ σ' F' H', σ'.length = σ.length → Ext F F' → Rep K cs Z F' H' σ' ρ' → Q σ' H'
def tGs (K : PySem.W.Frag) (cs : List Addr) (a : List D → Nv → Option Nv) : TGs := fun vs σ H Q => ∃ Z F ρ ds ρ', Rep K cs Z F H σ ρ ∧ Rps K F vs ds ∧ a ds ρ = some ρ' ∧ ∀ σ' F' H', σ'.length = σ.length → Ext F F' → Rep K cs Z F' H' σ' ρ' → Q σ' H'
structure GD (cs : List Addr) (X : Cx) (tg : Expr) (a : D → Nv → Option Nv) : Prop where
  h : PG X tg (tG X.K cs a)
structure GDs (cs : List Addr) (X : Cx) (tg : List Expr) (a : List D → Nv → Option Nv) : Prop where
  h : PGs X tg (tGs X.K cs a)
section
variable {cs : List Addr} {X : Cx} {tg : Expr} {tgs : List Expr} {pos : Pos} {a : D → Nv → Option Nv} {as : List D → Nv → Option Nv}
theorem pg_imp {t t' : TG} (h : PG X tg t) (i : ∀ v σ H Q, t' v σ H Q → t v σ H Q) : PG X tg t' := ⟨fun pins s σ H v u Q I r q => h.run pins s σ H v u Q I r (i v σ H Q q)⟩
theorem pgs_imp {t t' : TGs} (h : PGs X tgs t) (i : ∀ v σ H Q, t' v σ H Q → t v σ H Q) : PGs X tgs t' := ⟨fun pins s σ H v u Q I r q => h.run pins s σ H v u Q I r (i v σ H Q q)⟩
def toNm (i : Nat) : D → Nv → Option Nv := fun d ρ => some (ρ.set i (some (.sh d)))
theorem g_name {i : Nat} {x : Str} (hN : X.N.Nodup) (hi : X.N[i]? = some x) (hx : Loc X.env.scope x) (hf : X.fn x = true ∨ X.env.scope.names.lookup x = some .local := by first | exact .inl rfl | exact .inr rfl | assumption) : GD cs X (.Name x pos) (toNm i) :=
  ⟨pg_imp (pg_name hN hi hx hf) fun v σ H Q ⟨Z, F, ρ, d, ρ', R, r, e, q⟩ => by
    cases e
    exact q _ F H (by rw [List.length_set]) (Ext.refl F) (R.setSh i r)⟩
def toNil : List D → Nv → Option Nv
  | [], ρ => some ρ
  | _, _ => none
def toCons (a : D → Nv → Option Nv) (as : List D → Nv → Option Nv) : List D → Nv → Option Nv
  | d :: r, ρ => (a d ρ).bind (as r)
  | _, _ => none
theorem gs_nil : GDs cs X [] toNil := ⟨pgs_imp pgs_nil fun v σ H Q ⟨Z, F, ρ, ds, ρ', R, r, e, q⟩ => by
  unfold toNil at e
  split at e
  · cases e
    cases r
    exact ⟨rfl, q σ F H rfl (Ext.refl F) R⟩
  · cases e⟩
theorem gs_cons (h1 : GD cs X tg a) (h2 : GDs cs X tgs as) (hs : (assignEach (tg :: tgs) X.env).map (·.2) = assign tg X.env :: (assignEach tgs X.env).map (·.2) := by rfl) : GDs cs X (tg :: tgs) (toCons a as) := ⟨pgs_imp (pgs_cons h1.h h2.h hs) fun v σ H Q ⟨Z, F, ρ, ds, ρ', R, r, e, q⟩ => by
  unfold toCons at e
  split at e
  · obtain ⟨ρ1, e1, e2⟩ := Option.bind_eq_some_iff.mp e
    cases r with
    | cons t u =>
      exact ⟨_, _, rfl, Z, F, ρ, _, ρ1, R, t, e1, fun σ1 F1 H1 l1 x1 R1 => ⟨Z, F1, ρ1, _, ρ', R1, u.ext x1, e2, fun σ2 F2 H2 l2 x2 R2 => q σ2 F2 H2 (l2.trans l1) (x1.trans x2) R2⟩⟩
  · cases e⟩
def toTu (n : Nat) (as : List D → Nv → Option Nv) : D → Nv → Option Nv := fun d ρ => match d with
  | .tuple ds => if ds.length = n then as ds ρ else none
  | _ => none
theorem g_tup {k n : Nat} (hc : X.calm = true) (h : GDs cs X tgs as) (hn : (assignEach tgs X.env).length = n := by rfl) (hst : (assignEach tgs X.env).findIdx? (·.1) = none := by rfl) : GD cs X (.Tuple tgs k pos) (toTu n as) := ⟨pg_imp (pg_tup hc h.h hn hst) fun v σ H Q ⟨Z, F, ρ, d, ρ', R, r, e, q⟩ => by
  unfold toTu at e
  split at e
  · split at e
    · rename_i hl
      cases r with
      | tup s t => exact ⟨_, _, rfl, R.ex.sqT s, by rw [t.len]; exact hl, Z, F, ρ, _, ρ', R, t, e, q⟩
    · cases e
  · cases e⟩
end

/-! ## for -/
def forS (a : D → Nv → Option Nv) (g : Nv → Option SR) : List D → Nv → Option SR
  | [], ρ => some (.nx ρ)
  | d :: ds, ρ => (a d ρ).bind fun ρ1 => (g ρ1).bind fun r => match r with
    | .nx ρ2 => forS a g ds ρ2
    | .ct ρ2 => forS a g ds ρ2
    | .bk ρ2 => some (.nx ρ2)
    | r => some r
section
variable {cs : List Addr} {X : Cx} {E : XK} {tg iter : Expr} {body : List Stmt} {pos : Pos} {a : D → Nv → Option Nv} {f : Nv → Option (List D)} {g : Nv → Option SR}
theorem sd_for (hp : PassesOwn (model X.prog X.w) X.A X.env X.xe) (hc : X.calm = true) (hi : EI cs X AnyP tg iter f) (hg : GD cs X tg a) (hb : SDs cs X E body g) (hs : ∀ x, foldedSetIterable iter X.env x = pure x := by intro _; rfl) :
    SD cs X E (.For tg iter body [] pos) (fun ρ => (f ρ).bind fun ds => forS a g ds ρ) := ⟨ps_imp (ps_for hp hc hi.h hg.h hb.h hs) fun D σ H ⟨Z, F, ρ, r, R, ef, w⟩ => by
  obtain ⟨ds, e1, e2⟩ := Option.bind_eq_some_iff.mp ef
  refine ⟨Z, F, ρ, ds, R, e1, fun J P F1 H1 x1 R1 p1 hP S => ?_⟩
  refine ⟨fun i m σ2 H2 => i + m = ds.length ∧ ∃ F2 ρ2, Ext F F2 ∧ σ2.length = σ.length ∧ Rep X.K cs Z F2 H2 σ2 ρ2 ∧ P F2 σ2 ρ2 ∧ forS a g (ds.drop i) ρ2 = some r, ⟨ds.length, by omega, F1, ρ, x1, rfl, R1, p1, by rw [List.drop_zero]; exact e2⟩, ?_⟩
  rintro i m σ2 H2 ⟨hm, F2, ρ2, x2, l2, R2, p2, e3⟩
  by_cases hlt : i < ds.length
  · have hd : ds.drop i = ds[i] :: ds.drop (i + 1) := List.drop_eq_getElem_cons hlt
    rw [hd] at e3
    obtain ⟨ρ3, e4, e5⟩ := Option.bind_eq_some_iff.mp e3
    obtain ⟨r1, e6, e7⟩ := Option.bind_eq_some_iff.mp e5
    obtain ⟨hgo, hy⟩ := S.go Z F2 H2 σ2 ρ2 i ds[i] R2 p2 (List.getElem?_eq_getElem hlt)
    refine .inr ⟨hgo, fun σ3 H3 => ∃ m', m' < m ∧ (i + 1) + m' = ds.length ∧ ∃ F3 ρ3, Ext F F3 ∧ σ3.length = σ.length ∧ Rep X.K cs Z F3 H3 σ3 ρ3 ∧ P F3 σ3 ρ3 ∧ forS a g (ds.drop (i + 1)) ρ3 = some r, fun σ3 H3 h => h, fun y H3 hyl => ?_⟩
    obtain ⟨F3, x3, R3, r3⟩ := hy y H3 hyl
    refine ⟨Z, F3, ρ2, ds[i], ρ3, R3, r3, e4, fun σ4 F4 H4 l4 x4 R4 => ⟨Z, F4, ρ3, r1, R4, e6, ?_⟩⟩
    have x24 : Ext F F4 := (x2.trans x3).trans x4
    have l42 : σ4.length = σ.length := l4.trans l2
    have p4 : ∀ {F5 : Hp} {σ5 : L2.St} {ρ5 : Nv}, Ext F4 F5 → P F5 σ5 ρ5 := fun {F5 σ5 ρ5} x5 => hP _ _ _ _ _ (S.mono _ _ _ _ ((x3.trans x4).trans x5) p2)
    cases r1 with
    | nx ρ5 => exact fun σ5 F5 H5 l5 x5 R5 => ⟨m - 1, by omega, by omega, F5, ρ5, x24.trans x5, l5.trans l42, R5, p4 x5, e7⟩
    | ct ρ5 => exact fun σ5 F5 H5 l5 x5 R5 => ⟨m - 1, by omega, by omega, F5, ρ5, x24.trans x5, l5.trans l42, R5, p4 x5, e7⟩
    | bk ρ5 =>
      cases e7
      exact fun σ5 F5 H5 l5 x5 R5 => w σ5 F5 H5 (l5.trans l42) (x24.trans x5) R5
    | rt d o ρ5 =>
      cases e7
      exact fun v σ5 F5 H5 l5 x5 R5 => w v σ5 F5 H5 (l5.trans l42) (x24.trans x5) R5
    | exc c =>
      cases e7
      exact fun F5 H5 x5 R5 => w F5 H5 (x24.trans x5) R5
  · have hd : ds.drop i = [] := List.drop_of_length_le (by omega)
    rw [hd] at e3
    cases e3
    exact .inl ⟨S.stop Z F2 H2 σ2 ρ2 i R2 p2 (by omega), w σ2 F2 H2 l2 x2 R2⟩⟩
end

/-! ## list comprehensions -/
def lcD (i : Nat) (t : Nv → Option Bool) (f : Nv → Option D) (ρ : Nv) : List D → Option (List D)
  | [] => some []
  | x :: xs => (t (ρ.set i (some (.sh x)))).bind fun b => if b = true then (f (ρ.set i (some (.sh x)))).bind fun y => (lcD i t f ρ xs).map (y :: ·) else lcD i t f ρ xs
structure ETs (cs : List Addr) (X : Cx) (ifs : List Expr) (f : Nv → Option Bool) : Prop where
  h : PTs X ifs (tPT X.K cs f)
section
variable {cs : List Addr} {X : Cx} {c : Expr} {ga : Nv → Option Bool}
theorem pts_imp {ifs : List Expr} {t t' : TT} (h : PTs X ifs t) (i : ∀ σ H Q, t' σ H Q → t σ H Q) : PTs X ifs t' := ⟨fun pins s σ H Q I q => h.run pins s σ H Q I (i σ H Q q)⟩
theorem ets_nil : ETs cs X [] (fun _ => some true) := ⟨pts_imp pts_nil fun σ H Q ⟨Z, F, ρ, b, R, e, q⟩ => by
  cases e
  exact q F H (Ext.refl F) R⟩
theorem ets_one (h : ET cs X c ga) : ETs cs X [c] ga := ⟨pts_one h.h⟩
end
section
variable {K : PySem.W.Frag} {cs : List Addr} {Z Z' F H F' H' : Hp} {σ : L2.St} {ρ : Nv} {i : Nat}
/-- behind the block -/
theorem Rep.restore {w : Option V} {c : Option Cell} (R : Rep K cs Z F H σ ρ) (hn : noMine ρ i = true) (hc : ∀ c', c = some c' → c'.mine = false) (x : Ext F F') (hz : ∀ a o, Z a = some o → Z' a = some o) (R' : Rep K cs Z' F' H' (σ.set i w) (ρ.set i c)) : Rep K cs Z F' H' σ ρ := by
  have nm : ∀ {j : Nat} {e : Cell}, ρ[j]? = some (some e) → e.mine = true → j ≠ i := fun {j e} h1 h2 z => by
    subst z
    unfold noMine at hn
    rw [h1] at hn
    simp [h2] at hn
  refine ⟨R.len, R'.fh, fun a o h => R'.zh a o (hz a o h), fun j e h1 h2 => ?_, fun j d h1 => ?_, R.inj, R.io, R'.tab⟩
  · have hj := nm h1 h2
    obtain ⟨a, q1, q2, q3, q4⟩ := R'.mine j e (by rw [List.getElem?_set_ne (Ne.symm hj)]; exact h1) h2
    rw [List.getElem?_set_ne (Ne.symm hj)] at q1
    refine ⟨a, q1, q2, ?_, q4⟩
    cases hza : Z a with
    | none => rfl
    | some o => rw [hz a o hza] at q3; cases q3
  · obtain ⟨v, q1, q2⟩ := R.sh j d h1
    exact ⟨v, q1, q2.ext x⟩
/-- an object of nobody's is set aside -/
theorem Rep.aside {p : Addr} {o : HO} (R : Rep K cs Z F H σ ρ) (hp : H p = some o) (fp : F p = none) (mp : ¬ Mine σ ρ p) : Rep K cs (upd Z p o) F H σ ρ := by
  refine ⟨R.len, R.fh, fun a u h => ?_, fun j e h1 h2 => ?_, R.sh, R.inj, R.io, R.tab⟩
  · by_cases ha : a = p
    · subst ha
      rw [upd_same] at h
      cases h
      exact ⟨hp, fp⟩
    · rw [upd_ne ha] at h
      exact R.zh a u h
  · obtain ⟨a, q1, q2, q3, q4⟩ := R.mine j e h1 h2
    have ha : a ≠ p := fun z => mp ⟨j, e, h1, h2, by rw [← z]; exact q1⟩
    exact ⟨a, q1, q2, by rw [upd_ne ha]; exact q3, q4⟩
/-- .. and changed there -/
theorem Rep.asideSet {p : Addr} {o o' : HO} (R : Rep K cs (upd Z p o) F H σ ρ) : Rep K cs (upd Z p o') F (upd H p o') σ ρ := by
  obtain ⟨hp, fp⟩ := R.zh p o upd_same
  refine ⟨R.len, fun a u h => ?_, fun a u h => ?_, fun j e h1 h2 => ?_, R.sh, R.inj, R.io, R.tab⟩
  · rw [upd_ne (ne_of_none h fp)]
    exact R.fh a u h
  · by_cases ha : a = p
    · subst ha
      rw [upd_same] at h ⊢
      exact ⟨h, fp⟩
    · rw [upd_ne ha] at h
      rw [upd_ne ha]
      exact R.zh a u (by rw [upd_ne ha]; exact h)
  · obtain ⟨a, q1, q2, q3, q4⟩ := R.mine j e h1 h2
    have ha : a ≠ p := fun z => by rw [z, upd_same] at q3; cases q3
    exact ⟨a, q1, q2, by rw [upd_ne ha] at q3 ⊢; exact q3, q4.ext (Ext.refl F) (upd_ne ha)⟩
end
section
variable {cs : List Addr} {X : Cx} {elt iter : Expr} {ifs : List Expr} {scope : Scope} {x : Str} {i : Nat} {px pos : Pos} {f : Nv → Option (List D)} {t : Nv → Option Bool} {fe : Nv → Option D}
def lcV (i : Nat) (f : Nv → Option (List D)) (t : Nv → Option Bool) (fe : Nv → Option D) : Nv → Option D := fun ρ => (f ρ).bind fun ds => if noMine ρ i = true ∧ ds.length ≤ 100000 then (lcD i t fe ρ ds).map .list else none
theorem lcD_len {t : Nv → Option Bool} {fe : Nv → Option D} {ρ : Nv} : ∀ {ds : List D} {ys : List D}, lcD i t fe ρ ds = some ys → ys.length ≤ ds.length
  | [], _, h => by
    cases h
    exact Nat.le_refl _
  | d :: ds, ys, h => by
    obtain ⟨b, _, h2⟩ := Option.bind_eq_some_iff.mp h
    split at h2
    · obtain ⟨y, _, h3⟩ := Option.bind_eq_some_iff.mp h2
      obtain ⟨zs, h4, rfl⟩ := Option.map_eq_some_iff.mp h3
      have := lcD_len h4
      simp only [List.length_cons]
      omega
    · have := lcD_len h2
      simp only [List.length_cons]
      omega
theorem e_lc (hc : X.calm = true) (hN : X.N.Nodup) (hix : X.N[i]? = some x) (hi : EI cs X SetP (.Name x px) iter f) (ok : BlkOk X.N X.env.scope scope [(x, i)])
    (hl : ∀ (s : Shared) (H : Hp) (C : Addr) (cl : List (Str × Addr)) (fp : List Addr), (X.blk s H scope (compEnvC scope cl C X.env) fp).env.scope.names.lookup x = some .local)
    (ht : ∀ (s : Shared) (H : Hp) (C : Addr) (cl : List (Str × Addr)) (fp : List Addr), ETs cs (X.blk s H scope (compEnvC scope cl C X.env) fp) ifs t)
    (he : ∀ (s : Shared) (H : Hp) (C : Addr) (cl : List (Str × Addr)) (fp : List Addr), EP' cs (X.blk s H scope (compEnvC scope cl C X.env) fp) elt fe) (hs : ∀ x, foldedSetIterable iter X.env x = pure x := by intro _; rfl) :
    EN cs X (.ListComp elt [⟨.Name x px, iter, ifs, 0⟩] scope pos) (lcV i f t fe) := by
  refine ⟨pe_imp (pe_lc (own := [(x, i)]) (g := gName i) (tt := tPT X.K cs t) (te := tP X.K cs fe) hc hN hi.h ok (fun s H C cl fp => pg_name (X := X.blk s H scope (compEnvC scope cl C X.env) fp) (i := i) hN hix (.inl (hl s H C cl fp)) (.inr (hl s H C cl fp))) (fun s H C cl fp => (ht s H C cl fp).h) (fun s H C cl fp => (he s H C cl fp).h) hs) ?_⟩
  rintro σ H Q ⟨Z, F, ρ, d, R, ef, q⟩
  obtain ⟨ds, e1, e2⟩ := Option.bind_eq_some_iff.mp ef
  split at e2
  · rename_i hb
    obtain ⟨hn, hdl⟩ := hb
    obtain ⟨ys, e3, rfl⟩ := Option.map_eq_some_iff.mp e2
    refine ⟨Z, F, ρ, ds, R, e1, fun J P F1 H1 x1 R1 p1 hP S D hD => ?_⟩
    -- D, the new list, is set aside
    obtain ⟨R2, fD, zD, mD⟩ := R1.made (o := .lst []) hD
    have R3 := R2.aside upd_same fD mD
    have R4 : Rep X.K cs (upd Z D (.lst [])) F1 (upd H1 D (.lst [])) (σ.set i none) (ρ.set i none) := R3.drop i none
    have pS : P F1 (σ.set i none) (ρ.set i none) := hP _ _ _ _ _ _ hn p1
    refine ⟨fun k m H2 => k + m = ds.length ∧ ∃ F2 acc zs rest, Ext F1 F2 ∧ Rep X.K cs (upd Z D (.lst acc)) F2 H2 (σ.set i none) (ρ.set i none) ∧ P F2 (σ.set i none) (ρ.set i none) ∧ Rps X.K F2 acc zs ∧ acc.length ≤ k ∧ lcD i t fe ρ (ds.drop k) = some rest ∧ ys = zs ++ rest,
      ⟨ds.length, by omega, F1, [], [], ys, Ext.refl F1, R4, pS, .nil, Nat.le_refl _, by rw [List.drop_zero]; exact e3, rfl⟩, ?_⟩
    rintro k m H2 ⟨hm, F2, acc, zs, rest, x2, R5, p5, r5, la, e5, hy⟩
    by_cases hlt : k < ds.length
    · have hd : ds.drop k = ds[k] :: ds.drop (k + 1) := List.drop_eq_getElem_cons hlt
      rw [hd] at e5
      obtain ⟨b, e6, e7⟩ := Option.bind_eq_some_iff.mp e5
      obtain ⟨hgo, hyl⟩ := S.go _ F2 H2 _ _ k ds[k] R5 p5 (List.getElem?_eq_getElem hlt)
      refine .inr ⟨hgo, fun H3 => ∃ m', m' < m ∧ (k + 1) + m' = ds.length ∧ ∃ F3 acc zs rest, Ext F1 F3 ∧ Rep X.K cs (upd Z D (.lst acc)) F3 H3 (σ.set i none) (ρ.set i none) ∧ P F3 (σ.set i none) (ρ.set i none) ∧ Rps X.K F3 acc zs ∧ acc.length ≤ k + 1 ∧ lcD i t fe ρ (ds.drop (k + 1)) = some rest ∧ ys = zs ++ rest, fun H3 h => h, fun v H3 hyv => ?_⟩
      obtain ⟨F3, x3, R6, r6⟩ := hyl v H3 hyv
      have R7 := R6.setSh i r6
      have sset : ∀ w : Option V, (σ.set i none).set i w = σ.set i w := fun w => by rw [List.set_set]
      have rset : ∀ c : Option Cell, (ρ.set i none).set i c = ρ.set i c := fun c => by rw [List.set_set]
      rw [sset, rset] at R7
      refine ⟨?_, ?_⟩
      · show ((σ.set i none).set i (some v)).set i none = σ.set i none
        rw [List.set_set, List.set_set]
      · have hw : List.set (wipe σ (List.map (fun x => x.snd) [(x, i)])) i (some v) = σ.set i (some v) := sset (some v)
        rw [hw]
        refine ⟨_, F3, _, b, R7, e6, fun F4 H4 x4 R8 => ?_⟩
        have back : ∀ {F5 H5 : Hp} {acc' : List V}, Rep X.K cs (upd Z D (.lst acc')) F5 H5 (σ.set i (some v)) (ρ.set i (some (.sh ds[k]))) → Rep X.K cs (upd Z D (.lst acc')) F5 H5 (σ.set i none) (ρ.set i none) := fun {F5 H5 acc'} r => by
          have := r.drop i none
          rw [List.set_set, List.set_set] at this
          exact this
        by_cases hb : b = true
        · rw [if_pos hb] at e7
          show if b = true then _ else _
          rw [if_pos hb]
          obtain ⟨y, e8, e9⟩ := Option.bind_eq_some_iff.mp e7
          obtain ⟨rest', e10, rfl⟩ := Option.map_eq_some_iff.mp e9
          refine ⟨_, F4, _, y, R8, e8, fun u F5 H5 x5 R9 r9 => ⟨acc, (R9.zh D _ upd_same).1, ?_, ?_⟩⟩
          · have : (100000 : Nat) ≤ sizeLine := by decide
            omega
          · have x25 : Ext F2 F5 := (x3.trans x4).trans x5
            refine ⟨m - 1, by omega, by omega, F5, acc ++ [u], zs ++ [y], rest', x2.trans x25, back R9.asideSet, S.mono _ _ _ _ x25 p5, (r5.ext x25).app (.cons r9 .nil), ?_, e10, ?_⟩
            · rw [List.length_append]
              simp only [List.length_cons, List.length_nil]
              omega
            · rw [hy, List.append_assoc]
              rfl
        · rw [if_neg hb] at e7
          show if b = true then _ else _
          rw [if_neg hb]
          have x24 : Ext F2 F4 := x3.trans x4
          exact ⟨m - 1, by omega, by omega, F4, acc, zs, rest, x2.trans x24, back R8, S.mono _ _ _ _ x24 p5, r5.ext x24, by omega, e7, hy⟩
    · have hd : ds.drop k = [] := List.drop_of_length_le (by omega)
      rw [hd] at e5
      cases e5
      rw [List.append_nil] at hy
      refine .inl ⟨S.stop _ F2 H2 _ _ k R5 p5 (by omega), ?_⟩
      obtain ⟨hDH, hDF⟩ := R5.zh D _ upd_same
      have RB : Rep X.K cs Z F2 H2 σ ρ := R1.restore hn (fun _ z => by cases z) x2 (fun a o h => by
        have ha : a ≠ D := ne_of_none h zD
        rw [upd_ne ha]
        exact h) R5
      refine q D F2 H2 (x1.trans x2) RB hDF zD mD ⟨acc, hDH, ?_⟩
      rw [hy]
      exact r5
  · cases e2
end
end DS

namespace GxA
open PySem L2 GenW
open PyProof.Rows (AllBare)

/-! ## all(elt for x in it): the generator runs while all asks for it -/
/-- the generator's own frame -/
def gcx (X : Cx) (A : Around) (s0 : Shared) (H0 : Hp) (env : Env) (ex : List Addr) (pn : List (Addr × Obj)) (N : List Str) : Cx :=
  { X with A := A, N := N, s_0 := s0, H_0 := H0, env := env, outer := X.stack, stack := env :: X.stack, ex := ex, fn := fun _ => false, calm := true, pn := pn, xe := fun _ _ => False }
structure GScp (scope : Scope) (x : Str) : Prop where
  kind : scope.kind = .function
  co : scope.isCoroutine = false
  cell : ∀ y ∈ scope.names, y.2 ≠ .cell
  free : ∀ y ∈ scope.names, y.2 ≠ .free
  dot : scope.names.lookup (".0" : Str) = some NameKind.local
  loc : scope.names.lookup x = some .local
theorem lk_mem {α : Type} : ∀ {l : List (Str × α)} {n : Str} {k : α}, l.lookup n = some k → (n, k) ∈ l
  | (m, v) :: r, n, k, h => by
    rw [List.lookup_cons] at h
    split at h
    · rename_i e
      cases h
      rw [eq_of_beq e]
      exact List.mem_cons_self
    · exact List.mem_cons_of_mem _ (lk_mem h)
section
variable {X : Cx} {pins : List (Addr × Obj)} {σ : L2.St} {H : Hp} {s s' : Shared}
theorem Inv.gens (I : Inv X pins σ H s) (ho : s'.os = s.os) (hh : s'.heap = s.heap) (hb : AllBare s'.gens) : Inv X pins σ H s' :=
  ⟨I.ok, ho.trans I.os, hb, by rw [hh]; exact I.base, by rw [hh]; exact I.loc, by rw [hh]; exact I.cell, I.free, I.freeC, by rw [hh]; exact I.pin, by rw [hh]; exact I.hok, I.len⟩
end
abbrev gexp (elt iter : Expr) (x : Str) (px gpos : Pos) (scope : Scope) : Expr := .GeneratorExp elt [⟨.Name x px, iter, [], 0⟩] scope gpos
section
variable {A : Around} {elt iter : Expr} {x : Str} {px gpos : Pos} {scope : Scope} {it : Addr} {env : Env}
theorem over_loop_handled : (A.over (.compLoop (gexp elt iter x px gpos scope) 0 (.ref it) .none env) []).handled = A.handled := rfl
theorem over_loop_depth : (A.over (.compLoop (gexp elt iter x px gpos scope) 0 (.ref it) .none env) []).depth = A.depth + 1 := rfl
theorem over_loop_units : (A.over (.compLoop (gexp elt iter x px gpos scope) 0 (.ref it) .none env) []).units ≤ A.units + 3 := Nat.le_of_eq rfl
theorem over_loop_frames {l : List Env} (h : A.frames = some l) : (A.over (.compLoop (gexp elt iter x px gpos scope) 0 (.ref it) .none env) []).frames = some (env :: l) := by
  simp [Around.over, h, pushEnvs, envsOf, Code.envs, Code.env?, Code.isFrame, Code.weight, Code.frames, Code.isInlined]
end
abbrev gC (X : Cx) (A2 : Around) (elt iter : Expr) (x : Str) (px gpos : Pos) (scope : Scope) (it : Addr) (s0 : Shared) (H0 : Hp) (env : Env) (fp : List Addr) (pn : List (Addr × Obj)) : Cx :=
  gcx X (A2.over (.compLoop (gexp elt iter x px gpos scope) 0 (.ref it) .none env) []) s0 H0 env fp pn [x]
/-- what is asked: W goes on turn by turn -/
def tAllG (P : Addr) (wi : TI) (te : TE) : TE := fun σ H Q => wi σ H fun J H1 => H1 P = some (.ext (DS.tabP P)) ∧ ∃ W : Nat → Nat → Hp → Prop, (∃ m, W 0 m H1) ∧ ∀ i m H2, W i m H2 →
  (J.stop i H2 ∧ Q (.bl true) H2) ∨ (J.go i H2 ∧ ∀ y H3, J.yld i H2 y H3 → te [some y] H3 fun v H4 => ∃ b, v = .bl b ∧ if b = true then ∃ m', m' < m ∧ W (i + 1) m' H4 else Q (.bl false) H4)

section
variable {X : Cx} {elt iter : Expr} {x : Str} {px gpos : Pos} {scope : Scope} {wi : TI} {te : TE} {k : Nat}

/-- the protocol: True goes on, False is the end -/
def YB (X : Cx) (pn : List (Addr × Obj)) (Gx : Cx) (Q : VK) : Protocol := fun n s₀ v s kap => ∃ b σ H, v = .bool b ∧ Inv Gx [] σ H s ∧ (b = false → Q (.bl false) H) ∧
  (b = true → ∀ s', s'.os = s.os → s'.heap = s.heap → AllBare s'.gens → kap (.send .none) s')
def RB (Gx : Cx) (Q : VK) : GenEnd := fun n s₀ r s => r = .ok .next ∧ (∃ σ H, Inv Gx [] σ H s ∧ Q (.bl true) H)

theorem seg_turns {A2 : Around} {s0 : Shared} {H0 : Hp} {env : Env} {fp : List Addr} {pn : List (Addr × Obj)} {it : Addr} {tn : Nat → Heap → Prop} {J : It} {Q : VK} {W : Nat → Nat → Hp → Prop}
    (S : GScp scope x) (henv : env.scope = scope)
    (hel : PE (gC X A2 elt iter x px gpos scope it s0 H0 env fp pn) elt te)
    (T : Turn X.prog X.w X.K (.Name x px) J fp it tn)
    (hfp : ∀ {H : Hp}, (∀ b ∈ fp, H b = none) → ∀ b ∈ fp, FpOk (gC X A2 elt iter x px gpos scope it s0 H0 env fp pn) [] H b)
    (turn : ∀ i m H2, W i m H2 → (J.stop i H2 ∧ Q (.bl true) H2) ∨ (J.go i H2 ∧ ∀ y H3, J.yld i H2 y H3 → te [some y] H3 fun v H4 => ∃ b, v = .bl b ∧ if b = true then ∃ m', m' < m ∧ W (i + 1) m' H4 else Q (.bl false) H4)) :
    ∀ (n i m : Nat) (s₀ s : Shared) (σ : L2.St) (H : Hp), m < n → W i m H → Inv (gC X A2 elt iter x px gpos scope it s0 H0 env fp pn) [] σ H s → tn i s.heap → (∀ b ∈ fp, H b = none) →
      Seg (model X.prog X.w) A2 (RB (gC X A2 elt iter x px gpos scope it s0 H0 env fp pn) Q) (YB X pn (gC X A2 elt iter x px gpos scope it s0 H0 env fp pn) Q) n s₀
        (.compLoop (gexp elt iter x px gpos scope) 0 (.ref it) .none env) ((model X.prog X.w).den (.compLoop (gexp elt iter x px gpos scope) 0 (.ref it) .none env)) [] s := by
  intro n
  induction n with
  | zero => intro i m s₀ s σ H hm; exact absurd hm (Nat.not_lt_zero m)
  | succ n ih =>
    intro i m s₀ s σ H hm hw I st hf
    have kx : env.kindOf x = some .local := by
      show env.scope.names.lookup x = _
      rw [henv]
      exact S.loc
    show Seg _ A2 _ _ _ s₀ _ ((compTurn (gexp elt iter x px gpos scope) 0 (.ref it) .none env).onRaise (leaving env)) [] s
    rw [compTurn_gen, Sem.onRaise_eq_wrap]
    refine seg_bind_wrap (wpAny_standAt ?_)
    rcases turn i m H hw with ⟨hstop, hq⟩ | ⟨hgo, hgoes⟩
    · refine seg_bind_wrap (thn (T.done (gC X A2 elt iter x px gpos scope it s0 H0 env fp pn) rfl rfl rfl rfl i [] s σ H _ I (hfp hf) st hstop) fun r s1 ⟨hr, I1⟩ => ?_)
      subst hr
      exact seg_end (.ok .next) ⟨rfl, σ, H, I1, hq⟩
    · refine seg_bind_wrap (thn (T.item (gC X A2 elt iter x px gpos scope it s0 H0 env fp pn) rfl rfl rfl rfl i [] s σ H _ I (hfp hf) st hgo) fun r s1 ⟨u, hr, h1⟩ => ?_)
      subst hr
      refine seg_bind_wrap (thn h1 fun _ s2 ⟨y, H2, I2, ry, hy, st2, hf2⟩ => ?_)
      have I2' := I2.pinned (hfp hf2) (T.obj _ _ st2)
      have hlen : σ.length = 1 := I2.len
      refine seg_bind_wrap (wpAny_mono ((pg_name (i := 0) (X := gC X A2 elt iter x px gpos scope it s0 H0 env fp pn) (List.nodup_cons.mpr ⟨by simp, List.nodup_nil⟩) rfl (.inl kx) (.inr kx)).run _ s2 σ H2 y u (fun σ' H' => σ' = [some y] ∧ H' = H2) I2' ry ?_) (fun _ s3 ⟨σ3, H3, I3, e1, e2⟩ => ?_) fun _ _ z => False.elim z)
      · match σ, hlen with
        | [z], _ => exact ⟨rfl, rfl⟩
      subst e1 e2
      simp only [List.forIn_nil]
      refine seg_bind_wrap (wpAny_pure ?_)
      simp only [if_true]
      have hyo : ∀ v, yieldOut env v = yieldValue v := fun v => by simp only [yieldOut, henv, S.co, Bool.false_eq_true, if_false]
      simp only [hyo]
      rw [Sem.bind_eq_wrap', Sem.bind_eq_wrap', Sem.wrap_wrap, Sem.wrap_wrap]
      refine seg_wrap (wpAny_mono (hel.run _ s3 [some y] _ _ I3 (hgoes y _ hy)) (fun v s4 ⟨v', H4, I4, rv, b, eb, hb⟩ => ?_) fun _ _ z => False.elim z)
      subst eb
      obtain rfl : v = Value.bool b := rv
      have st4 : tn (i + 1) s4.heap := T.keep _ _ _ st2 fun c hc o e => (I4.pin (c, o) (List.mem_append_right _ (List.mem_append_right _ (mem_pinsAt hc e)))).1
      have hf4 : ∀ c ∈ fp, H4 c = none := fun c hc => by
        obtain ⟨o, ho, _⟩ := T.obj _ _ st2 c hc
        exact (I4.pin (c, o) (List.mem_append_right _ (List.mem_append_right _ (mem_pinsAt hc ho)))).2.1
      have I5 := I4.unpinned
      refine seg_at (seg_yield rfl rfl rfl ⟨b, [some y], H4, rfl, I5, fun hbf => ?_, fun hbt s' ho hh hba => ?_⟩)
      · rw [hbf, if_neg Bool.false_ne_true] at hb
        exact hb
      · rw [hbt, if_pos rfl] at hb
        obtain ⟨m', hm', hw'⟩ := hb
        exact seg_again rfl (ih (i + 1) m' s' s' [some y] H4 (by omega) hw' (Inv.gens I5 ho hh hba) (by rw [hh]; exact st4) hf4)

theorem seg_first {A2 : Around} {env : Env} {fp : List Addr} {it : Addr} {tn : Nat → Heap → Prop} {J : It} {R : GenEnd} {Y : Protocol} {n : Nat} {s₀ s : Shared}
    (T : Turn X.prog X.w X.K (.Name x px) J fp it tn) (st : tn 0 s.heap)
    (loop : Seg (model X.prog X.w) A2 R Y n s₀ (.compLoop (gexp elt iter x px gpos scope) 0 (.ref it) .none env) ((model X.prog X.w).den (.compLoop (gexp elt iter x px gpos scope) 0 (.ref it) .none env)) [] s) :
    Seg (model X.prog X.w) A2 R Y n s₀ (.compStart (gexp elt iter x px gpos scope) 0 (.ref it) .none env) ((model X.prog X.w).den (.compStart (gexp elt iter x px gpos scope) 0 (.ref it) .none env)) [] s := by
  show Seg _ A2 _ _ _ s₀ _ ((compStart (gexp elt iter x px gpos scope) 0 (.ref it) .none env).onRaise (leaving env)) [] s
  unfold compStart
  rw [Sem.onRaise_eq_wrap]
  show Seg _ A2 _ _ _ s₀ _ ((ask >>= _).wrap _ _ _ _) [] s
  refine seg_bind_wrap (wpAny_askSetting ?_)
  split
  · exact seg_again rfl loop
  · first
      | exact seg_bind_wrap (wpAny_rule (seg_bind_wrap (wpAny_standAt (seg_bind_wrap (T.self _ 0 s _ _ st (seg_again rfl loop))))))
      | (refine seg_bind_wrap (wpAny_rule ?_); show Seg _ A2 _ _ _ s₀ _ ((standAt iter.pos >>= _).wrap _ _ _ _) [] s; exact seg_bind_wrap (wpAny_standAt (seg_bind_wrap (T.self _ 0 s _ _ st (seg_again rfl loop)))))

theorem all_turns {Gx : Cx} {pn : List (Addr × Obj)} {pins : List (Addr × Obj)} {σ : L2.St} {Q : VK} {a : Addr} {g : Nat} (hh : X.A.handled = none) (hd : X.A.depth < recursionLimit)
    (hpin : ∀ (σ' : L2.St) (H' : Hp) (s' : Shared), Inv Gx [] σ' H' s' → s'.heap.IsGen a g) (back : ∀ (σ' : L2.St) (H' : Hp) (s' : Shared), Inv Gx [] σ' H' s' → Inv X pins σ H' s') :
    ∀ (n : Nat) (s : Shared) (gs : GenState), s.heap.IsGen a g → s.heap.NoLimit → s.gens[g]? = some gs → gs.Goes (model X.prog X.w) X.A.in1.in1 (RB Gx Q) (YB X pn Gx Q) n (.send .none) (s.setGen g .running) →
      codeAny (model X.prog X.w) X.A (.builtin "all.loop" ⟨[.ref a], []⟩) (fun r s' => match r with
        | .ok (.ret v) => EP X pins σ Q v s'
        | .ok _ => False
        | .error e => X.xe e s') s := by
  intro n
  induction n with
  | zero =>
    intro s gs hg hl hgs hgo
    refine codeAny_builtin PySem.F.entry_all_loop ?_
    rw [Around.under_plainId PySem.F.plain_all_loop _]
    show wpAny _ X.A.in1 (pyNext (.ref a) >>= _) _ _ s
    refine wpAny_bind (wpAny_pyNext_genexpQ (A := X.A.in1) (P := fun _ _ s1 => ∃ σ1 H1, Inv Gx [] σ1 H1 s1 ∧ Q (.bl true) H1) hh hl hd hg hgs hgo (fun v s₁ gs' hb hv => ?_) (fun s₁ hp h' hk => ?_))
    · obtain ⟨b, σ1, H1, rfl, I1, hF, hT⟩ := hv
      refine wpAny_bind (wpAny_holding (wpAny_truthy_bool ?_))
      refine wpAny_bind (wpAny_letGo ?_)
      cases b with
      | true => exact (hT rfl s₁ rfl rfl I1.bare).elim
      | false =>
        simp only [Bool.false_eq_true, if_false]
        refine wpAny_bind (wpAny_rule (wpAny_pure ?_))
        exact ⟨.bl false, H1, back _ _ _ (Inv.gens I1 rfl rfl (allBare_setGen I1.bare hb)), rfl, hF rfl⟩
    · obtain ⟨σ1, H1, I1, q1⟩ := hp
      refine wpAny_bind (wpAny_rule (wpAny_pure ?_))
      have I2 := Inv.gens (s' := s₁.setGen g .finished) I1 rfl rfl (allBare_setGen I1.bare rfl)
      exact ⟨.bl true, H1, back _ _ _ (I2.kept (t' := (s₁.setGen g .finished).toks) hk), rfl, q1⟩
  | succ n ih =>
    intro s gs hg hl hgs hgo
    have hgl : g < s.gens.size := (Array.getElem?_eq_some_iff.mp hgs).1
    refine codeAny_builtin PySem.F.entry_all_loop ?_
    rw [Around.under_plainId PySem.F.plain_all_loop _]
    show wpAny _ X.A.in1 (pyNext (.ref a) >>= _) _ _ s
    refine wpAny_bind (wpAny_gsz (n := g + 1) hgl (wpAny_pyNext_genexpQ (A := X.A.in1) (P := fun _ _ s1 => ∃ σ1 H1, Inv Gx [] σ1 H1 s1 ∧ Q (.bl true) H1) hh hl hd hg hgs hgo (fun v s₁ gs' hb hv => ?_) (fun s₁ hp h' hk => ?_)))
    · intro hsz
      obtain ⟨b, σ1, H1, rfl, I1, hF, hT⟩ := hv
      refine wpAny_bind (wpAny_holding (wpAny_truthy_bool ?_))
      refine wpAny_bind (wpAny_letGo ?_)
      have hgl1 : g < s₁.gens.size := by
        have h2 : (s₁.setGen g gs').gens.size = s₁.gens.size := setGen_size s₁ g gs'
        have h3 : g + 1 ≤ (s₁.setGen g gs').gens.size := hsz
        omega
      have I2 := Inv.gens (s' := s₁.setGen g gs') I1 rfl rfl (allBare_setGen I1.bare hb)
      cases b with
      | true =>
        simp only [if_true]
        refine wpAny_pure ⟨plainId_quiet PySem.F.plain_all_loop _, ih _ gs' (hpin _ _ _ I2) I2.nolimit (setGen_at hgl1) ?_⟩
        exact hT rfl _ rfl rfl (allBare_setGen (allBare_setGen I1.bare hb) rfl)
      | false =>
        simp only [Bool.false_eq_true, if_false]
        refine wpAny_bind (wpAny_rule (wpAny_pure ?_))
        exact ⟨.bl false, H1, back _ _ _ I2, rfl, hF rfl⟩
    · intro _
      obtain ⟨σ1, H1, I1, q1⟩ := hp
      refine wpAny_bind (wpAny_rule (wpAny_pure ?_))
      have I2 := Inv.gens (s' := s₁.setGen g .finished) I1 rfl rfl (allBare_setGen I1.bare rfl)
      exact ⟨.bl true, H1, back _ _ _ (I2.kept (t' := (s₁.setGen g .finished).toks) hk), rfl, q1⟩

theorem clo_none {cells : List (Str × Addr)} : ∀ {names : List (Str × NameKind)} {acc : List (Str × Addr)}, (∀ y ∈ names, y.2 ≠ .free) → cloFrom cells names acc = acc
  | [], acc, _ => rfl
  | (n, k) :: r, acc, h => by
    have hk : k ≠ .free := h (n, k) List.mem_cons_self
    unfold cloFrom
    cases k <;> first | exact absurd rfl hk | (exact clo_none fun y hy => h y (List.mem_cons_of_mem _ hy))

/-- the generator's frame at its begin -/
theorem inv_gen {pins : List (Addr × Obj)} {σ : L2.St} {H : Hp} {s2 s5 : Shared} {A' : Around} {env : Env} {fp : List Addr} {a : Addr} {go : Obj} (I : Inv X pins σ H s2) (S : GScp scope x) (henv : env.scope = scope) (hglob : env.globals = X.env.globals) (hblt : env.builtins = builtinsNs) (hcells : env.cells = [])
    (hfr : env.frame = some env.locals) (hlo : s2.heap.objs.size ≤ env.locals) (hA : A'.handled = none) (hAf : A'.frames = some (env :: X.stack)) (hfp : ∀ b ∈ fp, FpOk X pins H b ∧ b < s2.heap.objs.size)
    (hos : s5.os = s2.os) (hba : AllBare s5.gens) (hun : Un (frs X.stack) fp H H s2.heap s5.heap) (hok : HOk X.prog X.w H s5.heap) (hns : ∃ m, s5.heap.Ns env.locals m)
    (ha : s5.heap.get? a = some go) (hag : env.locals < a) (hgo : ∀ v, go.data ≠ .cell v) :
    Inv (gcx X A' s2 H env fp [(a, go)] [x]) [] [none] H s5 := by
  have noc : ∀ y c, env.cells.lookup y = some c → False := fun y c e => by
    rw [hcells] at e
    cases e
  have hn : ∀ {b : Addr}, s2.heap.objs.size ≤ b → H b = none := fun {b} hb => I.hok.fresh hb
  have nost : ∀ {b : Addr}, s2.heap.objs.size ≤ b → b ∉ frs X.stack := fun {b} hb hm => by
    rcases List.mem_cons.mp (I.stkSub b hm) with z | z
    · have := I.lt
      rw [z] at hb
      exact absurd (Nat.lt_of_lt_of_le this hb) (Nat.lt_irrefl _)
    · exact I.nofs hb z
  refine ⟨⟨I.ok.mod, ?_, hglob.trans I.ok.glob, hblt, hlo, fun y z c h1 _ => (noc y c h1).elim, fun y hy => ?_, fun y c _ h => (noc y c h).elim, fun _ => hA, hAf, .inr ⟨rfl, hfr⟩, fun b hb => ⟨?_, fun y c h => (noc y c h).elim⟩, I.bs, Nat.le_trans I.ok.bsz I.sz, fun b o e hb => ?_, fun b hb hm => ?_, I.stack, I.stkFree⟩,
    hos, hba, hun, ?_, fun y c h => (noc y c h).elim, hn hlo, fun y c h => (noc y c h).elim, fun p hp => ?_, hok, rfl⟩
  · show env.scope.kind = _
    rw [henv]
    exact S.kind
  · have hy : env.scope.names.lookup y = some .cell ∨ env.scope.names.lookup y = some .free := hy
    rw [henv] at hy
    rcases hy with hy | hy
    · exact absurd rfl (S.cell _ (lk_mem hy))
    · exact absurd rfl (S.free _ (lk_mem hy))
  · exact Nat.ne_of_lt (Nat.lt_of_lt_of_le (hfp b hb).2 hlo)
  · obtain ⟨⟨_, _, _, h4, _⟩, _⟩ := hfp b hb
    rcases h4 with z | z
    · exact I.ok.noex b o e z
    · have := Heap.lt_size (I.ok.bs b o e).1
      exact absurd (Nat.lt_of_lt_of_le this z) (Nat.lt_irrefl _)
  · obtain ⟨⟨_, h2, h3, _⟩, _⟩ := hfp b hb
    rcases List.mem_cons.mp (I.stkSub b hm) with z | z
    · exact h2 z
    · exact h3 z
  · obtain ⟨m, hm⟩ := hns
    refine ⟨m, hm, fun i y v e1 e2 => ?_⟩
    cases i with
    | zero => cases e2
    | succ i => simp at e2
  · rw [List.append_nil] at hp
    rw [List.mem_singleton.mp hp]
    have hs : s2.heap.objs.size ≤ a := Nat.le_trans hlo (Nat.le_of_lt hag)
    exact ⟨ha, hn hs, Nat.ne_of_gt hag, nost hs, hgo⟩

theorem room_gen {A2 : Around} {k : Nat} (hr : Room (k + 1) A2) (env : Env) (it : Addr) : Room k (A2.in1.in1.over (.compLoop (gexp elt iter x px gpos scope) 0 (.ref it) .none env) []) := by
  refine ⟨hr.hd, ?_, ?_⟩
  · have := hr.dp
    rw [over_loop_depth]
    show A2.depth + 1 + 3 * k + 5 < _
    omega
  · have h1 := hr.un
    have h2 := over_loop_units (A := A2.in1.in1) (elt := elt) (iter := iter) (x := x) (px := px) (gpos := gpos) (scope := scope) (it := it) (env := env)
    have h3 : A2.in1.in1.units = A2.units + 2 := rfl
    omega
theorem pe_allG {c P : Addr} {p pos : Pos} (hr : Room (k + 1) X.A) (hc : X.calm = true) (hg : Gl X "all") (hm : X.mg "all" = none) (hb : bootBuiltins "all" = some (.builtin "all")) (TB : GxR.TabB X.base X.mg c P) (hcode : X.env.code = .ref c) (S : GScp scope x) (hi : PI X (.Name x px) iter wi)
    (hel : ∀ (A' : Around) (s0 : Shared) (H0 : Hp) (C : Addr) (code : Value) (ex : List Addr) (pn : List (Addr × Obj)), Room k A' → PE (gcx X A' s0 H0 (genEnv scope [] C code builtinsNs X.env) ex pn [x]) elt te)
    (hs : ∀ v, genFold iter X.env v = pure v)
    (he : starEach [gexp elt iter x px gpos scope] X.env = (false, eval (gexp elt iter x px gpos scope) X.env) :: starEach [] X.env := by rfl) :
    PE X (.Call (.Name "all" p) [gexp elt iter x px gpos scope] [] pos) (tAllG P wi te) := by
  refine ⟨fun pins s σ H Q I h => ?_⟩
  refine wpAny_Call_Name_kw (ld_blt I hg hm hb ?_)
  refine PyProof.Rows.callWith_builtin1 ?_ he (by rfl)
  rw [he]
  show wpAny _ _ (spliced ((false, eval (gexp elt iter x px gpos scope) X.env) :: backTo pos (starEach [] X.env))) _ _ s
  refine Calls.spliced_cons ?_
  have clo : closureFor scope X.env = pure [] := by
    rw [closure_ok (fun y hy z => absurd z (S.free y hy)), clo_none S.free]
  refine wpAny_GeneratorExp_make S.co clo S.cell S.dot S.kind hr.depth ?_ hs
  refine thn (hi.run pins s σ H _ I h) fun xv s1 h1 => thn h1 fun itv s2 h2 => ?_
  obtain ⟨it, fp, tn, J, H2, rfl, I2, T, st2, hfp, hP, W, ⟨m0, hw0⟩, turn⟩ := h2
  refine ⟨I2.nolimit, ?_⟩
  obtain ⟨⟨ps, hPs, ht⟩, _⟩ := (show ObjOk X.prog X.w H2 s2.heap P (.ext (DS.tabP P)) from I2.hok P _ hP)
  have cd : PySem.W.CodeHd s2.heap c P := TB.code.keeps I2.bk
  have cont : ∀ (code : Value) (h3 : Heap) (tk : Nat) (ps' : Array Value), Heap.ExtBut P s2.heap h3 → s2.heap.objs.size ≤ h3.objs.size → h3.get? P = some { cls := .none, data := .fields ps' } → TriplesOk ps'.toList →
      wpAny (model X.prog X.w) X.A (builtinsFor X.env.globals X.env.builtins) (fun bi s₄ =>
        ∀ h', h'.Ns s₄.heap.objs.size (fun y => if y = ".0" then some (Value.ref it) else none) → Heap.SameBut s₄.heap.objs.size (s₄.heap.push { cls := .type "frame", data := .dict #[] }) h' →
          wpAny (model X.prog X.w) X.A (spliced (backTo pos (starEach [] X.env))) (fun us s9 => wpAny (model X.prog X.w) X.A (call (.builtin "all") (.ref h'.objs.size :: us)) (EP X pins σ Q) X.xe s9) X.xe
            { s₄ with
              gens := s₄.gens.push (.fresh (.compStart (gexp elt iter x px gpos scope) 0 (.ref it) .none (genEnv scope [] s₄.heap.objs.size code bi X.env))),
              toks := s₄.toks + 1 + 1 + 1,
              heap := h'.push { cls := .type "generator", data := .fields #[.int s₄.gens.size 0, .str "<genexpr>" (s₄.toks + 1), .str (X.env.qual ++ "<genexpr>") (s₄.toks + 1 + 1)] } }) X.xe { s2 with heap := h3, toks := tk } := by
    intro code h3 tk ps' hx hsz hP3 ht3
    obtain ⟨bm, ob, e1, e2, e3, e4, e5, e6, e7, e8⟩ := TB.bm
    have keep3 : ∀ b u, b ≠ P → s2.heap.get? b = some u → h3.get? b = some u := fun b u hb e => hx b u hb e
    refine wpAny_builtinsFor (m := X.mg) (by rw [I2.ok.glob]; exact (I2.mod.glob.keeps I2.bk).extBut hx TB.gP) e1 e2 (keep3 _ _ e4 (I2.bk _ _ e5)) e6 e7 e8 ?_
    intro h' hn' hs'
    refine Calls.spliced_nil ?_
    have hsz' : h'.objs.size = h3.objs.size + 1 := by rw [hs'.1, Heap.size_push]
    generalize hgo : ({ cls := .type "generator", data := .fields #[.int s2.gens.size 0, .str "<genexpr>" (tk + 1), .str (X.env.qual ++ "<genexpr>") (tk + 1 + 1)] } : Obj) = go
    have hgc : go.cls = .type "generator" := by rw [← hgo]
    have hgd : go.data = .fields #[.int s2.gens.size 0, .str "<genexpr>" (tk + 1), .str (X.env.qual ++ "<genexpr>") (tk + 1 + 1)] := by rw [← hgo]
    have hgs : go.slots = #[] := by rw [← hgo]
    have hgp : (h'.push go).get? h'.objs.size = some go := by
      rw [← hgo]
      exact Heap.get?_push_size _ rfl
    have isg : ∀ {hh : Heap}, hh.get? h'.objs.size = some go → hh.IsGen h'.objs.size s2.gens.size := fun {hh} e => ⟨go, _, _, e, hgc, hgd, hgs⟩
    have keep5 : ∀ b u, b ≠ P → s2.heap.get? b = some u → (h'.push go).get? b = some u := fun b u hb e => by
      have q := keep3 b u hb e
      exact Heap.get?_push_of_some _ (hs'.extBut b u (Nat.ne_of_lt (Heap.lt_size q)) (Heap.get?_push_of_some _ q))
    have hPlt : P < h3.objs.size := Heap.lt_size hP3
    have hP5 : (h'.push go).get? P = some { cls := .none, data := .fields ps' } := Heap.get?_push_of_some _ (hs'.extBut P _ (Nat.ne_of_lt hPlt) (Heap.get?_push_of_some _ hP3))
    have nP : ∀ b, H2 b = none → b ≠ P := fun b hb z => by
      rw [z, hP] at hb
      cases hb
    have un5 : Un (frs X.stack) fp H2 H2 s2.heap (h'.push go) := by
      refine ⟨fun b o e n _ _ => keep5 b o (nP b n) e, fun b o e n _ _ => ⟨o.slots, keep5 b o (nP b n) e⟩, fun b o _ n _ => n, fun b o e _ => ?_, fun b xs q => q, fun b o u q => q, fun b qs q => ⟨#[], by rw [q]; simp⟩⟩
      by_cases hb : b = P
      · rw [hb]
        exact ⟨_, hP5⟩
      · exact ⟨o, keep5 b o hb e⟩
    have ok5 : HOk X.prog X.w H2 (h'.push go) := fun b o e => by
      by_cases hb : b = P
      · subst hb
        rw [hP] at e
        cases e
        obtain ⟨_, _, q3⟩ := (show ObjOk X.prog X.w H2 s2.heap b (.ext (DS.tabP b)) from I2.hok b _ hP)
        exact ⟨⟨ps', hP5, ht3⟩, ⟨_, hP5⟩, q3⟩
      · refine (I2.hok b o e).stay (fun d v hd q => keep5 d v (fun z => ?_) q) (fun _ q => q) fun _ _ q => q
        rcases hd with z2 | z2
        · exact hb (z2.symm.trans z)
        · rw [z, hP] at z2
          cases z2
    have flt : ∀ b ∈ fp, b < s2.heap.objs.size := fun b hb => by
      obtain ⟨o, ho, _⟩ := T.obj _ _ st2 b hb
      exact Heap.lt_size ho
    have fst : ∀ b ∈ fp, b ∉ frs X.stack := fun b hb hm => by
      obtain ⟨_, q2, q3, _⟩ := hfp b hb
      rcases List.mem_cons.mp (I2.stkSub b hm) with z | z
      · exact q2 z
      · exact q3 z
    have st5 : tn 0 (h'.push go) := T.keep _ _ _ st2 fun b hb o e => keep5 b o (nP b (hfp b hb).1) e
    have ba5 : AllBare (s2.gens.push (.fresh (.compStart (gexp elt iter x px gpos scope) 0 (.ref it) .none (genEnv scope [] h3.objs.size code builtinsNs X.env)))) := I2.bare.push rfl
    have IG : ∀ (s5 : Shared), s5.os = s2.os → s5.heap = h'.push go → AllBare s5.gens → Inv (gC X X.A.in1.in1 elt iter x px gpos scope it s2 H2 (genEnv scope [] h3.objs.size code builtinsNs X.env) fp [(h'.objs.size, go)]) [] [none] H2 s5 := fun s5 h5o h5h h5b => by
      have hns5 : ∃ m, s5.heap.Ns h3.objs.size m := ⟨fun y => if y = ".0" then some (Value.ref it) else none, by
        rw [h5h]
        exact hn'.push _⟩
      exact inv_gen I2 S rfl rfl rfl rfl rfl hsz (show X.A.in1.in1.handled = none from hr.hd) (over_loop_frames (show X.A.in1.in1.frames = some X.stack from I2.ok.frames)) (fun b hb => ⟨hfp b hb, flt b hb⟩) h5o h5b (by rw [h5h]; exact un5) (by rw [h5h]; exact ok5) hns5 (by rw [h5h]; exact hgp) (by show h3.objs.size < _; omega) fun v z => by rw [hgd] at z; cases z
    refine call_function_tree PySem.F.kind_all PySem.F.plain_all PySem.F.entry_all (PySem.F.args_all1 _) ?_
    unfold Builtin.«all»
    refine wpAny_bind (m := oneArg "all" _) (wpAny_pure ?_)
    refine wpAny_bind (wpAny_pyIter_gen (isg hgp) ?_)
    refine wpAny_pure ⟨plainId_quiet PySem.F.plain_all_loop _, ?_⟩
    refine all_turns (Gx := gC X X.A.in1.in1 elt iter x px gpos scope it s2 H2 (genEnv scope [] h3.objs.size code builtinsNs X.env) fp [(h'.objs.size, go)]) (pn := [(h'.objs.size, go)]) hr.hd hr.depth (fun σ' H' s' I' => isg (I'.pin (h'.objs.size, go) (List.mem_append_left _ List.mem_cons_self)).1) (fun σ' H' s' I' => ?_) (m0 + 1) _ _ (isg hgp) ?_ (Array.getElem?_push_size ..) ?_
    · exact I2.call' (ch := fp) I'.os I'.base I'.hok I'.bare fun b hb => by
        obtain ⟨_, q2, q3, q4, q5, q6⟩ := hfp b hb
        exact ⟨q4, q2, q5, q6⟩
    · exact (IG { s2 with gens := s2.gens.push (.fresh (.compStart (gexp elt iter x px gpos scope) 0 (.ref it) .none (genEnv scope [] h3.objs.size code builtinsNs X.env))), toks := tk + 1 + 1 + 1, heap := h'.push go } rfl rfl ba5).nolimit
    · refine ⟨rfl, seg_first T st5 (seg_turns S rfl (hel _ _ _ _ _ _ _ (room_gen hr _ _)) T (fun {H'} hn b hb => ?_) turn (m0 + 1) 0 m0 _ _ [none] H2 (Nat.lt_succ_self m0) hw0 (IG _ rfl rfl (allBare_setGen ba5 rfl)) st5 fun b hb => (hfp b hb).1)⟩
      refine ⟨hn b hb, Nat.ne_of_lt (Nat.lt_of_lt_of_le (flt b hb) hsz), fst b hb, .inl hb, fun y cc e => (by cases e), fun p hp => ?_⟩
      rw [List.append_nil] at hp
      rw [List.mem_singleton.mp hp]
      have h9 : s2.heap.objs.size < h'.objs.size := by omega
      exact Nat.ne_of_gt (Nat.lt_trans (flt b hb) h9)
  cases hf : codeAmong gpos ps.toList with
  | none =>
    refine wpAny_genexprCodeX hcode (cd.code hPs ht) (cd.tab hPs) hf fun c' h' tk hx hge hlt hco' _ htab' _ => ?_
    obtain ⟨o1, vs, f1, tf, fl, tg, inF, tx, tt, op, _, _, _, _, _, _, _, _, _, htr, _⟩ := hco'
    exact cont _ h' tk _ hx (Nat.le_trans hge (Nat.le_of_lt hlt)) htab'.2 htr
  | some cv =>
    refine wpAny_genexprCode_hit hcode (cd.code hPs ht) hf ?_
    exact cont cv s2.heap s2.toks ps (Heap.ExtBut.refl _ _) (Nat.le_refl _) hPs ht
end
end GxA

namespace DS
open PySem L2

/-! ## all over a generator expression -/
def allD (fe : Nv → Option D) : List D → Option Bool
  | [] => some true
  | d :: ds => (fe [some (.sh d)]).bind fun r => (asB r).bind fun b => if b = true then allD fe ds else some false
section
variable {cs : List Addr} {X : Cx} {elt iter : Expr} {x : Str} {px gpos p pos : Pos} {scope : Scope} {f : Nv → Option (List D)} {fe : Nv → Option D} {k : Nat} {c P : Addr}
theorem e_allG (hr : Room (k + 1) X.A) (hc : X.calm = true) (hg : Gl X "all") (hm : X.mg "all" = none) (TB : GxR.TabB X.base X.mg c P) (hcode : X.env.code = .ref c) (hP : P ∈ cs) (S : GxA.GScp scope x) (hi : EI cs X AnyP (.Name x px) iter f)
    (hel : ∀ (A' : Around) (s0 : Shared) (H0 : Hp) (C : Addr) (code : Value) (ex : List Addr) (pn : List (Addr × Obj)), Room k A' → EP' cs (GxA.gcx X A' s0 H0 (genEnv scope [] C code builtinsNs X.env) ex pn [x]) elt fe)
    (hb : bootBuiltins "all" = some (.builtin "all") := by decide +kernel)
    (hs : ∀ v, genFold iter X.env v = pure v := by intro _; rfl)
    (he : starEach [GxA.gexp elt iter x px gpos scope] X.env = (false, eval (GxA.gexp elt iter x px gpos scope) X.env) :: starEach [] X.env := by rfl) :
    EP' cs X (.Call (.Name "all" p) [.GeneratorExp elt [⟨.Name x px, iter, [], 0⟩] scope gpos] [] pos) (fun ρ => (f ρ).bind fun ds => (allD fe ds).map .bool) := by
  refine ⟨pe_imp (GxA.pe_allG (te := tP X.K cs fe) hr hc hg hm hb TB hcode S hi.h (fun A' s0 H0 C code ex pn h => (hel A' s0 H0 C code ex pn h).h) hs he) ?_⟩
  rintro σ H Q ⟨Z, F, ρ, d, R, ef, q⟩
  obtain ⟨ds, e1, e2⟩ := Option.bind_eq_some_iff.mp ef
  obtain ⟨b, e3, rfl⟩ := Option.map_eq_some_iff.mp e2
  refine ⟨Z, F, ρ, ds, R, e1, fun J Pr F1 H1 x1 R1 p1 hP' Sr => ⟨R1.fh _ _ (R1.tab P hP), ?_⟩⟩
  refine ⟨fun i m H2 => i + m = ds.length ∧ ∃ F2, Ext F1 F2 ∧ Rep X.K cs Z F2 H2 σ ρ ∧ Pr F2 σ ρ ∧ allD fe (ds.drop i) = some b, ⟨ds.length, by omega, F1, Ext.refl F1, R1, p1, by rw [List.drop_zero]; exact e3⟩, ?_⟩
  rintro i m H2 ⟨hmi, F2, x2, R2, p2, e4⟩
  by_cases hlt : i < ds.length
  · have hd : ds.drop i = ds[i] :: ds.drop (i + 1) := List.drop_eq_getElem_cons hlt
    rw [hd] at e4
    obtain ⟨r, e5, e6⟩ := Option.bind_eq_some_iff.mp e4
    obtain ⟨b', e7, e8⟩ := Option.bind_eq_some_iff.mp e6
    have hr' := asB_some e7
    obtain ⟨hgo, hyl⟩ := Sr.go Z F2 H2 σ ρ i ds[i] R2 p2 (List.getElem?_eq_getElem hlt)
    refine .inr ⟨hgo, fun y H3 hy => ?_⟩
    obtain ⟨F3, x3, R3, r3⟩ := hyl y H3 hy
    refine ⟨oth F3 H3, F3, [some (.sh ds[i])], r, R3.lend (.cons r3 .nil), e5, fun v F4 H4 x4 R4 r4 => ⟨b', (hr' ▸ r4).isbl, ?_⟩⟩
    have RB := R3.back x4 R4
    by_cases hb' : b' = true
    · rw [if_pos hb'] at e8
      rw [if_pos hb']
      exact ⟨m - 1, by omega, by omega, F4, (x2.trans x3).trans x4, RB, Sr.mono _ _ _ _ (x3.trans x4) p2, e8⟩
    · rw [if_neg hb'] at e8
      rw [if_neg hb']
      cases e8
      exact q _ F4 H4 (((x1.trans x2).trans x3).trans x4) RB (.bl false)
  · have hd : ds.drop i = [] := List.drop_of_length_le (by omega)
    rw [hd] at e4
    cases e4
    exact .inl ⟨Sr.stop Z F2 H2 σ ρ i R2 p2 (by omega), q _ F2 H2 (x1.trans x2) R2 (.bl true)⟩
end

/-! ## a def whose code object is known -/
structure FunC (K : PySem.W.Frag) (x qual : Str) (st : Stmt) (f : Addr) (fd : FuncData) (c : Addr) : Prop where
  ex : ∃ (oc : Value) (od : Option Addr) (kV doc pm : Value) (an : Option Addr) (ct : Value) (osl : Array (Option Value)),
    fd = PySem.W.fnOf x qual (defArgs st) (defBody st) (defScope st) .none kV doc pm an (.ref c) ct ∧ K.lookup f = some ⟨oc, od, .func fd, osl⟩ ∧ PySem.W.codeIn K (.ref c) qual = true
  kp : PySem.W.keepIn K (.ref f) = true
theorem FunC.fn {K : PySem.W.Frag} {x qual : Str} {st : Stmt} {f : Addr} {fd : FuncData} {c : Addr} (F : FunC K x qual st f fd c) : Fun K x qual st f fd := by
  obtain ⟨oc, od, kV, doc, pm, an, ct, osl, h⟩ := F.ex
  exact ⟨⟨oc, od, kV, doc, pm, an, _, ct, osl, h⟩, F.kp⟩
theorem fnc_mk {K : PySem.W.Frag} {x qual : Str} {st : Stmt} {f c : Addr} {oc : Value} {od an : Option Addr} {osl : Array (Option Value)} {kV doc pm ct : Value} (l : K.lookup f = some ⟨oc, od, .func (PySem.W.fnOf x qual (defArgs st) (defBody st) (defScope st) .none kV doc pm an (.ref c) ct), osl⟩)
    (hc : PySem.W.codeIn K (.ref c) qual = true) (k : PySem.W.keepIn K (.ref f) = true) : FunC K x qual st f (PySem.W.fnOf x qual (defArgs st) (defBody st) (defScope st) .none kV doc pm an (.ref c) ct) c := ⟨⟨oc, od, kV, doc, pm, an, ct, osl, rfl, l, hc⟩, k⟩
theorem fn_dsC {P : Program} {w : World} {K : PySem.W.Frag} {mg : Str → Option Value} {base : Heap} {cs : List Addr} {x qual : Str} {st : Stmt} {f c : Addr} {fd : FuncData} {N ps : List Str} {k : Nat} {ms : List Md} {sem : List D → Option Ou} (F : FunC K x qual st f fd c) (S : FnScope N ps (defScope st)) (hm : ms.length = ps.length)
    (hbody : ∀ (A : Around) (outer : List Env) (s : Shared) (H : Hp) (E : XK), Room k (A.deeper (PyProof.Rows.envOfC qual (defScope st) s.heap.objs.size f (.ref c))) →
      ∃ g, SDs cs (cxOf CX0 P w K mg base N qual (defScope st) f (.ref c) A outer s H E).nox E (defBody st) g ∧ Comes ms (N.length - ps.length) g sem) :
    FnOk P w K mg base CX0 (k + 1) f fd ps (spD K cs ms sem) := by
  obtain ⟨oc, od, kV, doc, pm, an, ct, osl, rfl, lk, hcd⟩ := F.ex
  refine fn_of lk hcd S (fun vs H Q E h => ?_) fun A outer s H vs Q E hr h => ?_
  · obtain ⟨_, _, _, _, hv, _⟩ := h
    rw [hv, hm]
  · obtain ⟨g, h1, h2⟩ := hbody A outer s H E hr
    exact ⟨_, h1.h.nox, body_ends hm h2 h⟩

/-! ## the law's end, with tables of code objects -/
open Classical
/-- tables, as things that are known -/
noncomputable def toX (cs : List Addr) (H : Hp) : Hp := fun a => if a ∈ cs then some (.ext (tabP a)) else H a
noncomputable def unX (cs : List Addr) (T : Addr → Array Value) (H : Hp) : Hp := fun a => if a ∈ cs then some (.tbl (T a)) else H a
theorem tab_stay (p : Addr) : ∀ h1 h2 : Heap, tabP p h1 → (∀ o, h1.get? p = some o → h2.get? p = some o) → tabP p h2 := fun h1 h2 ⟨ps, e, t⟩ k => ⟨ps, k _ e, t⟩
theorem tri0 : TriplesOk ([] : List Value) := by
  first
    | trivial
    | exact ⟨rfl⟩
    | (unfold TriplesOk; simp)
section
variable {P : Program} {w : World} {K : PySem.W.Frag} {mg : Str → Option Value} {base : Heap} {CX : CXT} {k : Nat} {f : Addr} {fd : FuncData} {ps : List Str} {sp : Sp} {cs : List Addr}
/-- the law's promise over tables as the head leaves them: what is wanted does not hang on the heap -/
noncomputable def spTab (cs : List Addr) (sp : Sp) : Sp := fun vs H Q E => (∀ p ∈ cs, H p = some (.tbl #[])) ∧ (∀ v H1 H2, Q v H1 → Q v H2) ∧ sp vs (toX cs H) (fun v H' => Q v H' ∧ ∀ p ∈ cs, H' p = some (.ext (tabP p))) E
theorem toX_none {H : Hp} (h : ∀ p ∈ cs, H p = some (.tbl #[])) {b : Addr} : toX cs H b = none ↔ H b = none := by
  unfold toX
  by_cases hb : b ∈ cs
  · rw [if_pos hb, h b hb]
    simp
  · rw [if_neg hb]
theorem fn_tab (F : FnOk P w K mg base CX0 k f fd ps sp) : FnOk P w K mg base CX0 k f fd ps (spTab cs sp) := by
  refine ⟨fun vs H Q E h => F.len _ _ _ _ h.2.2, fun A outer s H args us vs Q E hr e0 hb hv h => ?_⟩
  obtain ⟨hT, hQ, hs⟩ := h
  have kp : ∀ b o, H b = some o → b ∉ cs → toX cs H b = some o := fun b o e hb => by
    unfold toX
    rw [if_neg hb]
    exact e
  have ok : HOk P w (toX cs H) s.heap := fun b o e => by
    unfold toX at e
    by_cases hb : b ∈ cs
    · rw [if_pos hb] at e
      cases e
      have q : s.heap.get? b = some { cls := .none, data := .fields #[] } := e0.hok b _ (hT b hb)
      exact ⟨⟨#[], q, tri0⟩, ⟨_, q⟩, tab_stay b⟩
    · rw [if_neg hb] at e
      refine (e0.hok b o e).stay (fun _ _ _ q => q) (fun d q => kp d _ q fun z => ?_) fun d xs q => kp d _ q fun z => ?_
      · rw [hT d z] at q
        cases q
      · rw [hT d z] at q
        cases q
  have e1 : Env0 P w K mg base A outer s (toX cs H) := ⟨e0.frames, e0.mod, fun b o e => ⟨(e0.bs b o e).1, (toX_none hT).mpr (e0.bs b o e).2⟩, e0.bsz, e0.funs, fun b hb => (toX_none hT).mpr (e0.frf b hb), ok, e0.bare⟩
  refine codeAny_mono (F.run A outer s (toX cs H) args us vs _ E hr e1 hb hv hs) fun r s' hq => ?_
  cases r with
  | error e => exact hq.elim
  | ok fl =>
    cases fl with
    | next => exact hq
    | brk => exact hq
    | cont => exact hq
    | ret u =>
      obtain ⟨v, H', os, bare, un, hok, rv, q, hx⟩ := hq
      have ht : ∀ p, ∃ T : Array Value, p ∈ cs → s'.heap.get? p = some { cls := .none, data := .fields T } := fun p => by
        by_cases hp : p ∈ cs
        · obtain ⟨⟨T, e, _⟩, _⟩ := (show ObjOk P w H' s'.heap p (.ext (tabP p)) from hok p _ (hx p hp))
          exact ⟨T, fun _ => e⟩
        · exact ⟨#[], fun z => absurd z hp⟩
      have T : Addr → Array Value := fun p => Classical.choose (ht p)
      have hT' : ∀ p ∈ cs, s'.heap.get? p = some { cls := .none, data := .fields (Classical.choose (ht p)) } := fun p hp => Classical.choose_spec (ht p) hp
      have ku : ∀ b o, H' b = some o → b ∉ cs → unX cs (fun p => Classical.choose (ht p)) H' b = some o := fun b o e hb => by
        unfold unX
        rw [if_neg hb]
        exact e
      refine ⟨v, unX cs (fun p => Classical.choose (ht p)) H', os, bare, ⟨fun b o e n hb1 hb2 => un.keep b o e ((toX_none hT).mpr n) hb1 hb2, fun b o e n hb1 hb2 => un.slot b o e ((toX_none hT).mpr n) hb1 hb2, fun b o e n hb2 => ?_, fun b o e hb2 => un.there b o e hb2, fun b xs e => ?_, fun b o u e => ?_, fun b ps e => ?_⟩, fun b o e => ?_, rv, hQ _ _ _ q⟩
      · have h1 := un.free b o e ((toX_none hT).mpr n) hb2
        unfold unX
        rw [if_neg fun z => by rw [hx b z] at h1; cases h1]
        exact h1
      · have hb : b ∉ cs := fun z => by rw [hT b z] at e; cases e
        exact ku b _ (un.tups b xs (kp b _ e hb)) hb
      · have hb : b ∉ cs := fun z => by rw [hT b z] at e; cases e
        exact ku b _ (un.frzs b o u (kp b _ e hb)) hb
      · by_cases hb : b ∈ cs
        · rw [hT b hb] at e
          cases e
          refine ⟨Classical.choose (ht b), ?_⟩
          unfold unX
          rw [if_pos hb]
          simp
        · obtain ⟨more, h1⟩ := un.tbls b ps (kp b _ e hb)
          exact ⟨more, ku b _ h1 hb⟩
      · unfold unX at e
        by_cases hb : b ∈ cs
        · rw [if_pos hb] at e
          cases e
          exact hT' b hb
        · rw [if_neg hb] at e
          refine (hok b o e).stay (fun _ _ _ q => q) (fun d q => ku d _ q fun z => ?_) fun d xs q => ku d _ q fun z => ?_
          · rw [hx d z] at q
            cases q
          · rw [hx d z] at q
            cases q
/-- what the law is to do: True, whatever the script -/
noncomputable def semLaw (n : Nat) : List D → Option Ou := fun ds => if ∃ ns : List Int, ds = [.list (ns.map .int)] ∧ ns.length ≤ n then some (.ret (.bool true) false []) else none
theorem rps_ints {F : Hp} : ∀ ns : List Int, Rps K F (ns.map V.int) (ns.map PyData.int)
  | [] => .nil
  | n :: ns => .cons (.int n) (rps_ints ns)
theorem law_asks {n : Nat} {H : Hp} {a : Addr} {ns : List Int} (hT : ∀ p ∈ cs, H p = some (.tbl #[])) (hl : ns.length ≤ n) (hS : SqL K H a (ns.map V.int)) :
    spTab cs (spD K cs [.ro] (semLaw n)) [.ref a] H (fun v _ => v = .bl true) fun _ _ _ => False := by
  refine ⟨hT, fun v H1 H2 q => q, fun _ => none, toX cs H, [.list (ns.map .int)], .ret (.bool true) false [], rfl, rfl, rfl, ?_, ?_, ?_⟩
  · refine rep_sh (vs := [.ref a]) (ds := [.list (ns.map .int)]) rfl (fun _ _ h => h) (fun _ _ h => by cases h) (.cons (.lst ?_ (rps_ints ns)) .nil) fun p hp => ?_
    · rcases hS with (h | ⟨o, h⟩) | h
      · refine .inl (.inl ?_)
        unfold toX
        rw [if_neg fun z => by rw [hT a z] at h; cases h]
        exact h
      · refine .inl (.inr ⟨o, ?_⟩)
        unfold toX
        rw [if_neg fun z => by rw [hT a z] at h; cases h]
        exact h
      · exact .inr h
    · unfold toX
      rw [if_pos hp]
  · unfold semLaw
    rw [if_pos ⟨ns, rfl, hl⟩]
  · intro v F' H' x R' res
    unfold ResV at res
    rw [if_neg Bool.false_ne_true] at res
    exact ⟨res.isbl, fun p hp => R'.fh _ _ (R'.tab p hp)⟩
end
end DS

namespace DS
open PySem L2

/-! ## a def that may be called by its name -/
structure Cal (P : Program) (w : World) (K : PySem.W.Frag) (mg : Str → Option Value) (base : Heap) (cs : List Addr) (x : Str) (k : Nat) (ps : List Str) (ms : List Md) (sem : List D → Option Ou) : Prop where
  ex : ∃ f fd, FnOk P w K mg base CX0 k f fd ps (spD K cs ms sem) ∧ mg x = some (.ref f) ∧ PySem.W.keepIn K (.ref f) = true ∧ Binds K fd ps []
/-- the place's program, view and so on -/
structure AtX (X : Cx) (P : Program) (w : World) (K : PySem.W.Frag) (mg : Str → Option Value) (base : Heap) : Prop where
  prog : X.prog = P
  w : X.w = w
  K : X.K = K
  mg : X.mg = mg
  base : X.base = base
section
variable {P : Program} {w : World} {K : PySem.W.Frag} {mg : Str → Option Value} {base : Heap} {cs : List Addr} {X : Cx} {e : Expr} {es : List Expr} {pos p : Pos} {fr : Nv → Option (List D)} {x : Str} {k j : Nat} {ps : List Str} {ms : List Md} {sem : List D → Option Ou}
theorem c_call (C : Cal P w K mg base cs x k ps ms sem) (hX : AtX X P w K mg base) (hro : ∀ m ∈ ms, m = .ro) (hr : Room j X.A) (hj : k ≤ j) (hg : Gl X x) (ha : EPs cs X (e :: es) fr) (hdb : (x == ("__debug__" : Str)) = false := by decide)
    (he : starEach (e :: es) X.env = (false, eval e X.env) :: starEach es X.env := by rfl) (hpl : (backTo pos (starEach es X.env)).any (·.1) = false := by rfl) : EP' cs X (.Call (.Name x p) (e :: es) [] pos) (callS ms.length sem fr) := by
  obtain ⟨rfl, rfl, rfl, rfl, rfl⟩ := hX
  obtain ⟨f, fd, h1, h2, h3, h4⟩ := C.ex
  exact e_call h1 hro (hr.mono hj) hg h2 h3 h4 pass0 ha hdb he hpl
theorem c_callO (C : Cal P w K mg base cs x k ps ms sem) (hX : AtX X P w K mg base) (hro : ∀ m ∈ ms, m = .ro) (hr : Room j X.A) (hj : k ≤ j) (hg : Gl X x) (ha : EPs cs X (e :: es) fr) (hdb : (x == ("__debug__" : Str)) = false := by decide)
    (he : starEach (e :: es) X.env = (false, eval e X.env) :: starEach es X.env := by rfl) (hpl : (backTo pos (starEach es X.env)).any (·.1) = false := by rfl) : EN cs X (.Call (.Name x p) (e :: es) [] pos) (callO ms.length sem fr) := by
  obtain ⟨rfl, rfl, rfl, rfl, rfl⟩ := hX
  obtain ⟨f, fd, h1, h2, h3, h4⟩ := C.ex
  exact e_callO h1 hro (hr.mono hj) hg h2 h3 h4 pass0 ha hdb he hpl
theorem c_callF (C : Cal P w K mg base cs x k ps ms sem) (hX : AtX X P w K mg base) (hro : ∀ m ∈ ms, m = .ro) (hr : Room j X.A) (hj : k ≤ j) (hg : Gl X x) (ha : EWs cs X (e :: es) fr) (hdb : (x == ("__debug__" : Str)) = false := by decide)
    (he : starEach (e :: es) X.env = (false, eval e X.env) :: starEach es X.env := by rfl) (hpl : (backTo pos (starEach es X.env)).any (·.1) = false := by rfl) : EP' cs X (.Call (.Name x p) (e :: es) [] pos) (callF ms.length sem fr) := by
  obtain ⟨rfl, rfl, rfl, rfl, rfl⟩ := hX
  obtain ⟨f, fd, h1, h2, h3, h4⟩ := C.ex
  exact e_callF h1 hro (hr.mono hj) hg h2 h3 h4 pass0 ha hdb he hpl
/-- f() -/
def call0 (sem : List D → Option Ou) : Nv → Option D := fun _ => match sem [] with
  | some (.ret d _ _) => some d
  | _ => none
theorem c_call0 (C : Cal P w K mg base cs x k ps [] sem) (hX : AtX X P w K mg base) (hr : Room j X.A) (hj : k ≤ j) (hg : Gl X x) (hdb : (x == ("__debug__" : Str)) = false := by decide) : EP' cs X (.Call (.Name x p) [] [] pos) (call0 sem) := by
  obtain ⟨rfl, rfl, rfl, rfl, rfl⟩ := hX
  obtain ⟨f, fd, h1, h2, h3, h4⟩ := C.ex
  refine ⟨pe_imp (pe_call0 h1 (hr.mono hj) hg h2 h3 h4 .nil (pass0 (X := X)) hdb) fun σ H Q ⟨Z, F0, ρ, d, R, ef, q⟩ => ?_⟩
  unfold call0 at ef
  split at ef
  · rename_i d' own outs es
    cases ef
    refine ⟨oth F0 H, F0, [], _, rfl, rfl, rfl, R.lend (vs := []) .nil, es, fun v F2 H2 x2 R2 res => ?_⟩
    have RB := R.back x2 R2
    unfold ResV at res
    split at res
    · obtain ⟨p', rfl, h1, h2, h3, h4⟩ := res
      obtain ⟨z1, z2⟩ := R.backN h2
      obtain ⟨o, g1, g2⟩ := h4.rp
      exact q _ _ _ (x2.trans (Ext.upd h1)) (RB.give g1 h1 z1 z2) (g2 _ (Ext.upd h1) upd_same)
    · exact q v F2 H2 x2 RB res
  · cases ef
end
/-! ## y = [.. for .. in ..] on one row -/
section
variable {cs : List Addr} {X : Cx} {E : XK} {elt iter : Expr} {ifs : List Expr} {scope : Scope} {x y : Str} {i j : Nat} {px py pos spos : Pos} {f : Nv → Option (List D)} {t : Nv → Option Bool} {fe : Nv → Option D}
/-- what a comprehension's reading gives: (it is the reading of e_lc) -/
theorem t_lc (σ : L2.St) (H : Hp) (Q : VK) (h : tN X.K cs (lcV i f t fe) σ H Q) : tLc (tI X.K cs SetP f) (gName i) (tPT X.K cs t) (tP X.K cs fe) [i] σ H Q := by
  obtain ⟨Z, F, ρ, d, R, ef, q⟩ := h
  obtain ⟨ds, e1, e2⟩ := Option.bind_eq_some_iff.mp ef
  split at e2
  · rename_i hb
    obtain ⟨hn, hdl⟩ := hb
    obtain ⟨ys, e3, rfl⟩ := Option.map_eq_some_iff.mp e2
    refine ⟨Z, F, ρ, ds, R, e1, fun J P F1 H1 x1 R1 p1 hP S D hD => ?_⟩
    obtain ⟨R2, fD, zD, mD⟩ := R1.made (o := .lst []) hD
    have R3 := R2.aside upd_same fD mD
    have R4 : Rep X.K cs (upd Z D (.lst [])) F1 (upd H1 D (.lst [])) (σ.set i none) (ρ.set i none) := R3.drop i none
    have pS : P F1 (σ.set i none) (ρ.set i none) := hP _ _ _ _ _ _ hn p1
    refine ⟨fun k m H2 => k + m = ds.length ∧ ∃ F2 acc zs rest, Ext F1 F2 ∧ Rep X.K cs (upd Z D (.lst acc)) F2 H2 (σ.set i none) (ρ.set i none) ∧ P F2 (σ.set i none) (ρ.set i none) ∧ Rps X.K F2 acc zs ∧ acc.length ≤ k ∧ lcD i t fe ρ (ds.drop k) = some rest ∧ ys = zs ++ rest,
      ⟨ds.length, by omega, F1, [], [], ys, Ext.refl F1, R4, pS, .nil, Nat.le_refl _, by rw [List.drop_zero]; exact e3, rfl⟩, ?_⟩
    rintro k m H2 ⟨hm, F2, acc, zs, rest, x2, R5, p5, r5, la, e5, hy⟩
    by_cases hlt : k < ds.length
    · have hd : ds.drop k = ds[k] :: ds.drop (k + 1) := List.drop_eq_getElem_cons hlt
      rw [hd] at e5
      obtain ⟨b, e6, e7⟩ := Option.bind_eq_some_iff.mp e5
      obtain ⟨hgo, hyl⟩ := S.go _ F2 H2 _ _ k ds[k] R5 p5 (List.getElem?_eq_getElem hlt)
      refine .inr ⟨hgo, fun H3 => ∃ m', m' < m ∧ (k + 1) + m' = ds.length ∧ ∃ F3 acc zs rest, Ext F1 F3 ∧ Rep X.K cs (upd Z D (.lst acc)) F3 H3 (σ.set i none) (ρ.set i none) ∧ P F3 (σ.set i none) (ρ.set i none) ∧ Rps X.K F3 acc zs ∧ acc.length ≤ k + 1 ∧ lcD i t fe ρ (ds.drop (k + 1)) = some rest ∧ ys = zs ++ rest, fun H3 h => h, fun v H3 hyv => ?_⟩
      obtain ⟨F3, x3, R6, r6⟩ := hyl v H3 hyv
      have R7 := R6.setSh i r6
      have sset : ∀ w : Option V, (σ.set i none).set i w = σ.set i w := fun w => by rw [List.set_set]
      have rset : ∀ c : Option Cell, (ρ.set i none).set i c = ρ.set i c := fun c => by rw [List.set_set]
      rw [sset, rset] at R7
      refine ⟨?_, ?_⟩
      · show ((σ.set i none).set i (some v)).set i none = σ.set i none
        rw [List.set_set, List.set_set]
      · have hw : List.set (wipe σ [i]) i (some v) = σ.set i (some v) := sset (some v)
        rw [hw]
        refine ⟨_, F3, _, b, R7, e6, fun F4 H4 x4 R8 => ?_⟩
        have back : ∀ {F5 H5 : Hp} {acc' : List V}, Rep X.K cs (upd Z D (.lst acc')) F5 H5 (σ.set i (some v)) (ρ.set i (some (.sh ds[k]))) → Rep X.K cs (upd Z D (.lst acc')) F5 H5 (σ.set i none) (ρ.set i none) := fun {F5 H5 acc'} r => by
          have := r.drop i none
          rw [List.set_set, List.set_set] at this
          exact this
        by_cases hb : b = true
        · rw [if_pos hb] at e7
          show if b = true then _ else _
          rw [if_pos hb]
          obtain ⟨y, e8, e9⟩ := Option.bind_eq_some_iff.mp e7
          obtain ⟨rest', e10, rfl⟩ := Option.map_eq_some_iff.mp e9
          refine ⟨_, F4, _, y, R8, e8, fun u F5 H5 x5 R9 r9 => ⟨acc, (R9.zh D _ upd_same).1, ?_, ?_⟩⟩
          · have : (100000 : Nat) ≤ sizeLine := by decide
            omega
          · have x25 : Ext F2 F5 := (x3.trans x4).trans x5
            refine ⟨m - 1, by omega, by omega, F5, acc ++ [u], zs ++ [y], rest', x2.trans x25, back R9.asideSet, S.mono _ _ _ _ x25 p5, (r5.ext x25).app (.cons r9 .nil), ?_, e10, ?_⟩
            · rw [List.length_append]
              simp only [List.length_cons, List.length_nil]
              omega
            · rw [hy, List.append_assoc]
              rfl
        · rw [if_neg hb] at e7
          show if b = true then _ else _
          rw [if_neg hb]
          have x24 : Ext F2 F4 := x3.trans x4
          exact ⟨m - 1, by omega, by omega, F4, acc, zs, rest, x2.trans x24, back R8, S.mono _ _ _ _ x24 p5, r5.ext x24, by omega, e7, hy⟩
    · have hd : ds.drop k = [] := List.drop_of_length_le (by omega)
      rw [hd] at e5
      cases e5
      rw [List.append_nil] at hy
      refine .inl ⟨S.stop _ F2 H2 _ _ k R5 p5 (by omega), ?_⟩
      obtain ⟨hDH, hDF⟩ := R5.zh D _ upd_same
      have RB : Rep X.K cs Z F2 H2 σ ρ := R1.restore hn (fun _ z => by cases z) x2 (fun a o h => by
        have ha : a ≠ D := ne_of_none h zD
        rw [upd_ne ha]
        exact h) R5
      refine q D F2 H2 (x1.trans x2) RB hDF zD mD ⟨acc, hDH, ?_⟩
      rw [hy]
      exact r5
  · cases e2
theorem sd_setLc (hc : X.calm = true) (hN : X.N.Nodup) (hy : X.N[j]? = some y) (hyl : X.env.scope.names.lookup y = some .local) (hsw : swapsWith (.ListComp elt [⟨.Name x px, iter, ifs, 0⟩] scope pos) (some (.Name y py)) spos.line X.env = pure true)
    (hix : X.N[i]? = some x) (hi : EI cs X SetP (.Name x px) iter f) (ok : BlkOk X.N X.env.scope scope [(x, i)])
    (hl : ∀ (s : Shared) (H : Hp) (C : Addr) (cl : List (Str × Addr)) (fp : List Addr), (X.blk s H scope (compEnvC scope cl C X.env) fp).env.scope.names.lookup x = some .local)
    (ht : ∀ (s : Shared) (H : Hp) (C : Addr) (cl : List (Str × Addr)) (fp : List Addr), ETs cs (X.blk s H scope (compEnvC scope cl C X.env) fp) ifs t)
    (he : ∀ (s : Shared) (H : Hp) (C : Addr) (cl : List (Str × Addr)) (fp : List Addr), EP' cs (X.blk s H scope (compEnvC scope cl C X.env) fp) elt fe) (hs : ∀ x, foldedSetIterable iter X.env x = pure x := by intro _; rfl) :
    SD cs X E (.Assign [.Name y py] (.ListComp elt [⟨.Name x px, iter, ifs, 0⟩] scope pos) spos) (setN j (lcV i f t fe)) := by
  refine ⟨ps_imp (ps_setLc (i := j) (own := [(x, i)]) (g := gName i) (tt := tPT X.K cs t) (te := tP X.K cs fe) hc hN hy hyl hsw hi.h ok (fun s H C cl fp => pg_name (X := X.blk s H scope (compEnvC scope cl C X.env) fp) (i := i) hN hix (.inl (hl s H C cl fp)) (.inr (hl s H C cl fp))) (fun s H C cl fp => (ht s H C cl fp).h) (fun s H C cl fp => (he s H C cl fp).h) hs) ?_⟩
  rintro D σ H ⟨Z, F, ρ, r, R, ef, w⟩
  obtain ⟨d, e1, rfl⟩ := Option.map_eq_some_iff.mp ef
  exact t_lc σ H _ ⟨Z, F, ρ, d, R, e1, fun p F1 H1 x1 R1 fp zp mp o => w _ F1 H1 (by rw [List.length_set]) x1 (R1.setOw j fp zp mp o)⟩
theorem sd_setLcS (hc : X.calm = true) (hN : X.N.Nodup) (hy : X.N[j]? = some y) (hyl : X.env.scope.names.lookup y = some .local) (hsw : swapsWith (.ListComp elt [⟨.Name x px, iter, ifs, 0⟩] scope pos) (some (.Name y py)) spos.line X.env = pure true)
    (hix : X.N[i]? = some x) (hi : EI cs X SetP (.Name x px) iter f) (ok : BlkOk X.N X.env.scope scope [(x, i)])
    (hl : ∀ (s : Shared) (H : Hp) (C : Addr) (cl : List (Str × Addr)) (fp : List Addr), (X.blk s H scope (compEnvC scope cl C X.env) fp).env.scope.names.lookup x = some .local)
    (ht : ∀ (s : Shared) (H : Hp) (C : Addr) (cl : List (Str × Addr)) (fp : List Addr), ETs cs (X.blk s H scope (compEnvC scope cl C X.env) fp) ifs t)
    (he : ∀ (s : Shared) (H : Hp) (C : Addr) (cl : List (Str × Addr)) (fp : List Addr), EP' cs (X.blk s H scope (compEnvC scope cl C X.env) fp) elt fe) (hs : ∀ x, foldedSetIterable iter X.env x = pure x := by intro _; rfl) :
    SD cs X E (.Assign [.Name y py] (.ListComp elt [⟨.Name x px, iter, ifs, 0⟩] scope pos) spos) (setS j (lcV i f t fe)) := by
  refine ⟨ps_imp (ps_setLc (i := j) (own := [(x, i)]) (g := gName i) (tt := tPT X.K cs t) (te := tP X.K cs fe) hc hN hy hyl hsw hi.h ok (fun s H C cl fp => pg_name (X := X.blk s H scope (compEnvC scope cl C X.env) fp) (i := i) hN hix (.inl (hl s H C cl fp)) (.inr (hl s H C cl fp))) (fun s H C cl fp => (ht s H C cl fp).h) (fun s H C cl fp => (he s H C cl fp).h) hs) ?_⟩
  rintro D σ H ⟨Z, F, ρ, r, R, ef, w⟩
  obtain ⟨d, e1, rfl⟩ := Option.map_eq_some_iff.mp ef
  refine t_lc σ H _ ⟨Z, F, ρ, d, R, e1, fun p F1 H1 x1 R1 fp zp mp o => ?_⟩
  obtain ⟨ob, h1, h2⟩ := o.rp
  exact w _ _ H1 (by rw [List.length_set]) (x1.trans (Ext.upd fp)) ((R1.give h1 fp zp mp).setSh j (h2 _ (Ext.upd fp) upd_same))
end

/-! ## small things -/
theorem hu65 {k : Nat} {A : Around} (h : Room k A) : A.units + 65 < cLine := by have := h.un; omega
theorem e_gint {cs : List Addr} {X : Cx} {x : Str} {i : Int} {pos : Pos} (hg : Gl X x) (h : ∃ t, X.mg x = some (.int i t)) (hd : (x == ("__debug__" : Str)) = false := by decide) : EP' cs X (.Name x pos) (fun _ => some (.int i)) := by
  obtain ⟨t, h⟩ := h
  exact e_glob (pe_glob (v := .int i) hg h ⟨t, rfl⟩ hd) fun F => .int i
end DS

namespace DS
open PySem L2
instance : DecidableEq Md := fun a b => by
  cases a <;> cases b <;> first | exact isTrue rfl | exact isFalse fun h => by cases h

/-! ## what a def comes to, where it changes none of its arguments -/
def shs (ds : List D) (n : Nat) : Nv := (ds.map fun d => some (.sh d)) ++ List.replicate n none
def fin0 (k : Nat) : SR → Option Ou
  | .nx ρ => if k ≤ ρ.length then some (.ret .none false []) else none
  | .rt d own ρ => if k ≤ ρ.length then some (.ret d own []) else none
  | .exc c => some (.exc c)
  | _ => none
/-- its meaning by its body's: k arguments, n names more -/
def semR (k n : Nat) (g : Nv → Option SR) : List D → Option Ou := fun ds => if ds.length = k then (g (shs ds n)).bind (fin0 k) else none
theorem outs_ro : ∀ {ms : List Md} {vs : List V} {ρ : Nv}, (∀ m ∈ ms, m = .ro) → vs.length = ms.length → ms.length ≤ ρ.length → outsOf ms vs ρ = some []
  | [], _, _, _, _, _ => rfl
  | m :: ms, [], _, _, h, _ => by cases h
  | m :: ms, v :: vs, [], _, _, h => by simp at h
  | m :: ms, v :: vs, r :: ρ, h, h1, h2 => by
    have e : m = .ro := h m List.mem_cons_self
    subst e
    show outsOf ms vs ρ = some []
    exact outs_ro (fun m hm => h m (List.mem_cons_of_mem _ hm)) (by simpa using h1) (by simpa using h2)
theorem comes_ro {ms : List Md} {n : Nat} {g : Nv → Option SR} (hro : ∀ m ∈ ms, m = .ro) : Comes ms n g (semR ms.length n g) := fun vs ds o hv hd _ h => by
  unfold semR at h
  rw [if_pos hd] at h
  unfold runD
  rw [argNv_ro hro hv hd]
  obtain ⟨r, e1, e2⟩ := Option.bind_eq_some_iff.mp h
  show (g (shs ds n)).bind _ = _
  rw [e1]
  show finD ms vs r = some o
  cases r with
  | nx ρ =>
    unfold fin0 at e2
    dsimp only at e2
    split at e2
    · rename_i hl
      cases e2
      show (outsOf ms vs ρ).map _ = _
      rw [outs_ro hro hv hl]
      rfl
    · cases e2
  | rt d own ρ =>
    unfold fin0 at e2
    dsimp only at e2
    split at e2
    · rename_i hl
      cases e2
      show (outsOf ms vs ρ).map _ = _
      rw [outs_ro hro hv hl]
      rfl
    · cases e2
  | bk ρ => cases e2
  | ct ρ => cases e2
  | exc c => cases e2; rfl

/-! ## steps over data -/
def sgOk (d : D) : Bool := match d with
  | .none => true
  | .bool _ => true
  | .int _ => true
  | .str x => decide (x.length ≤ 100000) && PyData.strOk x
  | _ => false
/-- data of at most this depth, its texts plain and short -/
def fine : Nat → D → Bool
  | 0, d => sgOk d
  | n + 1, .list xs => xs.all (fine n)
  | n + 1, .tuple xs => xs.all (fine n)
  | _ + 1, d => sgOk d
theorem lay_all {n : Nat} (ih : ∀ d, fine n d = true → d.canLay0 = true ∧ d.depth ≤ n) : ∀ xs : List D, xs.all (fine n) = true → PyData.canLayAll0 xs = true ∧ PyData.depthAll xs ≤ n
  | [], _ => ⟨by rw [PyData.canLayAll0], by rw [PyData.depthAll]; exact Nat.zero_le _⟩
  | x :: xs, h => by
    rw [List.all_cons, Bool.and_eq_true] at h
    obtain ⟨h1, h2⟩ := ih x h.1
    obtain ⟨h3, h4⟩ := lay_all ih xs h.2
    refine ⟨by rw [PyData.canLayAll0, h1, h3]; rfl, ?_⟩
    rw [PyData.depthAll]
    omega
theorem lay_sg {d : D} (h : sgOk d = true) : d.canLay0 = true ∧ d.depth = 0 := by
  cases d with
  | none => exact ⟨by simp [PyData.canLay0], by simp [PyData.depth]⟩
  | bool b => exact ⟨by simp [PyData.canLay0], by simp [PyData.depth]⟩
  | int i => exact ⟨by simp [PyData.canLay0], by simp [PyData.depth]⟩
  | str x =>
    have h' : decide (x.length ≤ 100000) = true ∧ PyData.strOk x = true := by simpa [sgOk] using h
    exact ⟨by rw [PyData.canLay0]; exact h'.2, by simp [PyData.depth]⟩
  | list _ => cases h
  | tuple _ => cases h
  | dict _ => cases h
theorem lay_fine : ∀ (n : Nat) (d : D), fine n d = true → d.canLay0 = true ∧ d.depth ≤ n
  | 0, d, h => by
    obtain ⟨h1, h2⟩ := lay_sg (d := d) (by unfold fine at h; exact h)
    exact ⟨h1, by omega⟩
  | n + 1, d, h => by
    cases d with
    | list xs =>
      obtain ⟨h1, h2⟩ := lay_all (lay_fine n) xs (by simpa [fine] using h)
      exact ⟨by rw [PyData.canLay0]; exact h1, by rw [PyData.depth]; omega⟩
    | tuple xs =>
      obtain ⟨h1, h2⟩ := lay_all (lay_fine n) xs (by simpa [fine] using h)
      exact ⟨by rw [PyData.canLay0]; exact h1, by rw [PyData.depth]; omega⟩
    | _ =>
      obtain ⟨h1, h2⟩ := lay_sg (by simpa [fine] using h)
      exact ⟨h1, by omega⟩
theorem shaped_fine {n : Nat} {d : D} (h : fine n d = true) (hn : n ≤ 60) : SeqAt.shaped d = true := by
  obtain ⟨h1, h2⟩ := lay_fine n d h
  unfold SeqAt.shaped
  rw [h1, Bool.true_and]
  exact decide_eq_true (by omega)
theorem shaped_int {i : Int} : SeqAt.shaped (.int i) = true := shaped_fine (n := 0) (d := .int i) rfl (by decide)
theorem shaped_none : SeqAt.shaped .none = true := shaped_fine (n := 0) (d := .none) rfl (by decide)
theorem shaped_bool {i : Bool} : SeqAt.shaped (.bool i) = true := shaped_fine (n := 0) (d := .bool i) rfl (by decide)
theorem shaped_str {x : Str} (h1 : x.length ≤ 100000) (h2 : PyData.strOk x = true) : SeqAt.shaped (.str x) = true := shaped_fine (n := 0) (d := .str x) (by simp [fine, sgOk, h1, h2]) (by decide)
theorem fine_up : ∀ {n : Nat} {d : D}, fine n d = true → fine (n + 1) d = true
  | 0, d, h => by
    cases d with
    | list _ => cases h
    | tuple _ => cases h
    | dict _ => cases h
    | _ => exact h
  | n + 1, d, h => by
    cases d with
    | list xs =>
      have h' : xs.all (fine n) = true := h
      show xs.all (fine (n + 1)) = true
      rw [List.all_eq_true] at h' ⊢
      exact fun x hx => fine_up (h' x hx)
    | tuple xs =>
      have h' : xs.all (fine n) = true := h
      show xs.all (fine (n + 1)) = true
      rw [List.all_eq_true] at h' ⊢
      exact fun x hx => fine_up (h' x hx)
    | _ => exact h
/-- an item at a rest -/
theorem atI_ok {α : Type} {xs : List α} {i : Int} (h0 : 0 ≤ i) (h1 : i < xs.length) : ∃ x, atI xs i = some x ∧ x ∈ xs := by
  have hj : i.toNat < xs.length := by omega
  refine ⟨xs[i.toNat], ?_, List.getElem_mem hj⟩
  unfold atI ixN
  rw [if_pos h0, if_pos h1]
  show xs[i.toNat]? = _
  exact List.getElem?_eq_getElem hj
theorem atI_mod {α : Type} {xs : List α} {i n : Int} (hn : 0 < n) (hl : n ≤ xs.length) : ∃ x, atI xs (i % n) = some x ∧ x ∈ xs := by
  have h1 := Int.emod_nonneg i (b := n) (by omega)
  have h2 := Int.emod_lt_of_pos i hn
  exact atI_ok h1 (by omega)
end DS

namespace DS
open PySem L2

/-! ## a body's run, step by step -/
def Rets (n : Nat) (o : Bool) (φ : D → Prop) (x : Option SR) : Prop := ∃ d ρ', x = some (.rt d o ρ') ∧ n ≤ ρ'.length ∧ φ d
section
variable {n : Nat} {φ : D → Prop} {g g' : Nv → Option SR} {ρ ρ' : Nv} {t : Nv → Option Bool} {f : Nv → Option D} {d : D} {b o : Bool}
theorem rets_nx (h1 : g ρ = some (.nx ρ')) (h2 : Rets n o φ (g' ρ')) : Rets n o φ (seqS g g' ρ) := by
  unfold seqS
  rw [h1]
  exact h2
theorem rets_rt (h1 : Rets n o φ (g ρ)) : Rets n o φ (seqS g g' ρ) := by
  obtain ⟨d, ρ', e, h⟩ := h1
  unfold seqS
  rw [e]
  exact ⟨d, ρ', rfl, h⟩
theorem rets_if (h : t ρ = some b) (h1 : b = true → Rets n o φ (g ρ)) (h2 : b = false → Rets n o φ (g' ρ)) : Rets n o φ (ifS t g g' ρ) := by
  unfold ifS
  rw [h]
  cases b with
  | true => exact h1 rfl
  | false => exact h2 rfl
/-- if t: return ..; rest -/
theorem rets_ifr (h : t ρ = some b) (h1 : b = true → Rets n o φ (g ρ)) (h2 : b = false → Rets n o φ (g' ρ)) : Rets n o φ (seqS (ifS t g (fun ρ => some (.nx ρ))) g' ρ) := by
  cases b with
  | true => exact rets_rt (rets_if h (fun _ => h1 rfl) fun z => by cases z)
  | false =>
    refine rets_nx (ρ' := ρ) ?_ (h2 rfl)
    unfold ifS
    rw [h]
    rfl
theorem rets_ret (h : f ρ = some d) (hn : n ≤ ρ.length) (hφ : φ d) : Rets n o φ ((fun ρ => (f ρ).map fun d => .rt d o ρ) ρ) := ⟨d, ρ, by show (f ρ).map _ = _; rw [h]; rfl, hn, hφ⟩
theorem setS_is {i : Nat} (h : f ρ = some d) : setS i f ρ = some (.nx (ρ.set i (some (.sh d)))) := by
  unfold setS
  rw [h]
  rfl
theorem sem_rets {k m : Nat} {ds : List D} (hk : ds.length = k) (h : Rets k o φ (g (shs ds m))) : ∃ d, semR k m g ds = some (.ret d o []) ∧ φ d := by
  obtain ⟨d, ρ', e, h1, h2⟩ := h
  refine ⟨d, ?_, h2⟩
  unfold semR
  rw [if_pos hk, e]
  show (if _ then _ else _) = _
  rw [if_pos h1]
theorem op2_is {op : D → D → Option D} {fa fb : Nv → Option D} {x y r : D} (h1 : fa ρ = some x) (h2 : fb ρ = some y) (h3 : op x y = some r) : op2 op fa fb ρ = some r := by
  unfold op2
  rw [h1, h2]
  exact h3
theorem opT_is {op : D → D → Option D} {fa fb : Nv → Option D} {x y : D} (h1 : fa ρ = some x) (h2 : fb ρ = some y) (h3 : op x y = some (.bool b)) : opT op fa fb ρ = some b := by
  unfold opT
  rw [op2_is h1 h2 h3]
  rfl
theorem callS_is {k : Nat} {sem : List D → Option Ou} {fr : Nv → Option (List D)} {ds : List D} {os : List D} (h : fr ρ = some ds) (hk : ds.length = k) (e : sem ds = some (.ret d o os)) : callS k sem fr ρ = some d := by
  unfold callS
  rw [h]
  show (if _ then _ else _) = _
  rw [if_pos hk, e]
theorem cons2_is {fa : Nv → Option D} {fr : Nv → Option (List D)} {ds : List D} (h : fa ρ = some d) (h2 : fr ρ = some ds) : cons2 fa fr ρ = some (d :: ds) := by
  unfold cons2
  rw [h, h2]
  rfl
/-- a comprehension without conditions -/
theorem lcD_all {i : Nat} {Q : D → Prop} : ∀ ds : List D, (∀ x ∈ ds, ∃ y, f (ρ.set i (some (.sh x))) = some y ∧ Q y) → ∃ ys, lcD i (fun _ => some true) f ρ ds = some ys ∧ ys.length = ds.length ∧ ∀ y ∈ ys, Q y
  | [], _ => ⟨[], rfl, rfl, fun _ h => by cases h⟩
  | x :: r, h => by
    obtain ⟨y, e1, q1⟩ := h x List.mem_cons_self
    obtain ⟨ys, e2, l2, q2⟩ := lcD_all r fun z hz => h z (List.mem_cons_of_mem _ hz)
    refine ⟨y :: ys, ?_, by rw [List.length_cons, l2, List.length_cons], fun z hz => ?_⟩
    · rw [lcD]
      show (f (ρ.set i (some (.sh x)))).bind _ = _
      rw [e1]
      show (lcD i (fun _ => some true) f ρ r).map _ = _
      rw [e2]
      rfl
    · rcases List.mem_cons.mp hz with rfl | hz
      · exact q1
      · exact q2 z hz
theorem lcV_all {i : Nat} {Q : D → Prop} {fi : Nv → Option (List D)} {ds : List D} (hi : fi ρ = some ds) (hn : noMine ρ i = true) (hl : ds.length ≤ 100000) (h : ∀ x ∈ ds, ∃ y, f (ρ.set i (some (.sh x))) = some y ∧ Q y) :
    ∃ ys, lcV i fi (fun _ => some true) f ρ = some (.list ys) ∧ ys.length = ds.length ∧ ∀ y ∈ ys, Q y := by
  obtain ⟨ys, e, h1, h2⟩ := lcD_all ds h
  refine ⟨ys, ?_, h1, h2⟩
  unfold lcV
  rw [hi]
  show (if _ then _ else _) = _
  rw [if_pos ⟨hn, hl⟩, e]
  rfl
/-- a loop that goes through, keeping what it keeps -/
theorem forS_all {a : D → Nv → Option Nv} {I : Nv → Prop} : ∀ (ds : List D) (ρ : Nv), I ρ → (∀ d ∈ ds, ∀ ρ, I ρ → ∃ ρ1 ρ2, a d ρ = some ρ1 ∧ g ρ1 = some (.nx ρ2) ∧ I ρ2) → ∃ ρ', forS a g ds ρ = some (.nx ρ') ∧ I ρ'
  | [], ρ, h, _ => ⟨ρ, rfl, h⟩
  | d :: r, ρ, h, hs => by
    obtain ⟨ρ1, ρ2, e1, e2, h2⟩ := hs d List.mem_cons_self ρ h
    obtain ⟨ρ', e3, h3⟩ := forS_all r ρ2 h2 fun z hz => hs z (List.mem_cons_of_mem _ hz)
    refine ⟨ρ', ?_, h3⟩
    rw [forS, e1]
    show (g ρ1).bind _ = _
    rw [e2]
    exact e3
end
/-! ## texts -/
def sgD (c : Nat) : D := .str ⟨#[c]⟩
theorem join_sg (cs : List Nat) : (Txt.join (⟨#[]⟩ : Str) (cs.map fun c => ⟨#[c]⟩)).cps.toList = cs := by
  show (Builtin.Str.glued _ _).cps.toList = cs
  rw [StrLaws.glued_eq_join]
  induction cs with
  | nil => rfl
  | cons c r ih =>
    match r, ih with
    | [], _ => rfl
    | d :: r, ih =>
      show ((Str.append (Str.append (⟨#[c]⟩ : Str) (⟨#[]⟩ : Str)) (Str.join ⟨#[]⟩ ((d :: r).map fun c => ⟨#[c]⟩))).cps).toList = _
      simp only [Str.append, Array.toList_append, ih]
      rfl
theorem strs_sg : ∀ cs : List Nat, strsD (cs.map sgD) = some (cs.map fun c => ⟨#[c]⟩)
  | [] => rfl
  | c :: r => by
    show (strsD (r.map sgD)).map _ = _
    rw [strs_sg r]
    rfl
theorem len_sg : ∀ cs : List Nat, ((cs.map fun c => (⟨#[c]⟩ : Str)).map (·.length)).sum = cs.length
  | [] => rfl
  | c :: r => by
    rw [List.map_cons, List.map_cons, List.sum_cons, len_sg r, List.length_cons]
    show 1 + r.length = _
    omega
theorem joinD_sg {cs : List Nat} (h : cs.length ≤ 100000) : ∃ t : Str, joinD (.str ⟨#[]⟩) (.list (cs.map sgD)) = some (.str t) ∧ t.cps.toList = cs := by
  refine ⟨_, ?_, join_sg cs⟩
  show (strsD (cs.map sgD)).bind _ = _
  rw [strs_sg]
  show (if _ then _ else _) = _
  rw [if_pos]
  rw [len_sg]
  show cs.length + _ * 0 ≤ 100000
  omega
theorem strOk_all {t : Str} : PyData.strOk t = true ↔ ∀ c ∈ t.cps.toList, c < 0x110000 := by
  unfold PyData.strOk
  rw [Array.all_eq_true_iff_forall_mem]
  simp
theorem len_list (t : Str) : t.length = t.cps.toList.length := rfl
theorem fine_str {n : Nat} {t : Str} (h1 : t.length ≤ 100000) (h2 : ∀ c ∈ t.cps.toList, c < 0x110000) : fine n (.str t) = true := by
  have : sgOk (.str t) = true := by
    unfold sgOk
    simp [h1, strOk_all.mpr h2]
  cases n with
  | zero => exact this
  | succ n => exact this
theorem str_fine {n : Nat} {t : Str} (h : fine n (.str t) = true) : t.length ≤ 100000 ∧ ∀ c ∈ t.cps.toList, c < 0x110000 := by
  have : sgOk (.str t) = true := by
    cases n with
    | zero => exact h
    | succ n => exact h
  unfold sgOk at this
  simp only [Bool.and_eq_true, decide_eq_true_eq] at this
  exact ⟨this.1, strOk_all.mp this.2⟩
theorem mem_cutS {z : Str} {lo hi : Option Int} {c : Nat} (h : c ∈ (cutS z lo hi).cps.toList) : c ∈ z.cps.toList := by
  have h' : c ∈ ((z.cps.toList.drop (HT.sIx z.length 0 lo)).take (HT.sIx z.length z.length hi - HT.sIx z.length 0 lo)) := h
  exact List.mem_of_mem_drop (List.mem_of_mem_take h')
theorem mem_app {x y : Str} {c : Nat} (h : c ∈ (x ++ y).cps.toList) : c ∈ x.cps.toList ∨ c ∈ y.cps.toList := by
  have h' : c ∈ (x.cps ++ y.cps).toList := h
  rw [Array.toList_append] at h'
  exact List.mem_append.mp h'
theorem len_app (x y : Str) : (x ++ y).length = x.length + y.length := Str.length_append x y
end DS

namespace DS
open PySem L2 PySem.Spec PyProof.Rows
/-- a promise that asks for less -/
theorem fn_sem {P : Program} {w : World} {K : PySem.W.Frag} {mg : Str → Option Value} {base : Heap} {CX : CXT} {k : Nat} {f : Addr} {fd : FuncData} {ps : List Str} {cs : List Addr} {ms : List Md} {sem sem' : List D → Option Ou} (F : FnOk P w K mg base CX k f fd ps (spD K cs ms sem)) (h : ∀ ds o, sem' ds = some o → sem ds = some o) : FnOk P w K mg base CX k f fd ps (spD K cs ms sem') := by
  have im : ∀ vs H Q E, spD K cs ms sem' vs H Q E → spD K cs ms sem vs H Q E := fun vs H Q E ⟨Z, F, ds, o, h1, h2, h3, h4, h5, h6⟩ => ⟨Z, F, ds, o, h1, h2, h3, h4, h _ _ h5, h6⟩
  exact ⟨fun vs H Q E q => F.len _ _ _ _ (im _ _ _ _ q), fun A outer s H args us vs Q E hr e0 hb hv q => F.run A outer s H args us vs Q E hr e0 hb hv (im _ _ _ _ q)⟩
/-- a def's code object and its table, by what the view shows -/
theorem tab_is {K : PySem.W.Frag} {x : Str} {f c P : Addr} {oc oe : Value} {od oe2 : Option Addr} {fd : FuncData} {sl sl2 : Array (Option Value)} {vs : Array Value} (a : PySem.W.nsIn K mainGlobals x = some (some (.ref f))) (l : K.lookup f = some ⟨oc, od, .func fd, sl⟩) (hc : fd.code = .ref c)
    (g : K.lookup c = some ⟨oe, oe2, .fields vs, sl2⟩) (v : vs[11]? = some (.ref P)) : PySem.W.tabIn K x = some (c, P) := by
  unfold PySem.W.tabIn
  simp [a, l, hc, g, v]
/-- the law's walk, where some of its defs hold generator expressions: their tables are empty behind the head -/
theorem walk_tabs {l : PySem.W.OpenLaw} {n k : Nat} {q : Program} {loose : List Str} {XP : (Str → Option Value) → Heap → Prop} {YP : World → Heap → Prop} {d : DefRec} {K : Params → PySem.W.Frag} {CX : World → CXT} {x : Str} (xs : List Str)
    (hn : l.most = some n) (hn2 : n ≤ sizeLine) (hdf : d.params.defaults = []) (hr : Room k callerA) (hrec : xs.all (fun x => ((recsOf q).find? fun e => e.name == x).isSome) = true) (hY : ∀ (w : World) (h : Heap), YP w h → (K w.params).In h)
    (F : ∀ (w : World) (mg : Str → Option Value) (fa : Addr) (h : Heap), YP w h → (K w.params).In h → h.Ns mainGlobals mg → mg d.name = some (.ref fa) →
      (∀ x c P, x ∈ xs → PySem.W.tabIn (K w.params) x = some (c, P) → PySem.W.CodeHd h c P ∧ h.get? P = some { cls := .none, data := .fields #[] }) → LamX.LawAtS l w (K w.params) (CX w) k n x mg fa h)
    (hCX : ∀ (w : World) (H : Hp) (s : Shared) (e : Value) (s' : Shared), CX w [] H s (fun _ _ _ => False) e s' → False) :
    PySem.W.WalkO q loose XP YP l.row.toRowW d [] (fun f vs => PySem.call f vs) := by
  refine Att.attach_callB hn hdf fun w s₀ s₁ mg mb fa o pm cd doc a vs ns G Y ho hd hcd hmg hobj hints hlen hbits hg => ?_
  have KX := hY w _ Y
  obtain ⟨fd, cs, sp, hT, nT, C, hb, hsp, hF⟩ := F w mg fa _ Y KX G.T.g hmg (fun x c P hx ht => by
    obtain ⟨d', hd'⟩ := Option.isSome_iff_exists.mp (List.all_eq_true.mp hrec x hx)
    exact PySem.W.tab_of G.T KX hd' ht)
  exact LamX.law_callTs KX G.T.g G.T.b G.T.builtins G.T.nolimit hg hT nT C G.T.bmain hobj hints (Nat.le_trans hlen hn2) hr hF hb (fun H hH hS => hsp H a ns hlen hbits hH hS) fun H e s' => hCX w H s₁ e s'
end DS

namespace K1
open PySem L2 DS
def topS (i : Nat) : Stmt := PySem.Challenge.pw_mendread_k01_signs_names_rules.main.body.getD i (.Pass ⟨0, 0, 0, 0⟩)
structure Blts (mg : Str → Option Value) : Prop where
  b_all : mg "all" = none
  b_bool : mg "bool" = none
  b_isinstance : mg "isinstance" = none
  b_len : mg "len" = none
  b_list : mg "list" = none
  b_ord : mg "ord" = none
  b_range : mg "range" = none
  b_str : mg "str" = none
  b_tuple : mg "tuple" = none
  c_BLANK : ∃ t, mg "BLANK" = some (.int 32 t)
  c_MOST_LETTERS : ∃ t, mg "MOST_LETTERS" = some (.int 12 t)
  c_MOST_RULES : ∃ t, mg "MOST_RULES" = some (.int 40 t)
  c_MOST_SIGNS : ∃ t, mg "MOST_SIGNS" = some (.int 40 t)
  c_PERCENT : ∃ t, mg "PERCENT" = some (.int 37 t)
  c_TILDE : ∃ t, mg "TILDE" = some (.int 126 t)
section
variable {P : Program} {w : World} {K : PySem.W.Frag} {mg : Str → Option Value} {base : Heap} {cs : List Addr}

/-! is_sign -/
abbrev s_is_sign : Stmt := topS 7
theorem sc_is_sign : FnScope ["thing", "number"] ["thing"] (defScope s_is_sign) := ⟨rfl, rfl, rfl, by decide +kernel, rfl, by decide +kernel, by decide +kernel⟩
noncomputable def g_is_sign : Nv → Option SR := (seqS (ifS (orT (notT (fun ρ => ((fun ρ => ((nmW 0) ρ).map fun d => .bool (isiB "str" d)) ρ).bind truD)) (opT neD (callD lenD (cons2 (nmW 0) (fun _ => some []))) (fun _ => some (.int 1))))
      (fun ρ => ((fun _ => some (.bool false)) ρ).map fun d => .rt d false ρ)
      (fun ρ => some (.nx ρ)))
    (seqS (setS 1 (callD ordD (cons2 (nmW 0) (fun _ => some []))))
    (fun ρ => ((andV (ch3 leD leD (fun _ => some (.int 32)) (nmW 1) (fun _ => some (.int 126))) (op2 neD (nmW 1) (fun _ => some (.int 37)))) ρ).map fun d => .rt d false ρ)))
noncomputable def sem_is_sign : List D → Option Ou := semR 1 1 g_is_sign
theorem co_is_sign : Comes [.ro] 1 g_is_sign sem_is_sign := comes_ro (by decide)
theorem ok_is_sign {f : Addr} {fd : FuncData} (F : Fun K "is_sign" "is_sign" s_is_sign f fd) (B : Blts mg) : FnOk P w K mg base CX0 1 f fd ["thing"] (spD K cs [.ro] sem_is_sign) := by
  refine fn_ds F sc_is_sign rfl fun cdv A outer s H E hr => ⟨g_is_sign, ?_, co_is_sign⟩
  exact (sd_cons (sd_if (et_pw (ew_or (et_not (et_val ((e_isi isi_str (by rfl) B.b_isinstance (e_nameW (pv 0)) (by rfl) B.b_str PyProof.Rows.boot_str)).w)) (ew_or1 (et_cmp (od_ne hr.units) ((e_callB cd_len (by rfl) B.b_len PySem.boot_len (ewa_cons (e_nameW (pv 0)) ewa_nil))).w (e_int).w (nomark _)))))
      (sd_one (sd_ret e_bool))
      sd_nil)
    (sd_cons (sd_set (i := 1) sc_is_sign.nd rfl (by first | exact .inl rfl | exact .inr rfl) (e_callB cd_ord (by rfl) B.b_ord PyProof.Rows.boot_ord (ewa_cons (e_nameW (pv 0)) ewa_nil)))
    (sd_one (sd_ret (e_and (e_chain od_le od_le ((e_gint (by rfl) B.c_BLANK)).w (e_nameW (pv 1)) ((e_gint (by rfl) B.c_TILDE)).w) (e_one (e_cmp (od_ne hr.units) (e_nameW (pv 1)) ((e_gint (by rfl) B.c_PERCENT)).w (nomark _))))))))

/-! is_name -/
abbrev s_is_name : Stmt := topS 8
theorem sc_is_name : FnScope ["thing"] ["thing"] (defScope s_is_name) := ⟨rfl, rfl, rfl, by decide +kernel, rfl, by decide +kernel, by decide +kernel⟩
noncomputable def g_is_name : Nv → Option SR := (seqS (ifS (orT (notT (fun ρ => ((fun ρ => ((nmW 0) ρ).map fun d => .bool (isiB "str" d)) ρ).bind truD)) (orT (opT ltD (callD lenD (cons2 (nmW 0) (fun _ => some []))) (fun _ => some (.int 1))) (opT gtD (callD lenD (cons2 (nmW 0) (fun _ => some []))) (fun _ => some (.int 12)))))
      (fun ρ => ((fun _ => some (.bool false)) ρ).map fun d => .rt d false ρ)
      (fun ρ => some (.nx ρ)))
    (fun ρ => ((fun ρ => ((fun ρ => ((nmW 0) ρ).bind asSg) ρ).bind fun ds => (allD (ch3 leD leD (fun _ => some (.str "a")) (nmW 0) (fun _ => some (.str "z"))) ds).map .bool) ρ).map fun d => .rt d false ρ))
noncomputable def sem_is_name : List D → Option Ou := semR 1 0 g_is_name
theorem co_is_name : Comes [.ro] 0 g_is_name sem_is_name := comes_ro (by decide)
theorem ok_is_name {f c T : Addr} {fd : FuncData} (F : FunC K "is_name" "is_name" s_is_name f fd c) (TB : GxR.TabB base mg c T) (hP : T ∈ cs) (B : Blts mg) : FnOk P w K mg base CX0 2 f fd ["thing"] (spD K cs [.ro] sem_is_name) := by
  refine fn_dsC F sc_is_name rfl fun A outer s H E hr => ⟨g_is_name, ?_, co_is_name⟩
  exact (sd_cons (sd_if (et_pw (ew_or (et_not (et_val ((e_isi isi_str (by rfl) B.b_isinstance (e_nameW (pv 0)) (by rfl) B.b_str PyProof.Rows.boot_str)).w)) (ew_or (et_cmp od_lt ((e_callB cd_len (by rfl) B.b_len PySem.boot_len (ewa_cons (e_nameW (pv 0)) ewa_nil))).w (e_int).w (nomark _)) (ew_or1 (et_cmp od_gt ((e_callB cd_len (by rfl) B.b_len PySem.boot_len (ewa_cons (e_nameW (pv 0)) ewa_nil))).w ((e_gint (by rfl) B.c_MOST_LETTERS)).w (nomark _))))))
      (sd_one (sd_ret e_bool))
      sd_nil)
    (sd_one (sd_ret (e_allG (by exact hr) rfl (by rfl) B.b_all (by exact TB) rfl hP ⟨rfl, rfl, by decide +kernel, by decide +kernel, by decide +kernel, by decide +kernel⟩ (i_str (e_nameW (pv 0))) (fun A' s0 H0 C code ex pn hr => (e_chain od_le od_le (e_str).w (e_nameW (pv 0)) (e_str).w))))))

/-! is_rule -/
abbrev s_is_rule : Stmt := topS 9
theorem sc_is_rule : FnScope ["thing"] ["thing"] (defScope s_is_rule) := ⟨rfl, rfl, rfl, by decide +kernel, rfl, by decide +kernel, by decide +kernel⟩
noncomputable def g_is_rule : Nv → Option SR := (seqS (ifS (notT (fun ρ => ((fun ρ => ((nmW 0) ρ).map fun d => .bool (isiB "tuple" d)) ρ).bind truD))
      (fun ρ => ((fun _ => some (.bool false)) ρ).map fun d => .rt d false ρ)
      (fun ρ => some (.nx ρ)))
    (seqS (ifS (opT eqD (callD lenD (cons2 (nmW 0) (fun _ => some []))) (fun _ => some (.int 2)))
      (fun ρ => ((andV (callS 1 sem_is_name (cons2 (op2 ixD (nmW 0) (fun _ => some (.int 0))) (fun _ => some []))) (callS 1 sem_is_sign (cons2 (op2 ixD (nmW 0) (fun _ => some (.int 1))) (fun _ => some [])))) ρ).map fun d => .rt d false ρ)
      (fun ρ => some (.nx ρ)))
    (fun ρ => ((andV (op2 eqD (callD lenD (cons2 (nmW 0) (fun _ => some []))) (fun _ => some (.int 3))) (fun ρ => ((fun ρ => ((nmP 0) ρ).bind asTu) ρ).bind fun ds => (allD (callS 1 sem_is_name (cons2 (nmP 0) (fun _ => some []))) ds).map .bool)) ρ).map fun d => .rt d false ρ)))
noncomputable def sem_is_rule : List D → Option Ou := semR 1 0 g_is_rule
theorem co_is_rule : Comes [.ro] 0 g_is_rule sem_is_rule := comes_ro (by decide)
theorem ok_is_rule {f c T : Addr} {fd : FuncData} (F : FunC K "is_rule" "is_rule" s_is_rule f fd c) (TB : GxR.TabB base mg c T) (hP : T ∈ cs) (B : Blts mg) (C_is_name : Cal P w K mg base cs "is_name" 2 ["thing"] [.ro] sem_is_name) (C_is_sign : Cal P w K mg base cs "is_sign" 1 ["thing"] [.ro] sem_is_sign) : FnOk P w K mg base CX0 4 f fd ["thing"] (spD K cs [.ro] sem_is_rule) := by
  refine fn_dsC F sc_is_rule rfl fun A outer s H E hr => ⟨g_is_rule, ?_, co_is_rule⟩
  exact (sd_cons (sd_if (et_not (et_val ((e_isi isi_tuple (by rfl) B.b_isinstance (e_nameW (pv 0)) (by rfl) B.b_tuple PyProof.Rows.boot_tuple)).w))
      (sd_one (sd_ret e_bool))
      sd_nil)
    (sd_cons (sd_if (et_cmp (od_eq hr.units) ((e_callB cd_len (by rfl) B.b_len PySem.boot_len (ewa_cons (e_nameW (pv 0)) ewa_nil))).w (e_int).w (nomark _))
      (sd_one (sd_ret (e_and (c_call C_is_name (by exact ⟨rfl, rfl, rfl, rfl, rfl⟩) (by decide) (by exact hr) (by decide) (by rfl) (ep_cons (e_ix (e_nameW (pv 0)) (e_int).w (fun _ _ => rfl)) ep_nil)) (e_one (c_call C_is_sign (by exact ⟨rfl, rfl, rfl, rfl, rfl⟩) (by decide) (by exact hr) (by decide) (by rfl) (ep_cons (e_ix (e_nameW (pv 0)) (e_int).w (fun _ _ => rfl)) ep_nil))))))
      sd_nil)
    (sd_one (sd_ret (e_and (e_cmp (od_eq hr.units) ((e_callB cd_len (by rfl) B.b_len PySem.boot_len (ewa_cons (e_nameW (pv 0)) ewa_nil))).w (e_int).w (nomark _)) (e_one (e_allG (by exact hr) rfl (by rfl) B.b_all (by exact TB) rfl hP ⟨rfl, rfl, by decide +kernel, by decide +kernel, by decide +kernel, by decide +kernel⟩ (i_tup (e_nameP (pv 0))) (fun A' s0 H0 C code ex pn hr => (c_call C_is_name (by exact ⟨rfl, rfl, rfl, rfl, rfl⟩) (by decide) (by exact hr) (by decide) (by rfl) (ep_cons (e_nameP (pv 0)) ep_nil))))))))))

/-! _law_at -/
abbrev s__law_at : Stmt := topS 11
theorem sc__law_at : FnScope ["_law_script", "_law_place"] ["_law_script", "_law_place"] (defScope s__law_at) := ⟨rfl, rfl, rfl, by decide +kernel, rfl, by decide +kernel, by decide +kernel⟩
noncomputable def g__law_at : Nv → Option SR := (seqS (ifS (opT geD (nmW 1) (callD lenD (cons2 (nmW 0) (fun _ => some []))))
      (fun ρ => ((fun _ => some (.int 0)) ρ).map fun d => .rt d false ρ)
      (fun ρ => some (.nx ρ)))
    (fun ρ => ((op2 ixD (nmW 0) (nmW 1)) ρ).map fun d => .rt d false ρ))
noncomputable def sem__law_at : List D → Option Ou := semR 2 0 g__law_at
theorem co__law_at : Comes [.ro, .ro] 0 g__law_at sem__law_at := comes_ro (by decide)
theorem ok__law_at {f : Addr} {fd : FuncData} (F : Fun K "_law_at" "_law_at" s__law_at f fd) (B : Blts mg) : FnOk P w K mg base CX0 1 f fd ["_law_script", "_law_place"] (spD K cs [.ro, .ro] sem__law_at) := by
  refine fn_ds F sc__law_at rfl fun cdv A outer s H E hr => ⟨g__law_at, ?_, co__law_at⟩
  exact (sd_cons (sd_if (et_cmp od_ge (e_nameW (pv 1)) ((e_callB cd_len (by rfl) B.b_len PySem.boot_len (ewa_cons (e_nameW (pv 0)) ewa_nil))).w (nomark _))
      (sd_one (sd_ret e_int))
      sd_nil)
    (sd_one (sd_ret (e_ix (e_nameW (pv 0)) (e_nameW (pv 1)) (fun _ _ => rfl)))))

/-! _law_signs -/
abbrev s__law_signs : Stmt := topS 12
theorem sc__law_signs : FnScope ["_law_great"] [] (defScope s__law_signs) := ⟨rfl, rfl, rfl, by decide +kernel, rfl, by decide +kernel, by decide +kernel⟩
noncomputable def g__law_signs : Nv → Option SR := (seqS (setS 0 (fun _ => some (.str "ABCDEFGHIJKLMNOPQRSTUVWXYZ")))
    (fun ρ => ((op2 addD (op2 addD (op2 addD (op2 addD (fun _ => some (.str " !\"#$&'()*+,-./0123456789:;<=>?@")) (nmW 0)) (fun _ => some (.str "[\\]^_`"))) (fun ρ => ((nmW 0) ρ).bind lowerD)) (fun _ => some (.str "{|}~"))) ρ).map fun d => .rt d false ρ))
noncomputable def sem__law_signs : List D → Option Ou := semR 0 1 g__law_signs
theorem co__law_signs : Comes [] 1 g__law_signs sem__law_signs := comes_ro (by decide)
theorem ok__law_signs {f : Addr} {fd : FuncData} (F : Fun K "_law_signs" "_law_signs" s__law_signs f fd) (B : Blts mg) : FnOk P w K mg base CX0 1 f fd [] (spD K cs [] sem__law_signs) := by
  refine fn_ds F sc__law_signs rfl fun cdv A outer s H E hr => ⟨g__law_signs, ?_, co__law_signs⟩
  exact (sd_cons (sd_set (i := 0) sc__law_signs.nd rfl (by first | exact .inl rfl | exact .inr rfl) e_str)
    (sd_one (sd_ret (e_op od_add ((e_op od_add ((e_op od_add ((e_op od_add (e_str).w (e_nameW (pv 0)))).w (e_str).w)).w ((e_lower (e_nameW (pv 0)))).w)).w (e_str).w))))

/-! _law_name_due -/
abbrev s__law_name_due : Stmt := topS 13
theorem sc__law_name_due : FnScope ["_law_thing_here", "_law_sign"] ["_law_thing_here"] (defScope s__law_name_due) := ⟨rfl, rfl, rfl, by decide +kernel, rfl, by decide +kernel, by decide +kernel⟩
noncomputable def g__law_name_due : Nv → Option SR := (seqS (ifS (orT (notT (fun ρ => ((fun ρ => ((nmW 0) ρ).map fun d => .bool (isiB "str" d)) ρ).bind truD)) (orT (opT eqD (callD lenD (cons2 (nmW 0) (fun _ => some []))) (fun _ => some (.int 0))) (opT gtD (callD lenD (cons2 (nmW 0) (fun _ => some []))) (fun _ => some (.int 12)))))
      (fun ρ => ((fun _ => some (.bool false)) ρ).map fun d => .rt d false ρ)
      (fun ρ => some (.nx ρ)))
    (fun ρ => ((op2 eqD (lcV 1 (fun ρ => ((nmW 0) ρ).bind asSg) (opT ninD' (nmW 1) (fun _ => some (.str "abcdefghijklmnopqrstuvwxyz"))) (nmP 1)) (mkL (fun _ => some []))) ρ).map fun d => .rt d false ρ))
noncomputable def sem__law_name_due : List D → Option Ou := semR 1 1 g__law_name_due
theorem co__law_name_due : Comes [.ro] 1 g__law_name_due sem__law_name_due := comes_ro (by decide)
theorem ok__law_name_due {f : Addr} {fd : FuncData} (F : Fun K "_law_name_due" "_law_name_due" s__law_name_due f fd) (B : Blts mg) : FnOk P w K mg base CX0 1 f fd ["_law_thing_here"] (spD K cs [.ro] sem__law_name_due) := by
  refine fn_ds F sc__law_name_due rfl fun cdv A outer s H E hr => ⟨g__law_name_due, ?_, co__law_name_due⟩
  exact (sd_cons (sd_if (et_pw (ew_or (et_not (et_val ((e_isi isi_str (by rfl) B.b_isinstance (e_nameW (pv 0)) (by rfl) B.b_str PyProof.Rows.boot_str)).w)) (ew_or (et_cmp (od_eq hr.units) ((e_callB cd_len (by rfl) B.b_len PySem.boot_len (ewa_cons (e_nameW (pv 0)) ewa_nil))).w (e_int).w (nomark _)) (ew_or1 (et_cmp od_gt ((e_callB cd_len (by rfl) B.b_len PySem.boot_len (ewa_cons (e_nameW (pv 0)) ewa_nil))).w (e_int).w (nomark _))))))
      (sd_one (sd_ret e_bool))
      sd_nil)
    (sd_one (sd_ret (e_cmp (od_eq hr.units) ((e_lc rfl sc__law_name_due.nd (i := 1) rfl ((i_str (e_nameW (pv 0)))).comp (blkOk_by (by show blkC ["_law_thing_here", "_law_sign"] (defScope s__law_name_due) _ _ = true; decide +kernel)) (fun _ _ _ _ _ => by rfl) (fun _ _ _ _ _ => (ets_one (et_cmp (od_nin (hu65 hr)) (e_nameW (pv 1)) (e_str).w (by rfl)))) (fun _ _ _ _ _ => (e_nameP (pv 1))))).w ((e_lst ep_nil)).w (nomark _)))))

/-! _law_sign_due -/
abbrev s__law_sign_due : Stmt := topS 14
theorem sc__law_sign_due : FnScope ["_law_thing_here"] ["_law_thing_here"] (defScope s__law_sign_due) := ⟨rfl, rfl, rfl, by decide +kernel, rfl, by decide +kernel, by decide +kernel⟩
noncomputable def g__law_sign_due : Nv → Option SR := (fun ρ => ((andV (fun ρ => ((nmW 0) ρ).map fun d => .bool (isiB "str" d)) (andV (op2 eqD (callD lenD (cons2 (nmW 0) (fun _ => some []))) (fun _ => some (.int 1))) (op2 inD' (nmW 0) (call0 sem__law_signs)))) ρ).map fun d => .rt d false ρ)
noncomputable def sem__law_sign_due : List D → Option Ou := semR 1 0 g__law_sign_due
theorem co__law_sign_due : Comes [.ro] 0 g__law_sign_due sem__law_sign_due := comes_ro (by decide)
theorem ok__law_sign_due {f : Addr} {fd : FuncData} (F : Fun K "_law_sign_due" "_law_sign_due" s__law_sign_due f fd) (B : Blts mg) (C__law_signs : Cal P w K mg base cs "_law_signs" 1 [] [] sem__law_signs) : FnOk P w K mg base CX0 2 f fd ["_law_thing_here"] (spD K cs [.ro] sem__law_sign_due) := by
  refine fn_ds F sc__law_sign_due rfl fun cdv A outer s H E hr => ⟨g__law_sign_due, ?_, co__law_sign_due⟩
  exact (sd_one (sd_ret (e_and (e_isi isi_str (by rfl) B.b_isinstance (e_nameW (pv 0)) (by rfl) B.b_str PyProof.Rows.boot_str) (e_and (e_cmp (od_eq hr.units) ((e_callB cd_len (by rfl) B.b_len PySem.boot_len (ewa_cons (e_nameW (pv 0)) ewa_nil))).w (e_int).w (nomark _)) (e_one (e_cmp (od_in (hu65 hr)) (e_nameW (pv 0)) ((c_call0 C__law_signs (by exact ⟨rfl, rfl, rfl, rfl, rfl⟩) (by exact hr) (by decide) (by rfl))).w (by rfl)))))))

/-! _law_thing -/
abbrev s__law_thing : Stmt := topS 15
theorem sc__law_thing : FnScope ["_law_script", "_law_place", "_law_cell", "_law_step", "_law_text", "_law_k", "_law_at_here"] ["_law_script", "_law_place"] (defScope s__law_thing) := ⟨rfl, rfl, rfl, by decide +kernel, rfl, by decide +kernel, by decide +kernel⟩
noncomputable def g__law_thing : Nv → Option SR := (seqS (setS 2 (callS 2 sem__law_at (cons2 (nmP 0) (cons2 (nmP 1) (fun _ => some [])))))
    (seqS (ifS (opT eqD (op2 modD (nmW 2) (fun _ => some (.int 5))) (fun _ => some (.int 4)))
      (fun ρ => ((op2 ixD (mkL (cons2 (fun _ => some .none) (cons2 (fun _ => some (.int 5)) (cons2 (fun _ => some (.bool true)) (cons2 (mkT (cons2 (fun _ => some (.str "a")) (fun _ => some []))) (cons2 (mkL (cons2 (fun _ => some (.str "a")) (fun _ => some []))) (cons2 (fun _ => some (.str "ab c")) (cons2 (fun _ => some (.str "")) (cons2 (fun _ => some (.str "a\n")) (fun _ => some [])))))))))) (op2 modD (op2 fdivD (nmW 2) (fun _ => some (.int 5))) (fun _ => some (.int 8)))) ρ).map fun d => .rt d false ρ)
      (fun ρ => some (.nx ρ)))
    (seqS (ifS (opT eqD (op2 modD (nmW 2) (fun _ => some (.int 5))) (fun _ => some (.int 3)))
      (fun ρ => ((op2 ixD (call0 sem__law_signs) (op2 modD (op2 fdivD (nmW 2) (fun _ => some (.int 5))) (fun _ => some (.int 94)))) ρ).map fun d => .rt d false ρ)
      (fun ρ => some (.nx ρ)))
    (seqS (setS 3 (op2 addD (fun _ => some (.int 1)) (op2 modD (op2 fdivD (nmW 2) (fun _ => some (.int 5))) (fun _ => some (.int 25)))))
    (seqS (setS 4 (op2 joinD (fun _ => some (.str "")) (lcV 5 (fun ρ => ((cons2 (op2 modD (op2 fdivD (nmW 2) (fun _ => some (.int 130))) (fun _ => some (.int 15))) (fun _ => some [])) ρ).bind rng1) (fun _ => some true) (op2 ixD (fun _ => some (.str "abcdefghijklmnopqrstuvwxyz")) (op2 modD (op2 addD (op2 fdivD (nmW 2) (fun _ => some (.int 5))) (op2 mulD (nmW 5) (nmW 3))) (fun _ => some (.int 26)))))))
    (seqS (setS 6 (op2 modD (op2 fdivD (nmW 2) (fun _ => some (.int 1950))) (fun _ => some (.int 15))))
    (seqS (ifS (andT (opT eqD (op2 modD (nmW 2) (fun _ => some (.int 5))) (fun _ => some (.int 2))) (opT ltD (nmW 6) (callD lenD (cons2 (nmW 4) (fun _ => some [])))))
      (fun ρ => ((op2 addD (op2 addD (slS (nmW 4) (fun _ => some none) (fun ρ => ((nmP 6) ρ).bind fun x => (asI x).map some)) (op2 ixD (call0 sem__law_signs) (op2 modD (op2 fdivD (nmW 2) (fun _ => some (.int 7))) (fun _ => some (.int 94))))) (slS (nmW 4) (fun ρ => ((op2 addD (nmW 6) (fun _ => some (.int 1))) ρ).bind fun x => (asI x).map some) (fun _ => some none))) ρ).map fun d => .rt d false ρ)
      (fun ρ => some (.nx ρ)))
    (fun ρ => ((nmP 4) ρ).map fun d => .rt d false ρ))))))))
noncomputable def sem__law_thing : List D → Option Ou := semR 2 5 g__law_thing
theorem co__law_thing : Comes [.ro, .ro] 5 g__law_thing sem__law_thing := comes_ro (by decide)
theorem ok__law_thing {f : Addr} {fd : FuncData} (F : Fun K "_law_thing" "_law_thing" s__law_thing f fd) (B : Blts mg) (C__law_signs : Cal P w K mg base cs "_law_signs" 1 [] [] sem__law_signs) (C__law_at : Cal P w K mg base cs "_law_at" 1 ["_law_script", "_law_place"] [.ro, .ro] sem__law_at) : FnOk P w K mg base CX0 2 f fd ["_law_script", "_law_place"] (spD K cs [.ro, .ro] sem__law_thing) := by
  refine fn_ds F sc__law_thing rfl fun cdv A outer s H E hr => ⟨g__law_thing, ?_, co__law_thing⟩
  exact (sd_cons (sd_set (i := 2) sc__law_thing.nd rfl (by first | exact .inl rfl | exact .inr rfl) (c_call C__law_at (by exact ⟨rfl, rfl, rfl, rfl, rfl⟩) (by decide) (by exact hr) (by decide) (by rfl) (ep_cons (e_nameP (pv 0)) (ep_cons (e_nameP (pv 1)) ep_nil))))
    (sd_cons (sd_if (et_cmp (od_eq hr.units) ((e_op od_mod (e_nameW (pv 2)) (e_int).w)).w (e_int).w (nomark _))
      (sd_one (sd_ret (e_ix ((e_lst (ep_cons e_none (ep_cons e_int (ep_cons e_bool (ep_cons (e_tup (ep_cons e_str ep_nil)) (ep_cons ((e_lst (ep_cons e_str ep_nil))).p (ep_cons e_str (ep_cons e_str (ep_cons e_str ep_nil)))))))))).w ((e_op od_mod ((e_op od_fdiv (e_nameW (pv 2)) (e_int).w)).w (e_int).w)).w (fun _ _ => rfl))))
      sd_nil)
    (sd_cons (sd_if (et_cmp (od_eq hr.units) ((e_op od_mod (e_nameW (pv 2)) (e_int).w)).w (e_int).w (nomark _))
      (sd_one (sd_ret (e_ix ((c_call0 C__law_signs (by exact ⟨rfl, rfl, rfl, rfl, rfl⟩) (by exact hr) (by decide) (by rfl))).w ((e_op od_mod ((e_op od_fdiv (e_nameW (pv 2)) (e_int).w)).w (e_int).w)).w (fun _ _ => rfl))))
      sd_nil)
    (sd_cons (sd_set (i := 3) sc__law_thing.nd rfl (by first | exact .inl rfl | exact .inr rfl) (e_op od_add (e_int).w ((e_op od_mod ((e_op od_fdiv (e_nameW (pv 2)) (e_int).w)).w (e_int).w)).w))
    (sd_cons (sd_set (i := 4) sc__law_thing.nd rfl (by first | exact .inl rfl | exact .inr rfl) (e_join (e_str).w ((e_lc rfl sc__law_thing.nd (i := 5) rfl ((i_rng1 (by rfl) B.b_range (ep_cons (e_op od_mod ((e_op od_fdiv (e_nameW (pv 2)) (e_int).w)).w (e_int).w) ep_nil))).comp (blkOk_by (by show blkC ["_law_script", "_law_place", "_law_cell", "_law_step", "_law_text", "_law_k", "_law_at_here"] (defScope s__law_thing) _ _ = true; decide +kernel)) (fun _ _ _ _ _ => by rfl) (fun _ _ _ _ _ => ets_nil) (fun _ _ _ _ _ => (e_ix (e_str).w ((e_op od_mod ((e_op od_add ((e_op od_fdiv (e_nameW (pv 2)) (e_int).w)).w ((e_op od_mul (e_nameW (pv 5)) (e_nameW (pv 3)))).w)).w (e_int).w)).w (fun _ _ => rfl))))).w))
    (sd_cons (sd_set (i := 6) sc__law_thing.nd rfl (by first | exact .inl rfl | exact .inr rfl) (e_op od_mod ((e_op od_fdiv (e_nameW (pv 2)) (e_int).w)).w (e_int).w))
    (sd_cons (sd_if (et_pw (ew_and (et_cmp (od_eq hr.units) ((e_op od_mod (e_nameW (pv 2)) (e_int).w)).w (e_int).w (nomark _)) (ew_and1 (et_cmp od_lt (e_nameW (pv 6)) ((e_callB cd_len (by rfl) B.b_len PySem.boot_len (ewa_cons (e_nameW (pv 4)) ewa_nil))).w (nomark _)))))
      (sd_one (sd_ret (e_op od_add ((e_op od_add ((e_slS (e_nameW (pv 4)) eo_none (eo_some (e_nameP (pv 6))))).w ((e_ix ((c_call0 C__law_signs (by exact ⟨rfl, rfl, rfl, rfl, rfl⟩) (by exact hr) (by decide) (by rfl))).w ((e_op od_mod ((e_op od_fdiv (e_nameW (pv 2)) (e_int).w)).w (e_int).w)).w (fun _ _ => rfl))).w)).w ((e_slS (e_nameW (pv 4)) (eo_some (e_op od_add (e_nameW (pv 6)) (e_int).w)) eo_none)).w)))
      sd_nil)
    (sd_one (sd_ret (e_nameP (pv 4)))))))))))

/-! _law_rule_due -/
abbrev s__law_rule_due : Stmt := topS 16
theorem sc__law_rule_due : FnScope ["_law_thing_here"] ["_law_thing_here"] (defScope s__law_rule_due) := ⟨rfl, rfl, rfl, by decide +kernel, rfl, by decide +kernel, by decide +kernel⟩
noncomputable def g__law_rule_due : Nv → Option SR := (seqS (ifS (orT (notT (fun ρ => ((fun ρ => ((nmW 0) ρ).map fun d => .bool (isiB "tuple" d)) ρ).bind truD)) (orT (opT ltD (callD lenD (cons2 (nmW 0) (fun _ => some []))) (fun _ => some (.int 2))) (orT (opT gtD (callD lenD (cons2 (nmW 0) (fun _ => some []))) (fun _ => some (.int 3))) (notT (fun ρ => ((callS 1 sem__law_name_due (cons2 (op2 ixD (nmW 0) (fun _ => some (.int 0))) (fun _ => some []))) ρ).bind truD)))))
      (fun ρ => ((fun _ => some (.bool false)) ρ).map fun d => .rt d false ρ)
      (fun ρ => some (.nx ρ)))
    (seqS (ifS (opT eqD (callD lenD (cons2 (nmW 0) (fun _ => some []))) (fun _ => some (.int 2)))
      (fun ρ => ((callS 1 sem__law_sign_due (cons2 (op2 ixD (nmW 0) (fun _ => some (.int 1))) (fun _ => some []))) ρ).map fun d => .rt d false ρ)
      (fun ρ => some (.nx ρ)))
    (fun ρ => ((andV (callS 1 sem__law_name_due (cons2 (op2 ixD (nmW 0) (fun _ => some (.int 1))) (fun _ => some []))) (callS 1 sem__law_name_due (cons2 (op2 ixD (nmW 0) (fun _ => some (.int 2))) (fun _ => some [])))) ρ).map fun d => .rt d false ρ)))
noncomputable def sem__law_rule_due : List D → Option Ou := semR 1 0 g__law_rule_due
theorem co__law_rule_due : Comes [.ro] 0 g__law_rule_due sem__law_rule_due := comes_ro (by decide)
theorem ok__law_rule_due {f : Addr} {fd : FuncData} (F : Fun K "_law_rule_due" "_law_rule_due" s__law_rule_due f fd) (B : Blts mg) (C__law_name_due : Cal P w K mg base cs "_law_name_due" 1 ["_law_thing_here"] [.ro] sem__law_name_due) (C__law_sign_due : Cal P w K mg base cs "_law_sign_due" 2 ["_law_thing_here"] [.ro] sem__law_sign_due) : FnOk P w K mg base CX0 3 f fd ["_law_thing_here"] (spD K cs [.ro] sem__law_rule_due) := by
  refine fn_ds F sc__law_rule_due rfl fun cdv A outer s H E hr => ⟨g__law_rule_due, ?_, co__law_rule_due⟩
  exact (sd_cons (sd_if (et_pw (ew_or (et_not (et_val ((e_isi isi_tuple (by rfl) B.b_isinstance (e_nameW (pv 0)) (by rfl) B.b_tuple PyProof.Rows.boot_tuple)).w)) (ew_or (et_cmp od_lt ((e_callB cd_len (by rfl) B.b_len PySem.boot_len (ewa_cons (e_nameW (pv 0)) ewa_nil))).w (e_int).w (nomark _)) (ew_or (et_cmp od_gt ((e_callB cd_len (by rfl) B.b_len PySem.boot_len (ewa_cons (e_nameW (pv 0)) ewa_nil))).w (e_int).w (nomark _)) (ew_or1 (et_not (et_val ((c_call C__law_name_due (by exact ⟨rfl, rfl, rfl, rfl, rfl⟩) (by decide) (by exact hr) (by decide) (by rfl) (ep_cons (e_ix (e_nameW (pv 0)) (e_int).w (fun _ _ => rfl)) ep_nil))).w)))))))
      (sd_one (sd_ret e_bool))
      sd_nil)
    (sd_cons (sd_if (et_cmp (od_eq hr.units) ((e_callB cd_len (by rfl) B.b_len PySem.boot_len (ewa_cons (e_nameW (pv 0)) ewa_nil))).w (e_int).w (nomark _))
      (sd_one (sd_ret (c_call C__law_sign_due (by exact ⟨rfl, rfl, rfl, rfl, rfl⟩) (by decide) (by exact hr) (by decide) (by rfl) (ep_cons (e_ix (e_nameW (pv 0)) (e_int).w (fun _ _ => rfl)) ep_nil))))
      sd_nil)
    (sd_one (sd_ret (e_and (c_call C__law_name_due (by exact ⟨rfl, rfl, rfl, rfl, rfl⟩) (by decide) (by exact hr) (by decide) (by rfl) (ep_cons (e_ix (e_nameW (pv 0)) (e_int).w (fun _ _ => rfl)) ep_nil)) (e_one (c_call C__law_name_due (by exact ⟨rfl, rfl, rfl, rfl, rfl⟩) (by decide) (by exact hr) (by decide) (by rfl) (ep_cons (e_ix (e_nameW (pv 0)) (e_int).w (fun _ _ => rfl)) ep_nil))))))))

/-! _law_same -/
abbrev s__law_same : Stmt := topS 17
theorem sc__law_same : FnScope ["_law_found", "_law_due"] ["_law_found", "_law_due"] (defScope s__law_same) := ⟨rfl, rfl, rfl, by decide +kernel, rfl, by decide +kernel, by decide +kernel⟩
noncomputable def g__law_same : Nv → Option SR := (fun ρ => ((andV (fun ρ => ((nmW 0) ρ).map fun d => .bool (isiB "bool" d)) (op2 eqD (nmW 0) (nmW 1))) ρ).map fun d => .rt d false ρ)
noncomputable def sem__law_same : List D → Option Ou := semR 2 0 g__law_same
theorem co__law_same : Comes [.ro, .ro] 0 g__law_same sem__law_same := comes_ro (by decide)
theorem ok__law_same {f : Addr} {fd : FuncData} (F : Fun K "_law_same" "_law_same" s__law_same f fd) (B : Blts mg) : FnOk P w K mg base CX0 1 f fd ["_law_found", "_law_due"] (spD K cs [.ro, .ro] sem__law_same) := by
  refine fn_ds F sc__law_same rfl fun cdv A outer s H E hr => ⟨g__law_same, ?_, co__law_same⟩
  exact (sd_one (sd_ret (e_and (e_isi isi_bool (by rfl) B.b_isinstance (e_nameW (pv 0)) (by rfl) B.b_bool PyProof.Rows.boot_bool) (e_one (e_cmp (od_eq hr.units) (e_nameW (pv 0)) (e_nameW (pv 1)) (nomark _))))))

/-! law -/
abbrev s_law : Stmt := topS 18
theorem sc_law : FnScope ["_law_script", "_law_parts", "_law_k", "_law_thing_here", "_law_good", "_law_at_here", "_law_some", "_law_rule"] ["_law_script"] (defScope s_law) := ⟨rfl, rfl, rfl, by decide +kernel, rfl, by decide +kernel, by decide +kernel⟩
noncomputable def g_law : Nv → Option SR := (seqS (ifS (orT (opT neD (fun _ => some (.int 40)) (fun _ => some (.int 40))) (orT (opT neD (fun _ => some (.int 40)) (fun _ => some (.int 40))) (notT (fun ρ => ((callS 2 sem__law_same (cons2 (callS 1 sem_is_sign (cons2 (op2 ixD (call0 sem__law_signs) (op2 modD (callS 2 sem__law_at (cons2 (nmP 0) (cons2 (fun _ => some (.int 0)) (fun _ => some [])))) (fun _ => some (.int 94)))) (fun _ => some []))) (cons2 (fun _ => some (.bool true)) (fun _ => some [])))) ρ).bind truD))))
      (fun ρ => ((fun _ => some (.bool false)) ρ).map fun d => .rt d false ρ)
      (fun ρ => some (.nx ρ)))
    (seqS (setS 1 (lcV 2 (fun ρ => ((cons2 (op2 addD (fun _ => some (.int 1)) (op2 modD (callS 2 sem__law_at (cons2 (nmP 0) (cons2 (fun _ => some (.int 1)) (fun _ => some [])))) (fun _ => some (.int 4)))) (fun _ => some [])) ρ).bind rng1) (fun _ => some true) (callS 2 sem__law_thing (cons2 (nmP 0) (cons2 (op2 addD (fun _ => some (.int 2)) (nmW 2)) (fun _ => some []))))))
    (seqS (fun ρ => ((fun ρ => ((nmP 1) ρ).bind asL) ρ).bind fun ds => forS (toNm 3) (ifS (orT (notT (fun ρ => ((callS 2 sem__law_same (cons2 (callS 1 sem_is_sign (cons2 (nmP 3) (fun _ => some []))) (cons2 (callS 1 sem__law_sign_due (cons2 (nmP 3) (fun _ => some []))) (fun _ => some [])))) ρ).bind truD)) (notT (fun ρ => ((callS 2 sem__law_same (cons2 (callS 1 sem_is_name (cons2 (nmP 3) (fun _ => some []))) (cons2 (callS 1 sem__law_name_due (cons2 (nmP 3) (fun _ => some []))) (fun _ => some [])))) ρ).bind truD)))
      (fun ρ => ((fun _ => some (.bool false)) ρ).map fun d => .rt d false ρ)
      (fun ρ => some (.nx ρ))) ds ρ)
    (seqS (setS 4 (mkL (cons2 (fun _ => some (.str "top")) (cons2 (op2 ixD (call0 sem__law_signs) (op2 modD (op2 fdivD (callS 2 sem__law_at (cons2 (nmP 0) (cons2 (fun _ => some (.int 0)) (fun _ => some [])))) (fun _ => some (.int 94))) (fun _ => some (.int 94)))) (fun _ => some [])))))
    (seqS (ifS (opT eqD (op2 modD (op2 fdivD (callS 2 sem__law_at (cons2 (nmP 0) (cons2 (fun _ => some (.int 1)) (fun _ => some [])))) (fun _ => some (.int 4))) (fun _ => some (.int 2))) (fun _ => some (.int 1)))
      (setS 4 (mkL (cons2 (fun _ => some (.str "top")) (cons2 (fun _ => some (.str "a")) (cons2 (fun _ => some (.str "abcdefghijkl")) (fun _ => some []))))))
      (fun ρ => some (.nx ρ)))
    (seqS (setS 5 (op2 modD (op2 fdivD (callS 2 sem__law_at (cons2 (nmP 0) (cons2 (fun _ => some (.int 1)) (fun _ => some [])))) (fun _ => some (.int 8))) (callD lenD (cons2 (nmW 4) (fun _ => some [])))))
    (seqS (setS 6 (mkL (cons2 (callD tupD (cons2 (op2 addD (nmW 4) (mkL (cons2 (fun _ => some (.str "a")) (fun _ => some [])))) (fun _ => some []))) (cons2 (callD tupD (cons2 (slL (nmW 4) (fun _ => some none) (fun ρ => ((fun _ => some (.int 1)) ρ).bind fun x => (asI x).map some)) (fun _ => some []))) (cons2 (callD tupD (cons2 (op2 addD (op2 addD (slL (nmW 4) (fun _ => some none) (fun ρ => ((nmP 5) ρ).bind fun x => (asI x).map some)) (slL (nmW 1) (fun _ => some none) (fun ρ => ((fun _ => some (.int 1)) ρ).bind fun x => (asI x).map some))) (slL (nmW 4) (fun ρ => ((op2 addD (nmW 5) (fun _ => some (.int 1))) ρ).bind fun x => (asI x).map some) (fun _ => some none))) (fun _ => some []))) (fun _ => some []))))))
    (seqS (fun ρ => ((fun ρ => ((op2 addD (nmW 6) (mkL (cons2 (callD tupD (cons2 (nmW 1) (fun _ => some []))) (cons2 (callD tupD (cons2 (nmW 4) (fun _ => some []))) (cons2 (callD listD (cons2 (nmW 4) (fun _ => some []))) (cons2 (op2 ixD (nmW 1) (fun _ => some (.int 0))) (fun _ => some []))))))) ρ).bind asL) ρ).bind fun ds => forS (toNm 7) (ifS (notT (fun ρ => ((callS 2 sem__law_same (cons2 (callS 1 sem_is_rule (cons2 (nmP 7) (fun _ => some []))) (cons2 (callS 1 sem__law_rule_due (cons2 (nmP 7) (fun _ => some []))) (fun _ => some [])))) ρ).bind truD))
      (fun ρ => ((fun _ => some (.bool false)) ρ).map fun d => .rt d false ρ)
      (fun ρ => some (.nx ρ))) ds ρ)
    (fun ρ => ((fun _ => some (.bool true)) ρ).map fun d => .rt d false ρ)))))))))
noncomputable def sem_law : List D → Option Ou := semR 1 7 g_law
theorem co_law : Comes [.ro] 7 g_law sem_law := comes_ro (by decide)
theorem ok_law {f : Addr} {fd : FuncData} (F : Fun K "law" "law" s_law f fd) (B : Blts mg) (C__law_same : Cal P w K mg base cs "_law_same" 1 ["_law_found", "_law_due"] [.ro, .ro] sem__law_same) (C__law_rule_due : Cal P w K mg base cs "_law_rule_due" 3 ["_law_thing_here"] [.ro] sem__law_rule_due) (C_is_rule : Cal P w K mg base cs "is_rule" 4 ["thing"] [.ro] sem_is_rule) (C__law_at : Cal P w K mg base cs "_law_at" 1 ["_law_script", "_law_place"] [.ro, .ro] sem__law_at) (C__law_signs : Cal P w K mg base cs "_law_signs" 1 [] [] sem__law_signs) (C__law_name_due : Cal P w K mg base cs "_law_name_due" 1 ["_law_thing_here"] [.ro] sem__law_name_due) (C_is_name : Cal P w K mg base cs "is_name" 2 ["thing"] [.ro] sem_is_name) (C__law_sign_due : Cal P w K mg base cs "_law_sign_due" 2 ["_law_thing_here"] [.ro] sem__law_sign_due) (C_is_sign : Cal P w K mg base cs "is_sign" 1 ["thing"] [.ro] sem_is_sign) (C__law_thing : Cal P w K mg base cs "_law_thing" 2 ["_law_script", "_law_place"] [.ro, .ro] sem__law_thing) : FnOk P w K mg base CX0 5 f fd ["_law_script"] (spD K cs [.ro] sem_law) := by
  refine fn_ds F sc_law rfl fun cdv A outer s H E hr => ⟨g_law, ?_, co_law⟩
  exact (sd_cons (sd_if (et_pw (ew_or (et_cmp (od_ne hr.units) ((e_gint (by rfl) B.c_MOST_RULES)).w (e_int).w (nomark _)) (ew_or (et_cmp (od_ne hr.units) ((e_gint (by rfl) B.c_MOST_SIGNS)).w (e_int).w (nomark _)) (ew_or1 (et_not (et_val ((c_call C__law_same (by exact ⟨rfl, rfl, rfl, rfl, rfl⟩) (by decide) (by exact hr) (by decide) (by rfl) (ep_cons (c_call C_is_sign (by exact ⟨rfl, rfl, rfl, rfl, rfl⟩) (by decide) (by exact hr) (by decide) (by rfl) (ep_cons (e_ix ((c_call0 C__law_signs (by exact ⟨rfl, rfl, rfl, rfl, rfl⟩) (by exact hr) (by decide) (by rfl))).w ((e_op od_mod ((c_call C__law_at (by exact ⟨rfl, rfl, rfl, rfl, rfl⟩) (by decide) (by exact hr) (by decide) (by rfl) (ep_cons (e_nameP (pv 0)) (ep_cons e_int ep_nil)))).w (e_int).w)).w (fun _ _ => rfl)) ep_nil)) (ep_cons e_bool ep_nil)))).w))))))
      (sd_one (sd_ret e_bool))
      sd_nil)
    (sd_cons (by first | exact (sd_setLcS (j := 1) rfl sc_law.nd rfl rfl (sw_true rfl rfl rfl (by decide +kernel)) (i := 2) rfl ((i_rng1 (by rfl) B.b_range (ep_cons (e_op od_add (e_int).w ((e_op od_mod ((c_call C__law_at (by exact ⟨rfl, rfl, rfl, rfl, rfl⟩) (by decide) (by exact hr) (by decide) (by rfl) (ep_cons (e_nameP (pv 0)) (ep_cons e_int ep_nil)))).w (e_int).w)).w) ep_nil))).comp (blkOk_by (by show blkC ["_law_script", "_law_parts", "_law_k", "_law_thing_here", "_law_good", "_law_at_here", "_law_some", "_law_rule"] (defScope s_law) _ _ = true; decide +kernel)) (fun _ _ _ _ _ => by rfl) (fun _ _ _ _ _ => ets_nil) (fun _ _ _ _ _ => (c_call C__law_thing (by exact ⟨rfl, rfl, rfl, rfl, rfl⟩) (by decide) (by exact hr) (by decide) (by rfl) (ep_cons (e_nameP (pv 0)) (ep_cons (e_op od_add (e_int).w (e_nameW (pv 2))) ep_nil))))) | exact (sd_set (i := 1) sc_law.nd rfl (by first | exact .inl rfl | exact .inr rfl) (e_lc rfl sc_law.nd (i := 2) rfl ((i_rng1 (by rfl) B.b_range (ep_cons (e_op od_add (e_int).w ((e_op od_mod ((c_call C__law_at (by exact ⟨rfl, rfl, rfl, rfl, rfl⟩) (by decide) (by exact hr) (by decide) (by rfl) (ep_cons (e_nameP (pv 0)) (ep_cons e_int ep_nil)))).w (e_int).w)).w) ep_nil))).comp (blkOk_by (by show blkC ["_law_script", "_law_parts", "_law_k", "_law_thing_here", "_law_good", "_law_at_here", "_law_some", "_law_rule"] (defScope s_law) _ _ = true; decide +kernel)) (fun _ _ _ _ _ => by rfl) (fun _ _ _ _ _ => ets_nil) (fun _ _ _ _ _ => (c_call C__law_thing (by exact ⟨rfl, rfl, rfl, rfl, rfl⟩) (by decide) (by exact hr) (by decide) (by rfl) (ep_cons (e_nameP (pv 0)) (ep_cons (e_op od_add (e_int).w (e_nameW (pv 2))) ep_nil))))).p))
    (sd_cons (sd_for PassesOwn.never rfl (i_list (e_nameP (pv 1))) (g_name (i := 3) sc_law.nd rfl (by first | exact .inl rfl | exact .inr rfl))
      (sd_one (sd_if (et_pw (ew_or (et_not (et_val ((c_call C__law_same (by exact ⟨rfl, rfl, rfl, rfl, rfl⟩) (by decide) (by exact hr) (by decide) (by rfl) (ep_cons (c_call C_is_sign (by exact ⟨rfl, rfl, rfl, rfl, rfl⟩) (by decide) (by exact hr) (by decide) (by rfl) (ep_cons (e_nameP (pv 3)) ep_nil)) (ep_cons (c_call C__law_sign_due (by exact ⟨rfl, rfl, rfl, rfl, rfl⟩) (by decide) (by exact hr) (by decide) (by rfl) (ep_cons (e_nameP (pv 3)) ep_nil)) ep_nil)))).w)) (ew_or1 (et_not (et_val ((c_call C__law_same (by exact ⟨rfl, rfl, rfl, rfl, rfl⟩) (by decide) (by exact hr) (by decide) (by rfl) (ep_cons (c_call C_is_name (by exact ⟨rfl, rfl, rfl, rfl, rfl⟩) (by decide) (by exact hr) (by decide) (by rfl) (ep_cons (e_nameP (pv 3)) ep_nil)) (ep_cons (c_call C__law_name_due (by exact ⟨rfl, rfl, rfl, rfl, rfl⟩) (by decide) (by exact hr) (by decide) (by rfl) (ep_cons (e_nameP (pv 3)) ep_nil)) ep_nil)))).w)))))
      (sd_one (sd_ret e_bool))
      sd_nil)))
    (sd_cons (sd_set (i := 4) sc_law.nd rfl (by first | exact .inl rfl | exact .inr rfl) ((e_lst (ep_cons e_str (ep_cons (e_ix ((c_call0 C__law_signs (by exact ⟨rfl, rfl, rfl, rfl, rfl⟩) (by exact hr) (by decide) (by rfl))).w ((e_op od_mod ((e_op od_fdiv ((c_call C__law_at (by exact ⟨rfl, rfl, rfl, rfl, rfl⟩) (by decide) (by exact hr) (by decide) (by rfl) (ep_cons (e_nameP (pv 0)) (ep_cons e_int ep_nil)))).w (e_int).w)).w (e_int).w)).w (fun _ _ => rfl)) ep_nil)))).p)
    (sd_cons (sd_if (et_cmp (od_eq hr.units) ((e_op od_mod ((e_op od_fdiv ((c_call C__law_at (by exact ⟨rfl, rfl, rfl, rfl, rfl⟩) (by decide) (by exact hr) (by decide) (by rfl) (ep_cons (e_nameP (pv 0)) (ep_cons e_int ep_nil)))).w (e_int).w)).w (e_int).w)).w (e_int).w (nomark _))
      (sd_one (sd_set (i := 4) sc_law.nd rfl (by first | exact .inl rfl | exact .inr rfl) ((e_lst (ep_cons e_str (ep_cons e_str (ep_cons e_str ep_nil))))).p))
      sd_nil)
    (sd_cons (sd_set (i := 5) sc_law.nd rfl (by first | exact .inl rfl | exact .inr rfl) (e_op od_mod ((e_op od_fdiv ((c_call C__law_at (by exact ⟨rfl, rfl, rfl, rfl, rfl⟩) (by decide) (by exact hr) (by decide) (by rfl) (ep_cons (e_nameP (pv 0)) (ep_cons e_int ep_nil)))).w (e_int).w)).w ((e_callB cd_len (by rfl) B.b_len PySem.boot_len (ewa_cons (e_nameW (pv 4)) ewa_nil))).w))
    (sd_cons (sd_set (i := 6) sc_law.nd rfl (by first | exact .inl rfl | exact .inr rfl) ((e_lst (ep_cons (e_callT cd_tuple (by rfl) B.b_tuple PyProof.Rows.boot_tuple (ewa_cons ((e_op od_add (e_nameW (pv 4)) ((e_lst (ep_cons e_str ep_nil))).w)).w ewa_nil)) (ep_cons (e_callT cd_tuple (by rfl) B.b_tuple PyProof.Rows.boot_tuple (ewa_cons ((e_slL (e_nameW (pv 4)) eo_none (eo_some e_int))).w ewa_nil)) (ep_cons (e_callT cd_tuple (by rfl) B.b_tuple PyProof.Rows.boot_tuple (ewa_cons ((e_op od_add ((e_op od_add ((e_slL (e_nameW (pv 4)) eo_none (eo_some (e_nameP (pv 5))))).w ((e_slL (e_nameW (pv 1)) eo_none (eo_some e_int))).w)).w ((e_slL (e_nameW (pv 4)) (eo_some (e_op od_add (e_nameW (pv 5)) (e_int).w)) eo_none)).w)).w ewa_nil)) ep_nil))))).p)
    (sd_cons (sd_for PassesOwn.never rfl (i_list (e_op od_add (e_nameW (pv 6)) ((e_lst (ep_cons (e_callT cd_tuple (by rfl) B.b_tuple PyProof.Rows.boot_tuple (ewa_cons (e_nameW (pv 1)) ewa_nil)) (ep_cons (e_callT cd_tuple (by rfl) B.b_tuple PyProof.Rows.boot_tuple (ewa_cons (e_nameW (pv 4)) ewa_nil)) (ep_cons ((e_callTN cn_list (by rfl) B.b_list PyProof.Rows.boot_list (ewa_cons (e_nameW (pv 4)) ewa_nil))).p (ep_cons (e_ix (e_nameW (pv 1)) (e_int).w (fun _ _ => rfl)) ep_nil)))))).w)) (g_name (i := 7) sc_law.nd rfl (by first | exact .inl rfl | exact .inr rfl))
      (sd_one (sd_if (et_not (et_val ((c_call C__law_same (by exact ⟨rfl, rfl, rfl, rfl, rfl⟩) (by decide) (by exact hr) (by decide) (by rfl) (ep_cons (c_call C_is_rule (by exact ⟨rfl, rfl, rfl, rfl, rfl⟩) (by decide) (by exact hr) (by decide) (by rfl) (ep_cons (e_nameP (pv 7)) ep_nil)) (ep_cons (c_call C__law_rule_due (by exact ⟨rfl, rfl, rfl, rfl, rfl⟩) (by decide) (by exact hr) (by decide) (by rfl) (ep_cons (e_nameP (pv 7)) ep_nil)) ep_nil)))).w))
      (sd_one (sd_ret e_bool))
      sd_nil)))
    (sd_one (sd_ret e_bool))))))))))
end
end K1

namespace K1
open PySem L2 DS
/-! what the defs answer, over data -/
def okD (d : D) : Prop := ∀ x, d = .str x → x.length ≤ 100000 ∧ PyData.strOk x = true
def SIGNS : Str := " !\"#$&'()*+,-./0123456789:;<=>?@ABCDEFGHIJKLMNOPQRSTUVWXYZ[\\]^_`abcdefghijklmnopqrstuvwxyz{|}~"
def sgB (c : Nat) : Bool := decide (32 ≤ c) && decide (c ≤ 126) && !decide (c = 37)
def signB : D → Bool
  | .str x => decide (x.length = 1) && sgB (x.cps.getD 0 0)
  | _ => false
def letB (c : Nat) : Bool := decide (97 ≤ c) && decide (c ≤ 122)
def nameB : D → Bool
  | .str x => decide (1 ≤ x.length) && decide (x.length ≤ 12) && x.cps.toList.all letB
  | _ => false
theorem semR_of {k n : Nat} {g : Nv → Option SR} {ds : List D} {r : Option Ou} (h : ds.length = k) (e : (g (shs ds n)).bind (fin0 k) = r) : semR k n g ds = r := by
  unfold semR
  rw [if_pos h]
  exact e
theorem sq_nx {α : Type} {g g' : Nv → Option SR} {ρ ρ' : Nv} {k : SR → Option α} {r : Option α} (h1 : g ρ = some (.nx ρ')) (h2 : (g' ρ').bind k = r) : (seqS g g' ρ).bind k = r := by
  unfold seqS
  rw [h1]
  exact h2
theorem sq_rt {α : Type} {g g' : Nv → Option SR} {ρ ρ' : Nv} {d : D} {o : Bool} {k : SR → Option α} {r : Option α} (h1 : g ρ = some (.rt d o ρ')) (h2 : k (.rt d o ρ') = r) : (seqS g g' ρ).bind k = r := by
  unfold seqS
  rw [h1]
  exact h2
theorem eqv_int (i j : Int) : PyData.eqv (.int i) (.int j) = decide (i = j) := by
  rw [PyData.eqv]
  rfl
theorem signs_is : sem__law_signs [] = some (.ret (.str SIGNS) false []) := by
  with_unfolding_all rfl
theorem signs_mem (c : Nat) : decide (c ∈ SIGNS.cps.toList) = sgB c := by
  by_cases h : c < 127
  · have : ∀ c, c < 127 → decide (c ∈ SIGNS.cps.toList) = sgB c := by decide +kernel
    exact this c h
  · have h1 : ∀ y ∈ SIGNS.cps.toList, y < 127 := by decide +kernel
    have h2 : c ∉ SIGNS.cps.toList := fun z => h (h1 c z)
    have h3 : decide (c ≤ 126) = false := decide_eq_false (by omega)
    rw [decide_eq_false h2]
    unfold sgB
    rw [h3]
    simp
theorem signs_mem' (c : Nat) : decide (c ∈ SIGNS.cps) = sgB c := by
  rw [← signs_mem]
  simp
theorem le_nat (a c : Nat) : ((a : Int) ≤ (c : Int)) ↔ a ≤ c := by omega
theorem is_sign_is {d : D} (h : okD d) : sem_is_sign [d] = some (.ret (.bool (signB d)) false []) := by
  cases d with
  | str x =>
    obtain ⟨h1, h2⟩ := h x rfl
    by_cases hl : x.length = 1
    · simp [sem_is_sign, semR, g_is_sign, shs, seqS, ifS, orT, notT, nmW, Cell.got, isiB, truD, opT, op2, callD, cons2, lenD, neD, eqv_int, shaped_int, h1, asB, setS, ordD, hl, andV, ch3, leD, fin0, signB, sgB]
      generalize x.cps[0]?.getD 0 = c
      by_cases a : 32 ≤ c
      · have a' : (32 : Int) ≤ (c : Int) := by omega
        have e1 : decide ((c : Int) ≤ 126) = decide (c ≤ 126) := by
          by_cases b : c ≤ 126
          · rw [decide_eq_true b, decide_eq_true (by omega)]
          · rw [decide_eq_false b, decide_eq_false (by omega)]
        have e2 : decide ((c : Int) = 37) = decide (c = 37) := by
          by_cases b : c = 37
          · rw [decide_eq_true b, decide_eq_true (by omega)]
          · rw [decide_eq_false b, decide_eq_false (by omega)]
        by_cases b : c ≤ 126
        · simp [a', a, e1, e2, b, fin0]
        · simp [a', a, e1, e2, b, fin0]
      · have a' : ¬ (32 : Int) ≤ (c : Int) := by omega
        simp [a', a, fin0]
    · have hl' : (x.length : Int) ≠ 1 := by omega
      simp [sem_is_sign, semR, g_is_sign, shs, seqS, ifS, orT, notT, nmW, Cell.got, isiB, truD, opT, op2, callD, cons2, lenD, neD, eqv_int, shaped_int, h1, asB, hl, fin0, signB, hl']
  | _ => simp [sem_is_sign, semR, g_is_sign, shs, seqS, ifS, orT, notT, nmW, Cell.got, isiB, truD, fin0, signB]
theorem law_sign_is {d : D} (h : okD d) : sem__law_sign_due [d] = some (.ret (.bool (signB d)) false []) := by
  cases d with
  | str x =>
    obtain ⟨h1, h2⟩ := h x rfl
    by_cases hl : x.length = 1
    · simp [sem__law_sign_due, semR, g__law_sign_due, shs, seqS, ifS, orT, notT, nmW, Cell.got, isiB, truD, opT, op2, callD, cons2, lenD, eqD, eqv_int, shaped_int, h1, asB, hl, andV, fin0, signB, nmP, call0, signs_is, inD', inD, signs_mem']
    · have : (x.length : Int) ≠ 1 := by omega
      simp [sem__law_sign_due, semR, g__law_sign_due, shs, seqS, ifS, orT, notT, nmW, Cell.got, isiB, truD, opT, op2, callD, cons2, lenD, eqD, eqv_int, shaped_int, h1, asB, hl, andV, fin0, signB, nmP, this]
  | _ => simp [sem__law_sign_due, semR, g__law_sign_due, shs, seqS, ifS, andV, asB, nmW, Cell.got, isiB, truD, fin0, signB]
theorem lt0 (c b : Nat) : (([c] : List Nat) < [b]) ↔ c < b := by
  rw [List.cons_lt_cons_iff]
  constructor
  · rintro (h | ⟨_, h⟩)
    · exact h
    · exact absurd h (List.not_lt_nil _)
  · exact .inl
theorem lt1 {c : Nat} {s : Str} {b : Nat} (h : s.cps.toList = [b]) : (!decide (([c] : List Nat) < s.cps.toList)) = decide (b ≤ c) := by
  rw [h]
  by_cases a : c < b
  · rw [decide_eq_true ((lt0 c b).mpr a), decide_eq_false (by omega)]
    rfl
  · rw [decide_eq_false (fun z => a ((lt0 c b).mp z)), decide_eq_true (by omega)]
    rfl
theorem lt2 {c : Nat} {s : Str} {b : Nat} (h : s.cps.toList = [b]) : (!decide (s.cps.toList < ([c] : List Nat))) = decide (c ≤ b) := by
  rw [h]
  by_cases a : b < c
  · rw [decide_eq_true ((lt0 b c).mpr a), decide_eq_false (by omega)]
    rfl
  · rw [decide_eq_false (fun z => a ((lt0 b c).mp z)), decide_eq_true (by omega)]
    rfl
theorem all_let : ∀ cs : List Nat, allD (ch3 leD leD (fun _ => some (.str "a")) (nmW 0) (fun _ => some (.str "z"))) (cs.map fun c => PyData.str ⟨#[c]⟩) = some (cs.all letB)
  | [] => rfl
  | c :: r => by
    have ih := all_let r
    rw [List.map_cons, allD]
    have e1 : ch3 leD leD (fun _ => some (.str "a")) (nmW 0) (fun _ => some (.str "z")) [some (Cell.sh (PyData.str ⟨#[c]⟩))] = some (.bool (letB c)) := by
      have a1 := lt1 (c := c) (s := "a") (b := 97) (by rfl)
      have a2 := lt2 (c := c) (s := "z") (b := 122) (by rfl)
      have f1 : leD (.str "a") (PyData.str ⟨#[c]⟩) = some (.bool (decide (97 ≤ c))) := by
        rw [← a1]
        rfl
      have f2 : leD (PyData.str ⟨#[c]⟩) (.str "z") = some (.bool (decide (c ≤ 122))) := by
        rw [← a2]
        rfl
      unfold ch3 letB
      simp only [Option.bind_some, nmW, Cell.got, List.getElem?_cons_zero, f1, asB]
      show (if decide (97 ≤ c) = true then leD (PyData.str ⟨#[c]⟩) (.str "z") else _) = _
      by_cases b : 97 ≤ c
      · rw [f2]
        simp [b]
      · simp [b]
    rw [e1]
    simp only [Option.bind_some, asB]
    by_cases b : letB c = true
    · rw [if_pos b, ih, List.all_cons, b]
      rfl
    · rw [if_neg b, List.all_cons]
      rw [Bool.eq_false_iff.mpr b]
      rfl
theorem is_name_is {d : D} (h : okD d) : sem_is_name [d] = some (.ret (.bool (nameB d)) false []) := by
  cases d with
  | str x =>
    obtain ⟨h1, h2⟩ := h x rfl
    by_cases hl : x.length < 1
    · have hl' : (x.length : Int) < 1 := by omega
      have hz : x.length = 0 := by omega
      simp [sem_is_name, semR, g_is_name, shs, seqS, ifS, orT, notT, nmW, Cell.got, isiB, truD, opT, op2, callD, cons2, lenD, ltD, gtD, h1, asB, hl, fin0, nameB, hz]
    · have hl' : ¬ (x.length : Int) < 1 := by omega
      have g1 : 1 ≤ x.length := by omega
      by_cases hm : x.length ≤ 12
      · have hm' : ¬ (12 : Int) < x.length := by omega
        have e := all_let x.cps.toList
        have e' : allD (ch3 leD leD (fun _ => some (.str "a")) (nmW 0) (fun _ => some (.str "z"))) (signsD x) = some (x.cps.toList.all letB) := e
        simp [sem_is_name, semR, g_is_name, shs, seqS, ifS, orT, notT, nmW, Cell.got, isiB, truD, opT, op2, callD, cons2, lenD, ltD, gtD, h1, asB, hl', g1, hm, hm', fin0, nameB, asSg]
        rw [e']
        simp [fin0]
      · have hm' : (12 : Int) < x.length := by omega
        simp [sem_is_name, semR, g_is_name, shs, seqS, ifS, orT, notT, nmW, Cell.got, isiB, truD, opT, op2, callD, cons2, lenD, ltD, gtD, h1, asB, hl', g1, hm, hm', fin0, nameB]
  | _ => simp [sem_is_name, semR, g_is_name, shs, seqS, ifS, orT, notT, nmW, Cell.got, isiB, truD, fin0, nameB]
theorem nin_let (c : Nat) : (opT ninD' (nmW 1) (fun _ => some (.str "abcdefghijklmnopqrstuvwxyz"))) [x0, some (Cell.sh (sgD c))] = some (!letB c) := by
  have h : decide (c ∈ ("abcdefghijklmnopqrstuvwxyz" : Str).cps.toList) = letB c := by
    by_cases h : c < 127
    · have : ∀ c, c < 127 → decide (c ∈ ("abcdefghijklmnopqrstuvwxyz" : Str).cps.toList) = letB c := by decide +kernel
      exact this c h
    · have h1 : ∀ y ∈ ("abcdefghijklmnopqrstuvwxyz" : Str).cps.toList, y < 127 := by decide +kernel
      have h2 : c ∉ ("abcdefghijklmnopqrstuvwxyz" : Str).cps.toList := fun z => h (h1 c z)
      have h3 : decide (c ≤ 122) = false := decide_eq_false (by omega)
      rw [decide_eq_false h2]
      unfold letB
      rw [h3]
      simp
  show some (!decide (c ∈ ("abcdefghijklmnopqrstuvwxyz" : Str).cps.toList)) = _
  rw [h]
theorem lcD_let (x0 x1 : Option Cell) : ∀ cs : List Nat, lcD 1 (opT ninD' (nmW 1) (fun _ => some (.str "abcdefghijklmnopqrstuvwxyz"))) (nmP 1) [x0, x1] (cs.map sgD) = some ((cs.filter (!letB ·)).map sgD)
  | [] => rfl
  | c :: r => by
    have ih := lcD_let x0 x1 r
    rw [List.map_cons, lcD]
    show (Option.bind (opT ninD' (nmW 1) (fun _ => some (.str "abcdefghijklmnopqrstuvwxyz")) [x0, some (Cell.sh (sgD c))]) _) = _
    rw [nin_let]
    rw [Option.bind_some, ih, List.filter_cons]
    by_cases b : (!letB c) = true
    · rw [if_pos b, if_pos b]
      rfl
    · rw [if_neg b, if_neg b]
theorem fine_sg {x : Str} (h : PyData.strOk x = true) (p : Nat → Bool) : fine 1 (.list ((x.cps.toList.filter p).map sgD)) = true := by
  show List.all _ (fine 0) = true
  rw [List.all_eq_true]
  intro y hy
  obtain ⟨c, hc, rfl⟩ := List.mem_map.mp hy
  have hc' : c ∈ x.cps.toList := (List.mem_filter.mp hc).1
  have : PyData.strOk ⟨#[c]⟩ = true := by
    unfold PyData.strOk at h ⊢
    rw [Array.all_eq_true_iff_forall_mem] at h
    have := h c (by simpa using hc')
    simpa using this
  show sgOk (sgD c) = true
  unfold sgOk sgD
  simp [this]
  show (1 : Nat) ≤ 100000
  decide
theorem eqv_nil : ∀ xs : List D, PyData.eqv (.list xs) (.list []) = xs.isEmpty
  | [] => rfl
  | x :: r => by
    rw [PyData.eqv, PyData.eqvAll]
    rfl
theorem filter_nil {p : Nat → Bool} : ∀ cs : List Nat, ((cs.filter (!p ·)).map sgD).isEmpty = cs.all p
  | [] => rfl
  | c :: r => by
    rw [List.filter_cons, List.all_cons]
    by_cases b : p c = true
    · rw [b, ← filter_nil r]
      rfl
    · rw [Bool.eq_false_iff.mpr b]
      rfl
theorem law_name_is {d : D} (h : okD d) : sem__law_name_due [d] = some (.ret (.bool (nameB d)) false []) := by
  cases d with
  | str x =>
    obtain ⟨h1, h2⟩ := h x rfl
    by_cases hl : x.length < 1
    · have hz : x.length = 0 := by omega
      simp [sem__law_name_due, semR, g__law_name_due, shs, seqS, ifS, orT, notT, nmW, Cell.got, isiB, truD, opT, op2, callD, cons2, lenD, eqD, shaped_int, eqv_int, gtD, h1, asB, hl, fin0, nameB, hz]
    · have hl' : ¬ (x.length : Int) = 0 := by omega
      have hl2 : ¬ x.length = 0 := by omega
      have g1 : 1 ≤ x.length := by omega
      by_cases hm : x.length ≤ 12
      · have hm' : ¬ (12 : Int) < x.length := by omega
        have e := lcD_let (some (Cell.sh (.str x))) none x.cps.toList
        have e' : lcD 1 (opT ninD' (nmW 1) (fun _ => some (.str "abcdefghijklmnopqrstuvwxyz"))) (nmP 1) [some (Cell.sh (.str x)), none] (signsD x) = _ := e
        have hs : (signsD x).length ≤ 100000 := by
          unfold signsD
          rw [List.length_map]
          exact h1
        have f1 := shaped_fine (fine_sg h2 (!letB ·)) (by decide)
        have f2 : SeqAt.shaped (.list []) = true := shaped_fine (n := 1) (d := .list []) rfl (by decide)
        have q := filter_nil (p := letB) x.cps.toList
        have e2 : lcV 1 (fun ρ => (nmW 0 ρ).bind asSg) (opT ninD' (nmW 1) (fun _ => some (.str "abcdefghijklmnopqrstuvwxyz"))) (nmP 1) [some (Cell.sh (.str x)), none] = some (.list ((x.cps.toList.filter (!letB ·)).map sgD)) := by
          unfold lcV
          show (if _ then _ else _) = _
          rw [if_pos ⟨rfl, hs⟩, e']
          rfl
        have e3 : op2 eqD (lcV 1 (fun ρ => (nmW 0 ρ).bind asSg) (opT ninD' (nmW 1) (fun _ => some (.str "abcdefghijklmnopqrstuvwxyz"))) (nmP 1)) (mkL (fun _ => some [])) [some (Cell.sh (.str x)), none] = some (.bool (x.cps.toList.all letB)) := by
          unfold op2
          rw [e2]
          show (if _ then _ else _) = _
          rw [if_pos ⟨f1, f2⟩, eqv_nil, q]
        unfold sem__law_name_due g__law_name_due
        refine semR_of rfl ?_
        refine sq_nx (ρ' := [some (Cell.sh (.str x)), none]) ?_ ?_
        · simp [shs, ifS, orT, notT, nmW, Cell.got, isiB, truD, opT, op2, callD, cons2, lenD, eqD, shaped_int, eqv_int, gtD, h1, asB, hl', hl2, hm']
        · show Option.bind (Option.map _ (op2 eqD _ _ [some (Cell.sh (.str x)), none])) _ = _
          rw [e3]
          simp [fin0, nameB, g1, hm]
      · have hm' : (12 : Int) < x.length := by omega
        simp [sem__law_name_due, semR, g__law_name_due, shs, seqS, ifS, orT, notT, nmW, Cell.got, isiB, truD, opT, op2, callD, cons2, lenD, eqD, shaped_int, eqv_int, gtD, h1, asB, hl', hl2, g1, hm, hm', fin0, nameB]
  | _ => simp [sem__law_name_due, semR, g__law_name_due, shs, seqS, ifS, orT, notT, nmW, Cell.got, isiB, truD, fin0, nameB]
theorem rule_parts (cs : List D) (h : ∀ d ∈ cs, okD d) : allD (callS 1 sem_is_name (cons2 (nmP 0) (fun _ => some []))) cs = some (cs.all nameB) := by
  induction cs with
  | nil => rfl
  | cons d r ih =>
    have e := is_name_is (h d List.mem_cons_self)
    have ih := ih fun d hd => h d (List.mem_cons_of_mem _ hd)
    rw [allD]
    have e1 : callS 1 sem_is_name (cons2 (nmP 0) (fun _ => some [])) [some (Cell.sh d)] = some (.bool (nameB d)) := by
      simp [callS, cons2, nmP, e]
    rw [e1, ih]
    simp only [Option.bind_some, asB, List.all_cons]
    by_cases b : nameB d = true
    · rw [if_pos b, b]
      rfl
    · rw [if_neg b, Bool.eq_false_iff.mpr b]
      rfl
def ruleB : D → Bool
  | .tuple [a, b] => nameB a && signB b
  | .tuple [a, b, c] => nameB a && nameB b && nameB c
  | _ => false
theorem is_rule_is {d : D} (h : ∀ ds, d = .tuple ds → ∀ x ∈ ds, okD x) : sem_is_rule [d] = some (.ret (.bool (ruleB d)) false []) := by
  cases d with
  | tuple ds =>
    have h' := h ds rfl
    match ds, h' with
    | [], _ => simp [sem_is_rule, semR, g_is_rule, shs, seqS, ifS, orT, notT, nmW, nmP, Cell.got, isiB, truD, opT, op2, callD, cons2, lenD, eqD, shaped_int, eqv_int, asB, fin0, andV, ruleB, callS, ixD, atI, ixN, asTu]
    | [_], _ => simp [sem_is_rule, semR, g_is_rule, shs, seqS, ifS, orT, notT, nmW, nmP, Cell.got, isiB, truD, opT, op2, callD, cons2, lenD, eqD, shaped_int, eqv_int, asB, fin0, andV, ruleB, callS, ixD, atI, ixN, asTu]
    | [a, b], h' =>
      have e1 := is_name_is (h' a (by simp))
      have e2 := is_sign_is (h' b (by simp))
      cases q : nameB a <;> rw [q] at e1 <;> simp [sem_is_rule, semR, g_is_rule, shs, seqS, ifS, orT, notT, nmW, nmP, Cell.got, isiB, truD, opT, op2, callD, cons2, lenD, eqD, shaped_int, eqv_int, asB, fin0, andV, ruleB, callS, ixD, atI, ixN, asTu, e1, e2, q]
    | [a, b, c], h' =>
      have e := rule_parts [a, b, c] h'
      unfold sem_is_rule g_is_rule
      refine semR_of rfl (sq_nx (ρ' := [some (Cell.sh (.tuple [a, b, c]))]) ?_ (sq_nx (ρ' := [some (Cell.sh (.tuple [a, b, c]))]) ?_ ?_))
      · simp [sem_is_rule, semR, g_is_rule, shs, seqS, ifS, orT, notT, nmW, nmP, Cell.got, isiB, truD, opT, op2, callD, cons2, lenD, eqD, shaped_int, eqv_int, asB, fin0, andV, ruleB, callS, ixD, atI, ixN, asTu]
      · simp [sem_is_rule, semR, g_is_rule, shs, seqS, ifS, orT, notT, nmW, nmP, Cell.got, isiB, truD, opT, op2, callD, cons2, lenD, eqD, shaped_int, eqv_int, asB, fin0, andV, ruleB, callS, ixD, atI, ixN, asTu]
      · have e2 : (op2 eqD (callD lenD (cons2 (nmW 0) (fun _ => some []))) (fun _ => some (.int 3))) [some (Cell.sh (.tuple [a, b, c]))] = some (.bool true) := by simp [sem_is_rule, semR, g_is_rule, shs, seqS, ifS, orT, notT, nmW, nmP, Cell.got, isiB, truD, opT, op2, callD, cons2, lenD, eqD, shaped_int, eqv_int, asB, fin0, andV, ruleB, callS, ixD, atI, ixN, asTu]
        unfold andV
        rw [e2]
        show Option.bind (Option.map _ (Option.map _ (allD _ [a, b, c]))) _ = _
        rw [e]
        simp [sem_is_rule, semR, g_is_rule, shs, seqS, ifS, orT, notT, nmW, nmP, Cell.got, isiB, truD, opT, op2, callD, cons2, lenD, eqD, shaped_int, eqv_int, asB, fin0, andV, ruleB, callS, ixD, atI, ixN, asTu, Bool.and_assoc]
    | a :: b :: c :: d :: r, _ =>
      have g1 : ¬ ((r.length : Int) + 1 + 1 + 1 + 1 = 2) := by omega
      have g2 : ¬ ((r.length : Int) + 1 + 1 + 1 + 1 = 3) := by omega
      simp [sem_is_rule, semR, g_is_rule, shs, seqS, ifS, orT, notT, nmW, nmP, Cell.got, isiB, truD, opT, op2, callD, cons2, lenD, eqD, shaped_int, eqv_int, asB, fin0, andV, ruleB, callS, ixD, atI, ixN, asTu, g1, g2]
  | _ => simp [sem_is_rule, semR, g_is_rule, shs, seqS, ifS, orT, notT, nmW, nmP, Cell.got, isiB, truD, opT, op2, callD, cons2, lenD, eqD, shaped_int, eqv_int, asB, fin0, andV, ruleB, callS, ixD, atI, ixN, asTu]
theorem same_is (a b : Bool) : sem__law_same [.bool a, .bool b] = some (.ret (.bool (a == b)) false []) := by
  simp [sem__law_same, semR, g__law_same, shs, andV, nmW, Cell.got, isiB, op2, eqD, shaped_bool, asB, fin0, PyData.eqv]
theorem at_is {xs : List D} {i : Int} (h0 : 0 ≤ i) : sem__law_at [.list xs, .int i] = some (.ret (xs.getD i.toNat (.int 0)) false []) := by
  by_cases hl : (xs.length : Int) ≤ i
  · have : xs.getD i.toNat (.int 0) = .int 0 := by
      rw [List.getD_eq_getElem?_getD, List.getElem?_eq_none (by omega)]
      rfl
    rw [this]
    simp [sem__law_at, semR, g__law_at, shs, seqS, ifS, opT, op2, nmW, nmP, Cell.got, callD, cons2, lenD, geD, asB, hl, fin0]
  · obtain ⟨x, e, _⟩ := atI_ok (xs := xs) h0 (by omega)
    have : xs.getD i.toNat (.int 0) = x := by
      unfold atI ixN at e
      rw [if_pos h0, if_pos (by omega)] at e
      rw [List.getD_eq_getElem?_getD]
      have e' : xs[i.toNat]? = some x := e
      rw [e']
      rfl
    rw [this]
    simp [sem__law_at, semR, g__law_at, shs, seqS, ifS, opT, op2, nmW, nmP, Cell.got, callD, cons2, lenD, geD, asB, hl, fin0, ixD, e]
theorem law_rule_is {d : D} (h : ∀ ds, d = .tuple ds → ∀ x ∈ ds, okD x) : sem__law_rule_due [d] = some (.ret (.bool (ruleB d)) false []) := by
  cases d with
  | tuple ds =>
    have h' := h ds rfl
    match ds, h' with
    | [], _ => simp [sem__law_rule_due, semR, g__law_rule_due, shs, seqS, ifS, orT, notT, nmW, nmP, Cell.got, isiB, truD, opT, op2, callD, cons2, lenD, ltD, gtD, eqD, shaped_int, eqv_int, asB, fin0, andV, ruleB, callS, ixD, atI, ixN]
    | [_], _ => simp [sem__law_rule_due, semR, g__law_rule_due, shs, seqS, ifS, orT, notT, nmW, nmP, Cell.got, isiB, truD, opT, op2, callD, cons2, lenD, ltD, gtD, eqD, shaped_int, eqv_int, asB, fin0, andV, ruleB, callS, ixD, atI, ixN]
    | [a, b], h' =>
      have e1 := law_name_is (h' a (by simp))
      have e2 := law_sign_is (h' b (by simp))
      cases q : nameB a <;> rw [q] at e1 <;> simp [sem__law_rule_due, semR, g__law_rule_due, shs, seqS, ifS, orT, notT, nmW, nmP, Cell.got, isiB, truD, opT, op2, callD, cons2, lenD, ltD, gtD, eqD, shaped_int, eqv_int, asB, fin0, andV, ruleB, callS, ixD, atI, ixN, e1, e2, q]
    | [a, b, c], h' =>
      have e1 := law_name_is (h' a (by simp))
      have e2 := law_name_is (h' b (by simp))
      have e3 := law_name_is (h' c (by simp))
      cases q : nameB a <;> cases q2 : nameB b <;> rw [q] at e1 <;> rw [q2] at e2 <;> simp [sem__law_rule_due, semR, g__law_rule_due, shs, seqS, ifS, orT, notT, nmW, nmP, Cell.got, isiB, truD, opT, op2, callD, cons2, lenD, ltD, gtD, eqD, shaped_int, eqv_int, asB, fin0, andV, ruleB, callS, ixD, atI, ixN, e1, e2, e3, q, q2]
    | a :: b :: c :: d :: r, _ =>
      have g1 : ¬ ((r.length : Int) + 1 + 1 + 1 + 1 < 2) := by omega
      have g2 : (3 : Int) < (r.length : Int) + 1 + 1 + 1 + 1 := by omega
      simp [sem__law_rule_due, semR, g__law_rule_due, shs, seqS, ifS, orT, notT, nmW, nmP, Cell.got, isiB, truD, opT, op2, callD, cons2, lenD, ltD, gtD, eqD, shaped_int, eqv_int, asB, fin0, andV, ruleB, callS, ixD, atI, ixN, g1, g2]
  | _ => simp [sem__law_rule_due, semR, g__law_rule_due, shs, seqS, ifS, orT, notT, nmW, nmP, Cell.got, isiB, truD, opT, op2, callD, cons2, lenD, ltD, gtD, eqD, shaped_int, eqv_int, asB, fin0, andV, ruleB, callS, ixD, atI, ixN]
end K1

namespace K1
open PySem L2 DS
theorem signs_len : SIGNS.cps.toList.length = 94 := by decide +kernel
theorem signs_at (i : Int) : ∃ c, ixD (.str SIGNS) (.int (i % 94)) = some (sgD c) ∧ c ∈ SIGNS.cps.toList := by
  obtain ⟨c, e, h⟩ := atI_mod (xs := SIGNS.cps.toList) (i := i) (n := 94) (by decide) (by rw [signs_len]; decide)
  refine ⟨c, ?_, h⟩
  unfold ixD
  dsimp only
  rw [if_pos (by decide +kernel), e]
  rfl
theorem letters_at (i : Int) : ∃ c, ixD (.str "abcdefghijklmnopqrstuvwxyz") (.int (i % 26)) = some (sgD c) ∧ c < 127 := by
  obtain ⟨c, e, h⟩ := atI_mod (xs := ("abcdefghijklmnopqrstuvwxyz" : Str).cps.toList) (i := i) (n := 26) (by decide) (by decide +kernel)
  refine ⟨c, ?_, ?_⟩
  · unfold ixD
    dsimp only
    rw [if_pos (by decide +kernel), e]
    rfl
  · have : ∀ y ∈ ("abcdefghijklmnopqrstuvwxyz" : Str).cps.toList, y < 127 := by decide +kernel
    exact this c h
theorem signs_small {c : Nat} (h : c ∈ SIGNS.cps.toList) : c < 127 := by
  have : ∀ y ∈ SIGNS.cps.toList, y < 127 := by decide +kernel
  exact this c h
theorem at_int (ns : List Int) {i : Int} (h0 : 0 ≤ i) : ∃ c, sem__law_at [.list (ns.map .int), .int i] = some (.ret (.int c) false []) := by
  rw [at_is h0, List.getD_eq_getElem?_getD, List.getElem?_map]
  cases ns[i.toNat]? with
  | none => exact ⟨0, rfl⟩
  | some c => exact ⟨c, rfl⟩
theorem sgs_of : ∀ ys : List D, (∀ y ∈ ys, ∃ c, y = sgD c ∧ c < 127) → ∃ cs : List Nat, ys = cs.map sgD ∧ ∀ c ∈ cs, c < 127
  | [], _ => ⟨[], rfl, fun _ h => by cases h⟩
  | y :: r, h => by
    obtain ⟨c, rfl, hc⟩ := h y List.mem_cons_self
    obtain ⟨cs, rfl, h2⟩ := sgs_of r fun z hz => h z (List.mem_cons_of_mem _ hz)
    exact ⟨c :: cs, rfl, fun z hz => by rcases List.mem_cons.mp hz with rfl | hz; exact hc; exact h2 z hz⟩
theorem mod5 (c k : Int) (ρ : Nv) (h : nmW 2 ρ = some (.int c)) : opT eqD (op2 modD (nmW 2) (fun _ => some (.int 5))) (fun _ => some (.int k)) ρ = some (decide (c % 5 = k)) := by
  simp [opT, op2, h, modD, eqD, shaped_int, eqv_int, asB]
theorem div_mod (c a b : Int) (ρ : Nv) (h : nmW 2 ρ = some (.int c)) (ha : 0 < a ∧ a < 1073741824) (hb : 0 < b) : op2 modD (op2 fdivD (nmW 2) (fun _ => some (.int a))) (fun _ => some (.int b)) ρ = some (.int (c / a % b)) := by
  simp [op2, h, modD, fdivD, ha, hb]
theorem thing_is (ns : List Int) {i : Int} (h0 : 0 ≤ i) : ∃ d, sem__law_thing [.list (ns.map .int), .int i] = some (.ret d false []) ∧ fine 1 d = true := by
  obtain ⟨c, hc⟩ := at_int ns h0
  unfold sem__law_thing
  refine sem_rets rfl ?_
  unfold g__law_thing
  refine rets_nx (setS_is (callS_is (cons2_is rfl (cons2_is rfl rfl)) rfl hc)) ?_
  refine rets_ifr (mod5 c 4 _ rfl) (fun _ => ?_) fun _ => ?_
  · obtain ⟨x, e, hx⟩ := atI_mod (xs := ([.none, .int 5, .bool true, .tuple [.str "a"], .list [.str "a"], .str "ab c", .str "", .str "a\n"] : List D)) (i := c / 5) (n := 8) (by decide) (by decide)
    refine rets_ret (d := x) (op2_is (x := .list [.none, .int 5, .bool true, .tuple [.str "a"], .list [.str "a"], .str "ab c", .str "", .str "a\n"]) ?_ (div_mod c 5 8 _ rfl (by decide) (by decide)) e) (Nat.le_of_ble_eq_true rfl) ?_
    · simp [mkL, mkT, cons2]
    · have : ∀ x ∈ ([.none, .int 5, .bool true, .tuple [.str "a"], .list [.str "a"], .str "ab c", .str "", .str "a\n"] : List D), fine 1 x = true := by decide +kernel
      exact this x hx
  refine rets_ifr (mod5 c 3 _ rfl) (fun _ => ?_) fun _ => ?_
  · obtain ⟨x, e, hx⟩ := signs_at (c / 5)
    refine rets_ret (d := sgD x) (op2_is (x := .str SIGNS) ?_ (div_mod c 5 94 _ rfl (by decide) (by decide)) e) (Nat.le_of_ble_eq_true rfl) ?_
    · unfold call0
      rw [signs_is]
    · refine fine_str (by show 1 ≤ 100000; decide) fun y hy => ?_
      have := signs_small hx
      have hy' : y ∈ [x] := hy
      simp at hy'
      omega
  refine rets_nx (setS_is (op2_is (y := .int (c / 5 % 25)) rfl (div_mod c 5 25 _ rfl (by decide) (by decide)) rfl)) ?_
  have hstep : 1 ≤ 1 + c / 5 % 25 ∧ 1 + c / 5 % 25 ≤ 25 := by omega
  generalize 1 + c / 5 % 25 = st at hstep
  have hr : (fun ρ => ((cons2 (op2 modD (op2 fdivD (nmW 2) (fun _ => some (.int 130))) (fun _ => some (.int 15))) (fun _ => some [])) ρ).bind rng1) [some (Cell.sh (.list (ns.map .int))), some (.sh (.int i)), some (.sh (.int c)), some (.sh (.int st)), none, none, none] = some (rngD 0 (c / 130 % 15).toNat) := by
    have h1 := cons2_is (div_mod c 130 15 [some (Cell.sh (.list (ns.map .int))), some (.sh (.int i)), some (.sh (.int c)), some (.sh (.int st)), none, none, none] rfl (by decide) (by decide)) (fr := fun _ => some []) rfl
    show Option.bind (cons2 _ _ _) rng1 = _
    rw [h1]
    show (if _ then _ else _) = _
    rw [if_pos]
    omega
  have hn : (rngD 0 (c / 130 % 15).toNat).length ≤ 15 := by
    unfold rngD
    rw [List.length_map, List.length_range]
    omega
  obtain ⟨ys, e1, l1, q1⟩ := lcV_all (i := 5) (ds := rngD 0 (c / 130 % 15).toNat) (fi := fun ρ => ((cons2 (op2 modD (op2 fdivD (nmW 2) (fun _ => some (.int 130))) (fun _ => some (.int 15))) (fun _ => some [])) ρ).bind rng1) (ρ := [some (Cell.sh (.list (ns.map .int))), some (.sh (.int i)), some (.sh (.int c)), some (.sh (.int st)), none, none, none]) (Q := fun y => ∃ x, y = sgD x ∧ x < 127) (f := op2 ixD (fun _ => some (.str "abcdefghijklmnopqrstuvwxyz")) (op2 modD (op2 addD (op2 fdivD (nmW 2) (fun _ => some (.int 5))) (op2 mulD (nmW 5) (nmW 3))) (fun _ => some (.int 26)))) hr rfl (by omega) (fun x hx => by
    unfold rngD at hx
    obtain ⟨j, _, rfl⟩ := List.mem_map.mp hx
    obtain ⟨x, e, hx⟩ := letters_at (c / 5 + (0 + (j : Int)) * st)
    refine ⟨_, op2_is (x := .str "abcdefghijklmnopqrstuvwxyz") rfl (op2_is (x := .int (c / 5 + (0 + (j : Int)) * st)) (y := .int 26) (op2_is (x := .int (c / 5)) (y := .int ((0 + (j : Int)) * st)) (op2_is (x := .int c) (y := .int 5) rfl rfl rfl) (op2_is (x := .int (0 + (j : Int))) (y := .int st) rfl rfl ?_) rfl) rfl rfl) e, x, rfl, hx⟩
    show (if _ then _ else _) = _
    rw [if_pos (by omega)])
  obtain ⟨cs, rfl, hcs⟩ := sgs_of ys q1
  rw [List.length_map] at l1
  obtain ⟨t, e2, ht⟩ := joinD_sg (cs := cs) (by omega)
  refine rets_nx (setS_is (op2_is (x := .str ⟨#[]⟩) rfl e1 e2)) ?_
  refine rets_nx (setS_is (div_mod c 1950 15 _ rfl (by decide) (by decide))) ?_
  have tl : t.length ≤ 15 := by
    rw [len_list, ht]
    omega
  have hat : 0 ≤ c / 1950 % 15 ∧ c / 1950 % 15 < 15 := by omega
  generalize c / 1950 % 15 = at_ at hat
  refine rets_ifr (b := decide (c % 5 = 2) && decide (at_ < t.length)) ?_ (fun _ => ?_) fun _ => ?_
  · have a1 := mod5 c 2 [some (Cell.sh (.list (ns.map .int))), some (.sh (.int i)), some (.sh (.int c)), some (.sh (.int st)), some (.sh (.str t)), none, some (.sh (.int at_))] rfl
    have a2 : opT ltD (nmW 6) (callD lenD (cons2 (nmW 4) (fun _ => some []))) [some (Cell.sh (.list (ns.map .int))), some (.sh (.int i)), some (.sh (.int c)), some (.sh (.int st)), some (.sh (.str t)), none, some (.sh (.int at_))] = some (decide (at_ < t.length)) := by
      have : t.length ≤ 100000 := by omega
      simp [opT, op2, nmW, Cell.got, callD, cons2, lenD, this, ltD, asB]
    show andT _ _ [some (Cell.sh (.list (ns.map .int))), some (.sh (.int i)), some (.sh (.int c)), some (.sh (.int st)), some (.sh (.str t)), none, some (.sh (.int at_))] = _
    unfold andT
    rw [a1, a2]
    cases decide (c % 5 = 2) <;> rfl
  · obtain ⟨x, e, hx⟩ := signs_at (c / 7)
    have tl' : t.length ≤ 100000 := by omega
    have l1 := cutS_length t none (some at_)
    have l2 := cutS_length t (some (at_ + 1)) none
    have lx : (⟨#[x]⟩ : Str).length = 1 := rfl
    refine rets_ret (d := .str (cutS t none (some at_) ++ ⟨#[x]⟩ ++ cutS t (some (at_ + 1)) none)) (op2_is (x := .str (cutS t none (some at_) ++ ⟨#[x]⟩)) (y := .str (cutS t (some (at_ + 1)) none)) (op2_is (x := .str (cutS t none (some at_))) (y := sgD x) ?_ (op2_is (x := .str SIGNS) ?_ (div_mod c 7 94 _ rfl (by decide) (by decide)) e) ?_) ?_ ?_) (Nat.le_of_ble_eq_true rfl) (fine_str ?_ ?_)
    · show (if _ then _ else _) = _
      rw [if_pos tl']
    · unfold call0
      rw [signs_is]
    · show (if _ then _ else _) = _
      rw [if_pos (by omega)]
    · show (if _ then _ else _) = _
      rw [if_pos tl']
    · show (if _ then _ else _) = _
      rw [if_pos (by rw [len_app]; omega)]
    · rw [len_app, len_app]
      omega
    · intro y hy
      have small : ∀ z ∈ t.cps.toList, z < 127 := by rw [ht]; exact hcs
      rcases mem_app hy with hy | hy
      · rcases mem_app hy with hy | hy
        · have := small y (mem_cutS hy)
          omega
        · have hy' : y ∈ [x] := hy
          have := signs_small hx
          simp at hy'
          omega
      · have := small y (mem_cutS hy)
        omega
  · refine rets_ret (d := .str t) rfl (Nat.le_of_ble_eq_true rfl) (fine_str (by omega) ?_)
    rw [ht]
    intro y hy
    have := hcs y hy
    omega
theorem ok_fine {n : Nat} {d : D} (h : fine n d = true) : okD d := fun x e => by
  subst e
  obtain ⟨h1, h2⟩ := str_fine h
  exact ⟨h1, strOk_all.mpr h2⟩
theorem ok_part {n : Nat} {d : D} (h : fine (n + 1) d = true) : ∀ ds, d = .tuple ds → ∀ x ∈ ds, okD x := fun ds e x hx => by
  subst e
  have h' : ds.all (fine n) = true := h
  exact ok_fine (List.all_eq_true.mp h' x hx)
theorem sign_in {c : Nat} (h : c ∈ SIGNS.cps.toList) : signB (sgD c) = true := by
  have e := signs_mem c
  rw [decide_eq_true h] at e
  unfold signB sgD
  show (decide ((⟨#[c]⟩ : Str).length = 1) && sgB c) = true
  rw [← e]
  rfl
theorem fine_sgn {n c : Nat} (h : c ∈ SIGNS.cps.toList) : fine n (sgD c) = true := fine_str (by show 1 ≤ 100000; decide) fun y hy => by
  have := signs_small h
  have hy' : y ∈ [c] := hy
  simp at hy'
  omega
theorem call_at (ns : List Int) (k : Int) (hk : 0 ≤ k) (r : Nv) : ∃ c, ∀ r : Nv, callS 2 sem__law_at (cons2 (nmP 0) (cons2 (fun _ => some (.int k)) (fun _ => some []))) (some (Cell.sh (.list (ns.map .int))) :: r) = some (.int c) := by
  obtain ⟨c, hc⟩ := at_int ns hk
  exact ⟨c, fun r => callS_is (cons2_is rfl (cons2_is rfl rfl)) rfl hc⟩
theorem law_is (ns : List Int) : ∃ d, sem_law [.list (ns.map .int)] = some (.ret d false []) ∧ d = .bool true := by
  obtain ⟨n0, h0⟩ := call_at ns 0 (by decide) []
  obtain ⟨n1, h1⟩ := call_at ns 1 (by decide) []
  unfold sem_law
  refine sem_rets rfl ?_
  unfold g_law
  have m40 : ∀ ρ, opT neD (fun _ => some (.int 40)) (fun _ => some (.int 40)) ρ = some false := fun ρ => by simp [opT, op2, neD, shaped_int, eqv_int, asB]
  refine rets_ifr (b := false) ?_ (fun z => by cases z) fun _ => ?_
  · obtain ⟨c, e, hc⟩ := signs_at n0
    have e1 := is_sign_is (ok_fine (n := 0) (fine_sgn hc))
    rw [sign_in hc] at e1
    unfold orT
    rw [m40, Option.bind_some, if_neg (by decide), Option.bind_some, if_neg (by decide)]
    unfold notT
    have e2 : callS 2 sem__law_same (cons2 (callS 1 sem_is_sign (cons2 (op2 ixD (call0 sem__law_signs) (op2 modD (callS 2 sem__law_at (cons2 (nmP 0) (cons2 (fun _ => some (.int 0)) (fun _ => some [])))) (fun _ => some (.int 94)))) (fun _ => some []))) (cons2 (fun _ => some (.bool true)) (fun _ => some []))) (shs [.list (ns.map .int)] 7) = some (.bool true) := by
      refine callS_is (ds := [.bool true, .bool true]) (cons2_is (callS_is (cons2_is (op2_is (x := .str SIGNS) ?_ (op2_is (x := .int n0) (y := .int 94) (h0 _) rfl rfl) e) rfl) rfl e1) (cons2_is rfl rfl)) rfl (same_is true true)
      unfold call0
      rw [signs_is]
    show Option.map _ (Option.bind (callS 2 _ _ _) truD) = _
    rw [e2]
    rfl
  -- the parts
  have hr : (fun ρ => ((cons2 (op2 addD (fun _ => some (.int 1)) (op2 modD (callS 2 sem__law_at (cons2 (nmP 0) (cons2 (fun _ => some (.int 1)) (fun _ => some [])))) (fun _ => some (.int 4)))) (fun _ => some [])) ρ).bind rng1) (shs [.list (ns.map .int)] 7) = some (rngD 0 (1 + n1 % 4).toNat) := by
    have q := cons2_is (op2_is (op := addD) (fa := fun _ => some (.int 1)) (x := .int 1) (y := .int (n1 % 4)) rfl (op2_is (op := modD) (fb := fun _ => some (.int 4)) (x := .int n1) (y := .int 4) (h1 [none, none, none, none, none, none, none]) rfl rfl) rfl) (fr := fun _ => some []) rfl
    show Option.bind (cons2 _ _ [some (Cell.sh (.list (ns.map .int))), none, none, none, none, none, none, none]) rng1 = _
    rw [q]
    show (if _ then _ else _) = _
    rw [if_pos]
    omega
  have hn : 1 ≤ (rngD 0 (1 + n1 % 4).toNat).length ∧ (rngD 0 (1 + n1 % 4).toNat).length ≤ 4 := by
    unfold rngD
    rw [List.length_map, List.length_range]
    omega
  obtain ⟨ps, e1, l1, q1⟩ := lcV_all (i := 2) (ds := rngD 0 (1 + n1 % 4).toNat) (fi := fun ρ => ((cons2 (op2 addD (fun _ => some (.int 1)) (op2 modD (callS 2 sem__law_at (cons2 (nmP 0) (cons2 (fun _ => some (.int 1)) (fun _ => some [])))) (fun _ => some (.int 4)))) (fun _ => some [])) ρ).bind rng1) (ρ := shs [.list (ns.map .int)] 7) (Q := fun y => fine 1 y = true) (f := callS 2 sem__law_thing (cons2 (nmP 0) (cons2 (op2 addD (fun _ => some (.int 2)) (nmW 2)) (fun _ => some [])))) hr rfl (by omega) (fun x hx => by
    unfold rngD at hx
    obtain ⟨j, _, rfl⟩ := List.mem_map.mp hx
    obtain ⟨d, e, hd⟩ := thing_is ns (i := 2 + (0 + (j : Int))) (by omega)
    exact ⟨d, callS_is (cons2_is rfl (cons2_is (op2_is (x := .int 2) (y := .int (0 + (j : Int))) rfl rfl rfl) rfl)) rfl e, hd⟩)
  refine rets_nx (setS_is e1) ?_
  -- the first walk
  obtain ⟨ρ3, f1, c3, rfl⟩ : ∃ ρ3, _ ∧ ∃ c3, ρ3 = [some (Cell.sh (.list (ns.map .int))), some (.sh (.list ps)), none, c3, none, none, none, none] := forS_all (a := toNm 3)
    (g := ifS (orT (notT (fun ρ => ((callS 2 sem__law_same (cons2 (callS 1 sem_is_sign (cons2 (nmP 3) (fun _ => some []))) (cons2 (callS 1 sem__law_sign_due (cons2 (nmP 3) (fun _ => some []))) (fun _ => some [])))) ρ).bind truD)) (notT (fun ρ => ((callS 2 sem__law_same (cons2 (callS 1 sem_is_name (cons2 (nmP 3) (fun _ => some []))) (cons2 (callS 1 sem__law_name_due (cons2 (nmP 3) (fun _ => some []))) (fun _ => some [])))) ρ).bind truD)))
      (fun ρ => ((fun _ => some (.bool false)) ρ).map fun d => .rt d false ρ)
      (fun ρ => some (.nx ρ))) (I := fun ρ => ∃ c3, ρ = [some (Cell.sh (.list (ns.map .int))), some (.sh (.list ps)), none, c3, none, none, none, none]) ps [some (Cell.sh (.list (ns.map .int))), some (.sh (.list ps)), none, none, none, none, none, none] ⟨_, rfl⟩ (fun d hd ρ ⟨c, e⟩ => by
      subst e
      refine ⟨_, _, rfl, ?_, some (.sh d), rfl⟩
      have ok := ok_fine (q1 d hd)
      have s1 : callS 2 sem__law_same (cons2 (callS 1 sem_is_sign (cons2 (nmP 3) (fun _ => some []))) (cons2 (callS 1 sem__law_sign_due (cons2 (nmP 3) (fun _ => some []))) (fun _ => some []))) [some (Cell.sh (.list (ns.map .int))), some (.sh (.list ps)), none, some (.sh d), none, none, none, none] = some (.bool true) := by
        have := same_is (signB d) (signB d)
        rw [beq_self_eq_true] at this
        exact callS_is (cons2_is (callS_is (cons2_is rfl rfl) rfl (is_sign_is ok)) (cons2_is (callS_is (cons2_is rfl rfl) rfl (law_sign_is ok)) rfl)) rfl this
      have s2 : callS 2 sem__law_same (cons2 (callS 1 sem_is_name (cons2 (nmP 3) (fun _ => some []))) (cons2 (callS 1 sem__law_name_due (cons2 (nmP 3) (fun _ => some []))) (fun _ => some []))) [some (Cell.sh (.list (ns.map .int))), some (.sh (.list ps)), none, some (.sh d), none, none, none, none] = some (.bool true) := by
        have := same_is (nameB d) (nameB d)
        rw [beq_self_eq_true] at this
        exact callS_is (cons2_is (callS_is (cons2_is rfl rfl) rfl (is_name_is ok)) (cons2_is (callS_is (cons2_is rfl rfl) rfl (law_name_is ok)) rfl)) rfl this
      show ifS _ _ _ [some (Cell.sh (.list (ns.map .int))), some (.sh (.list ps)), none, some (.sh d), none, none, none, none] = _
      unfold ifS orT notT
      simp only [s1, s2, Option.bind_some, truD, Option.map_some]
      rfl)
  refine rets_nx f1 ?_
  -- a good rule
  obtain ⟨sg, e2, hsg⟩ := signs_at (n0 / 94)
  have g1 : mkL (cons2 (fun _ => some (.str "top")) (cons2 (op2 ixD (call0 sem__law_signs) (op2 modD (op2 fdivD (callS 2 sem__law_at (cons2 (nmP 0) (cons2 (fun _ => some (.int 0)) (fun _ => some [])))) (fun _ => some (.int 94))) (fun _ => some (.int 94)))) (fun _ => some []))) [some (Cell.sh (.list (ns.map .int))), some (.sh (.list ps)), none, c3, none, none, none, none] = some (.list [.str "top", sgD sg]) := by
    unfold mkL
    rw [cons2_is (fa := fun _ => some (.str "top")) rfl (cons2_is (op2_is (x := .str SIGNS) (by unfold call0; rw [signs_is]) (op2_is (x := .int (n0 / 94)) (y := .int 94) (op2_is (x := .int n0) (y := .int 94) (h0 _) rfl rfl) rfl rfl) e2) rfl)]
    rfl
  refine rets_nx (setS_is g1) ?_
  obtain ⟨gs, hgl, hgf, eg⟩ : ∃ gs : List D, (2 ≤ gs.length ∧ gs.length ≤ 3) ∧ (∀ x ∈ gs, fine 1 x = true) ∧ ifS (opT eqD (op2 modD (op2 fdivD (callS 2 sem__law_at (cons2 (nmP 0) (cons2 (fun _ => some (.int 1)) (fun _ => some [])))) (fun _ => some (.int 4))) (fun _ => some (.int 2))) (fun _ => some (.int 1)))
      (setS 4 (mkL (cons2 (fun _ => some (.str "top")) (cons2 (fun _ => some (.str "a")) (cons2 (fun _ => some (.str "abcdefghijkl")) (fun _ => some []))))))
      (fun ρ => some (.nx ρ)) [some (Cell.sh (.list (ns.map .int))), some (.sh (.list ps)), none, c3, some (.sh (.list [.str "top", sgD sg])), none, none, none] = some (.nx [some (Cell.sh (.list (ns.map .int))), some (.sh (.list ps)), none, c3, some (.sh (.list gs)), none, none, none]) := by
    have t1 := opT_is (op := eqD) (fb := fun _ => some (.int 1)) (y := .int 1) (b := decide (n1 / 4 % 2 = 1)) (op2_is (op := modD) (fb := fun _ => some (.int 2)) (x := .int (n1 / 4)) (y := .int 2) (op2_is (op := fdivD) (fb := fun _ => some (.int 4)) (x := .int n1) (y := .int 4) (h1 [some (.sh (.list ps)), none, c3, some (.sh (.list [.str "top", sgD sg])), none, none, none]) rfl rfl) rfl rfl) rfl (by simp [eqD, shaped_int, eqv_int])
    by_cases b : n1 / 4 % 2 = 1
    · refine ⟨[.str "top", .str "a", .str "abcdefghijkl"], by decide, by decide +kernel, ?_⟩
      unfold ifS
      rw [t1, decide_eq_true b]
      rfl
    · refine ⟨[.str "top", sgD sg], ⟨Nat.le_refl 2, by show 2 ≤ 3; decide⟩, fun x hx => ?_, ?_⟩
      · rcases List.mem_cons.mp hx with rfl | hx
        · decide +kernel
        · rcases List.mem_cons.mp hx with rfl | hx
          · exact fine_sgn hsg
          · cases hx
      · unfold ifS
        rw [t1, decide_eq_false b]
        rfl
  refine rets_nx eg ?_
  have hat : 0 ≤ n1 / 8 % gs.length ∧ n1 / 8 % gs.length < gs.length := ⟨Int.emod_nonneg _ (by omega), Int.emod_lt_of_pos _ (by omega)⟩
  refine rets_nx (setS_is (op2_is (x := .int (n1 / 8)) (y := .int gs.length) (op2_is (x := .int n1) (y := .int 8) (h1 _) rfl rfl) rfl (by unfold modD; dsimp only; rw [if_pos (by omega)]))) ?_
  generalize n1 / 8 % gs.length = at_ at hat
  -- rules to be told apart
  have mem_cut : ∀ {xs : List D} {lo hi : Option Int} {x : D}, x ∈ cutD xs lo hi → x ∈ xs := fun h => List.mem_of_mem_drop (List.mem_of_mem_take h)
  have len_cut : ∀ {xs : List D} {lo hi : Option Int}, (cutD xs lo hi).length ≤ xs.length := fun {xs lo hi} => by
    unfold cutD
    rw [List.length_take, List.length_drop]
    omega
  obtain ⟨p0, ep0, hp0⟩ := atI_ok (xs := ps) (i := 0) (by decide) (by omega)
  have k1 := len_cut (xs := gs) (lo := none) (hi := some at_)
  have k2 := len_cut (xs := ps) (lo := none) (hi := some 1)
  have k3 := len_cut (xs := gs) (lo := some (at_ + 1)) (hi := none)
  refine rets_nx (ρ' := [some (Cell.sh (.list (ns.map .int))), some (.sh (.list ps)), none, c3, some (.sh (.list gs)), some (.sh (.int at_)), some (.sh (.list [.tuple (gs ++ [.str "a"]), .tuple (cutD gs none (some 1)), .tuple (cutD gs none (some at_) ++ cutD ps none (some 1) ++ cutD gs (some (at_ + 1)) none)])), none]) (setS_is (ρ := [some (Cell.sh (.list (ns.map .int))), some (.sh (.list ps)), none, c3, some (.sh (.list gs)), some (.sh (.int at_)), none, none]) ?_) ?_
  · have a1 : addD (.list gs) (.list [.str "a"]) = some (.list (gs ++ [.str "a"])) := by
      show (if gs.length + 1 ≤ 100000 then _ else _) = _
      rw [if_pos (by omega)]
    have a2 : addD (.list (cutD gs none (some at_))) (.list (cutD ps none (some 1))) = some (.list (cutD gs none (some at_) ++ cutD ps none (some 1))) := by
      show (if _ then _ else _) = _
      rw [if_pos (by omega)]
    have a3 : addD (.list (cutD gs none (some at_) ++ cutD ps none (some 1))) (.list (cutD gs (some (at_ + 1)) none)) = some (.list (cutD gs none (some at_) ++ cutD ps none (some 1) ++ cutD gs (some (at_ + 1)) none)) := by
      show (if _ then _ else _) = _
      rw [List.length_append, if_pos (by omega)]
    unfold mkL
    rw [cons2_is (d := .tuple (gs ++ [.str "a"])) (ds := [.tuple (cutD gs none (some 1)), .tuple (cutD gs none (some at_) ++ cutD ps none (some 1) ++ cutD gs (some (at_ + 1)) none)]) ?_ (cons2_is (d := .tuple (cutD gs none (some 1))) (ds := [.tuple (cutD gs none (some at_) ++ cutD ps none (some 1) ++ cutD gs (some (at_ + 1)) none)]) rfl (cons2_is (d := .tuple (cutD gs none (some at_) ++ cutD ps none (some 1) ++ cutD gs (some (at_ + 1)) none)) (ds := []) ?_ rfl))]
    · rfl
    · unfold callD
      rw [cons2_is (op2_is (x := .list gs) (y := .list [.str "a"]) rfl rfl a1) rfl]
      rfl
    · unfold callD
      rw [cons2_is (op2_is (x := .list (cutD gs none (some at_) ++ cutD ps none (some 1))) (y := .list (cutD gs (some (at_ + 1)) none)) (op2_is (x := .list (cutD gs none (some at_))) (y := .list (cutD ps none (some 1))) rfl rfl a2) rfl a3) rfl]
      rfl
  let rs : List D := [.tuple (gs ++ [.str "a"]), .tuple (cutD gs none (some 1)), .tuple (cutD gs none (some at_) ++ cutD ps none (some 1) ++ cutD gs (some (at_ + 1)) none)] ++ [.tuple ps, .tuple gs, .list gs, p0]
  have hrs : ∀ d ∈ rs, ∀ ds, d = .tuple ds → ∀ x ∈ ds, okD x := by
    intro d hd
    have one : ∀ ds : List D, (∀ x ∈ ds, fine 1 x = true) → ∀ ds', PyData.tuple ds = .tuple ds' → ∀ x ∈ ds', okD x := fun ds h ds' e x hx => by
      cases e
      exact ok_fine (h x hx)
    simp only [rs, List.cons_append, List.nil_append, List.mem_cons, List.not_mem_nil, or_false] at hd
    rcases hd with rfl | rfl | rfl | rfl | rfl | rfl | rfl
    · refine one _ fun x hx => ?_
      rcases List.mem_append.mp hx with hx | hx
      · exact hgf x hx
      · rcases List.mem_cons.mp hx with rfl | hx
        · decide +kernel
        · cases hx
    · exact one _ fun x hx => hgf x (mem_cut hx)
    · refine one _ fun x hx => ?_
      rcases List.mem_append.mp hx with hx | hx
      · rcases List.mem_append.mp hx with hx | hx
        · exact hgf x (mem_cut hx)
        · exact q1 x (mem_cut hx)
      · exact hgf x (mem_cut hx)
    · exact one _ q1
    · exact one _ hgf
    · intro ds e
      cases e
    · exact ok_part (q1 _ hp0)
  -- the second walk
  obtain ⟨ρ9, f2, c9, rfl⟩ : ∃ ρ9, _ ∧ ∃ c9, ρ9 = [some (Cell.sh (.list (ns.map .int))), some (.sh (.list ps)), none, c3, some (.sh (.list gs)), some (.sh (.int at_)), some (.sh (.list [.tuple (gs ++ [.str "a"]), .tuple (cutD gs none (some 1)), .tuple (cutD gs none (some at_) ++ cutD ps none (some 1) ++ cutD gs (some (at_ + 1)) none)])), c9] := forS_all (a := toNm 7)
    (g := ifS (notT (fun ρ => ((callS 2 sem__law_same (cons2 (callS 1 sem_is_rule (cons2 (nmP 7) (fun _ => some []))) (cons2 (callS 1 sem__law_rule_due (cons2 (nmP 7) (fun _ => some []))) (fun _ => some [])))) ρ).bind truD))
      (fun ρ => ((fun _ => some (.bool false)) ρ).map fun d => .rt d false ρ)
      (fun ρ => some (.nx ρ))) (I := fun ρ => ∃ c9, ρ = [some (Cell.sh (.list (ns.map .int))), some (.sh (.list ps)), none, c3, some (.sh (.list gs)), some (.sh (.int at_)), some (.sh (.list [.tuple (gs ++ [.str "a"]), .tuple (cutD gs none (some 1)), .tuple (cutD gs none (some at_) ++ cutD ps none (some 1) ++ cutD gs (some (at_ + 1)) none)])), c9]) rs
      [some (Cell.sh (.list (ns.map .int))), some (.sh (.list ps)), none, c3, some (.sh (.list gs)), some (.sh (.int at_)), some (.sh (.list [.tuple (gs ++ [.str "a"]), .tuple (cutD gs none (some 1)), .tuple (cutD gs none (some at_) ++ cutD ps none (some 1) ++ cutD gs (some (at_ + 1)) none)])), none] ⟨_, rfl⟩ (fun d hd ρ ⟨c, e⟩ => by
      subst e
      refine ⟨_, _, rfl, ?_, some (.sh d), rfl⟩
      have ok := hrs d hd
      have s1 := callS_is (k := 2) (sem := sem__law_same) (fr := cons2 (callS 1 sem_is_rule (cons2 (nmP 7) (fun _ => some []))) (cons2 (callS 1 sem__law_rule_due (cons2 (nmP 7) (fun _ => some []))) (fun _ => some [])))
        (ρ := [some (Cell.sh (.list (ns.map .int))), some (.sh (.list ps)), none, c3, some (.sh (.list gs)), some (.sh (.int at_)), some (.sh (.list [.tuple (gs ++ [.str "a"]), .tuple (cutD gs none (some 1)), .tuple (cutD gs none (some at_) ++ cutD ps none (some 1) ++ cutD gs (some (at_ + 1)) none)])), some (.sh d)])
        (cons2_is (callS_is (cons2_is rfl rfl) rfl (is_rule_is ok)) (cons2_is (callS_is (cons2_is rfl rfl) rfl (law_rule_is ok)) rfl)) rfl (same_is (ruleB d) (ruleB d))
      rw [beq_self_eq_true] at s1
      show ifS _ _ _ [some (Cell.sh (.list (ns.map .int))), some (.sh (.list ps)), none, c3, some (.sh (.list gs)), some (.sh (.int at_)), some (.sh (.list [.tuple (gs ++ [.str "a"]), .tuple (cutD gs none (some 1)), .tuple (cutD gs none (some at_) ++ cutD ps none (some 1) ++ cutD gs (some (at_ + 1)) none)])), some (.sh d)] = _
      unfold ifS notT
      simp only [s1, Option.bind_some, truD, Option.map_some]
      rfl)
  refine rets_nx (ρ' := [some (Cell.sh (.list (ns.map .int))), some (.sh (.list ps)), none, c3, some (.sh (.list gs)), some (.sh (.int at_)), some (.sh (.list [.tuple (gs ++ [.str "a"]), .tuple (cutD gs none (some 1)), .tuple (cutD gs none (some at_) ++ cutD ps none (some 1) ++ cutD gs (some (at_ + 1)) none)])), c9]) ?_ ⟨.bool true, _, rfl, Nat.le_of_ble_eq_true rfl, rfl⟩
  · rw [← f2]
    have w1 : op2 addD (nmW 6) (mkL (cons2 (callD tupD (cons2 (nmW 1) (fun _ => some []))) (cons2 (callD tupD (cons2 (nmW 4) (fun _ => some []))) (cons2 (callD listD (cons2 (nmW 4) (fun _ => some []))) (cons2 (op2 ixD (nmW 1) (fun _ => some (.int 0))) (fun _ => some [])))))) [some (Cell.sh (.list (ns.map .int))), some (.sh (.list ps)), none, c3, some (.sh (.list gs)), some (.sh (.int at_)), some (.sh (.list [.tuple (gs ++ [.str "a"]), .tuple (cutD gs none (some 1)), .tuple (cutD gs none (some at_) ++ cutD ps none (some 1) ++ cutD gs (some (at_ + 1)) none)])), none] = some (.list rs) := by
      refine op2_is (x := .list [.tuple (gs ++ [.str "a"]), .tuple (cutD gs none (some 1)), .tuple (cutD gs none (some at_) ++ cutD ps none (some 1) ++ cutD gs (some (at_ + 1)) none)]) (y := .list [.tuple ps, .tuple gs, .list gs, p0]) rfl ?_ ?_
      · unfold mkL
        rw [cons2_is (d := .tuple ps) rfl (cons2_is (d := .tuple gs) rfl (cons2_is (d := .list gs) rfl (cons2_is (op2_is (x := .list ps) (y := .int 0) rfl rfl ep0) rfl)))]
        rfl
      · rfl
    show Option.bind (Option.bind (op2 addD _ _ [some (Cell.sh (.list (ns.map .int))), some (.sh (.list ps)), none, c3, some (.sh (.list gs)), some (.sh (.int at_)), some (.sh (.list [.tuple (gs ++ [.str "a"]), .tuple (cutD gs none (some 1)), .tuple (cutD gs none (some at_) ++ cutD ps none (some 1) ++ cutD gs (some (at_ + 1)) none)])), none]) asL) _ = _
    rw [w1]
    rfl
end K1

namespace K1
open PySem L2 DS
theorem law_sem : ∀ ds o, semLaw 63 ds = some o → sem_law ds = some o := by
  intro ds o h
  unfold semLaw at h
  split at h
  · rename_i hx
    obtain ⟨ns, rfl, _⟩ := hx
    cases h
    obtain ⟨d, e, rfl⟩ := law_is ns
    exact e
  · cases h
theorem all_mk {l : PySem.W.OpenLaw} {w : World} {K : PySem.W.Frag} {h : Heap} {mg : Str → Option Value} {fa : Addr} {f_is_sign : Addr} {od_is_sign an_is_sign : Option Addr} {sl_is_sign : Array (Option Value)} {oc_is_sign kV_is_sign dc_is_sign pm_is_sign ct_is_sign : Value} {cd_is_sign : Value}
    {f_is_name : Addr} {od_is_name an_is_name : Option Addr} {sl_is_name : Array (Option Value)} {oc_is_name kV_is_name dc_is_name pm_is_name ct_is_name : Value} {c_is_name P_is_name : Addr} {og_is_name : Value} {oh_is_name : Option Addr} {vs_is_name : Array Value} {oi_is_name : Array (Option Value)}
    {f_is_rule : Addr} {od_is_rule an_is_rule : Option Addr} {sl_is_rule : Array (Option Value)} {oc_is_rule kV_is_rule dc_is_rule pm_is_rule ct_is_rule : Value} {c_is_rule P_is_rule : Addr} {og_is_rule : Value} {oh_is_rule : Option Addr} {vs_is_rule : Array Value} {oi_is_rule : Array (Option Value)}
    {f__law_at : Addr} {od__law_at an__law_at : Option Addr} {sl__law_at : Array (Option Value)} {oc__law_at kV__law_at dc__law_at pm__law_at ct__law_at : Value} {cd__law_at : Value}
    {f__law_signs : Addr} {od__law_signs an__law_signs : Option Addr} {sl__law_signs : Array (Option Value)} {oc__law_signs kV__law_signs dc__law_signs pm__law_signs ct__law_signs : Value} {cd__law_signs : Value}
    {f__law_name_due : Addr} {od__law_name_due an__law_name_due : Option Addr} {sl__law_name_due : Array (Option Value)} {oc__law_name_due kV__law_name_due dc__law_name_due pm__law_name_due ct__law_name_due : Value} {cd__law_name_due : Value}
    {f__law_sign_due : Addr} {od__law_sign_due an__law_sign_due : Option Addr} {sl__law_sign_due : Array (Option Value)} {oc__law_sign_due kV__law_sign_due dc__law_sign_due pm__law_sign_due ct__law_sign_due : Value} {cd__law_sign_due : Value}
    {f__law_thing : Addr} {od__law_thing an__law_thing : Option Addr} {sl__law_thing : Array (Option Value)} {oc__law_thing kV__law_thing dc__law_thing pm__law_thing ct__law_thing : Value} {cd__law_thing : Value}
    {f__law_rule_due : Addr} {od__law_rule_due an__law_rule_due : Option Addr} {sl__law_rule_due : Array (Option Value)} {oc__law_rule_due kV__law_rule_due dc__law_rule_due pm__law_rule_due ct__law_rule_due : Value} {cd__law_rule_due : Value}
    {f__law_same : Addr} {od__law_same an__law_same : Option Addr} {sl__law_same : Array (Option Value)} {oc__law_same kV__law_same dc__law_same pm__law_same ct__law_same : Value} {cd__law_same : Value}
    {f_law : Addr} {od_law an_law : Option Addr} {sl_law : Array (Option Value)} {oc_law kV_law dc_law pm_law ct_law : Value} {cd_law : Value}
    {tk_BLANK : Tok} {tk_MOST_LETTERS : Tok} {tk_MOST_RULES : Tok} {tk_MOST_SIGNS : Tok} {tk_PERCENT : Tok} {tk_TILDE : Tok}
    (X : K.In h) (G : h.Ns mainGlobals mg) (hfa : mg "law" = some (.ref fa)) (TF : ∀ (x : Str) (c P : Addr), x ∈ (["is_name", "is_rule"] : List Str) → PySem.W.tabIn K x = some (c, P) → PySem.W.CodeHd h c P ∧ h.get? P = some { cls := .none, data := .fields #[] })
    (a_is_sign : PySem.W.nsIn K mainGlobals "is_sign" = some (some (.ref f_is_sign))) (l_is_sign : K.lookup f_is_sign = some ⟨oc_is_sign, od_is_sign, .func (PySem.W.fnOf "is_sign" "is_sign" (defArgs s_is_sign) (defBody s_is_sign) (defScope s_is_sign) .none kV_is_sign dc_is_sign pm_is_sign an_is_sign cd_is_sign ct_is_sign), sl_is_sign⟩) (q_is_sign : PySem.W.codeIn K cd_is_sign "is_sign" = true) (k_is_sign : PySem.W.keepIn K (.ref f_is_sign) = true)
    (a_is_name : PySem.W.nsIn K mainGlobals "is_name" = some (some (.ref f_is_name))) (l_is_name : K.lookup f_is_name = some ⟨oc_is_name, od_is_name, .func (PySem.W.fnOf "is_name" "is_name" (defArgs s_is_name) (defBody s_is_name) (defScope s_is_name) .none kV_is_name dc_is_name pm_is_name an_is_name (.ref c_is_name) ct_is_name), sl_is_name⟩) (q_is_name : PySem.W.codeIn K (.ref c_is_name) "is_name" = true) (k_is_name : PySem.W.keepIn K (.ref f_is_name) = true)
    (g_is_name : K.lookup c_is_name = some ⟨og_is_name, oh_is_name, .fields vs_is_name, oi_is_name⟩) (v_is_name : vs_is_name[11]? = some (.ref P_is_name)) (n_is_name : K.lookup P_is_name = none)
    (a_is_rule : PySem.W.nsIn K mainGlobals "is_rule" = some (some (.ref f_is_rule))) (l_is_rule : K.lookup f_is_rule = some ⟨oc_is_rule, od_is_rule, .func (PySem.W.fnOf "is_rule" "is_rule" (defArgs s_is_rule) (defBody s_is_rule) (defScope s_is_rule) .none kV_is_rule dc_is_rule pm_is_rule an_is_rule (.ref c_is_rule) ct_is_rule), sl_is_rule⟩) (q_is_rule : PySem.W.codeIn K (.ref c_is_rule) "is_rule" = true) (k_is_rule : PySem.W.keepIn K (.ref f_is_rule) = true)
    (g_is_rule : K.lookup c_is_rule = some ⟨og_is_rule, oh_is_rule, .fields vs_is_rule, oi_is_rule⟩) (v_is_rule : vs_is_rule[11]? = some (.ref P_is_rule)) (n_is_rule : K.lookup P_is_rule = none)
    (a__law_at : PySem.W.nsIn K mainGlobals "_law_at" = some (some (.ref f__law_at))) (l__law_at : K.lookup f__law_at = some ⟨oc__law_at, od__law_at, .func (PySem.W.fnOf "_law_at" "_law_at" (defArgs s__law_at) (defBody s__law_at) (defScope s__law_at) .none kV__law_at dc__law_at pm__law_at an__law_at cd__law_at ct__law_at), sl__law_at⟩) (q__law_at : PySem.W.codeIn K cd__law_at "_law_at" = true) (k__law_at : PySem.W.keepIn K (.ref f__law_at) = true)
    (a__law_signs : PySem.W.nsIn K mainGlobals "_law_signs" = some (some (.ref f__law_signs))) (l__law_signs : K.lookup f__law_signs = some ⟨oc__law_signs, od__law_signs, .func (PySem.W.fnOf "_law_signs" "_law_signs" (defArgs s__law_signs) (defBody s__law_signs) (defScope s__law_signs) .none kV__law_signs dc__law_signs pm__law_signs an__law_signs cd__law_signs ct__law_signs), sl__law_signs⟩) (q__law_signs : PySem.W.codeIn K cd__law_signs "_law_signs" = true) (k__law_signs : PySem.W.keepIn K (.ref f__law_signs) = true)
    (a__law_name_due : PySem.W.nsIn K mainGlobals "_law_name_due" = some (some (.ref f__law_name_due))) (l__law_name_due : K.lookup f__law_name_due = some ⟨oc__law_name_due, od__law_name_due, .func (PySem.W.fnOf "_law_name_due" "_law_name_due" (defArgs s__law_name_due) (defBody s__law_name_due) (defScope s__law_name_due) .none kV__law_name_due dc__law_name_due pm__law_name_due an__law_name_due cd__law_name_due ct__law_name_due), sl__law_name_due⟩) (q__law_name_due : PySem.W.codeIn K cd__law_name_due "_law_name_due" = true) (k__law_name_due : PySem.W.keepIn K (.ref f__law_name_due) = true)
    (a__law_sign_due : PySem.W.nsIn K mainGlobals "_law_sign_due" = some (some (.ref f__law_sign_due))) (l__law_sign_due : K.lookup f__law_sign_due = some ⟨oc__law_sign_due, od__law_sign_due, .func (PySem.W.fnOf "_law_sign_due" "_law_sign_due" (defArgs s__law_sign_due) (defBody s__law_sign_due) (defScope s__law_sign_due) .none kV__law_sign_due dc__law_sign_due pm__law_sign_due an__law_sign_due cd__law_sign_due ct__law_sign_due), sl__law_sign_due⟩) (q__law_sign_due : PySem.W.codeIn K cd__law_sign_due "_law_sign_due" = true) (k__law_sign_due : PySem.W.keepIn K (.ref f__law_sign_due) = true)
    (a__law_thing : PySem.W.nsIn K mainGlobals "_law_thing" = some (some (.ref f__law_thing))) (l__law_thing : K.lookup f__law_thing = some ⟨oc__law_thing, od__law_thing, .func (PySem.W.fnOf "_law_thing" "_law_thing" (defArgs s__law_thing) (defBody s__law_thing) (defScope s__law_thing) .none kV__law_thing dc__law_thing pm__law_thing an__law_thing cd__law_thing ct__law_thing), sl__law_thing⟩) (q__law_thing : PySem.W.codeIn K cd__law_thing "_law_thing" = true) (k__law_thing : PySem.W.keepIn K (.ref f__law_thing) = true)
    (a__law_rule_due : PySem.W.nsIn K mainGlobals "_law_rule_due" = some (some (.ref f__law_rule_due))) (l__law_rule_due : K.lookup f__law_rule_due = some ⟨oc__law_rule_due, od__law_rule_due, .func (PySem.W.fnOf "_law_rule_due" "_law_rule_due" (defArgs s__law_rule_due) (defBody s__law_rule_due) (defScope s__law_rule_due) .none kV__law_rule_due dc__law_rule_due pm__law_rule_due an__law_rule_due cd__law_rule_due ct__law_rule_due), sl__law_rule_due⟩) (q__law_rule_due : PySem.W.codeIn K cd__law_rule_due "_law_rule_due" = true) (k__law_rule_due : PySem.W.keepIn K (.ref f__law_rule_due) = true)
    (a__law_same : PySem.W.nsIn K mainGlobals "_law_same" = some (some (.ref f__law_same))) (l__law_same : K.lookup f__law_same = some ⟨oc__law_same, od__law_same, .func (PySem.W.fnOf "_law_same" "_law_same" (defArgs s__law_same) (defBody s__law_same) (defScope s__law_same) .none kV__law_same dc__law_same pm__law_same an__law_same cd__law_same ct__law_same), sl__law_same⟩) (q__law_same : PySem.W.codeIn K cd__law_same "_law_same" = true) (k__law_same : PySem.W.keepIn K (.ref f__law_same) = true)
    (a_law : PySem.W.nsIn K mainGlobals "law" = some (some (.ref f_law))) (l_law : K.lookup f_law = some ⟨oc_law, od_law, .func (PySem.W.fnOf "law" "law" (defArgs s_law) (defBody s_law) (defScope s_law) .none kV_law dc_law pm_law an_law cd_law ct_law), sl_law⟩) (q_law : PySem.W.codeIn K cd_law "law" = true) (k_law : PySem.W.keepIn K (.ref f_law) = true)
    (z_all : PySem.W.nsIn K mainGlobals "all" = some none) (z_bool : PySem.W.nsIn K mainGlobals "bool" = some none) (z_isinstance : PySem.W.nsIn K mainGlobals "isinstance" = some none) (z_len : PySem.W.nsIn K mainGlobals "len" = some none) (z_list : PySem.W.nsIn K mainGlobals "list" = some none) (z_ord : PySem.W.nsIn K mainGlobals "ord" = some none) (z_range : PySem.W.nsIn K mainGlobals "range" = some none) (z_str : PySem.W.nsIn K mainGlobals "str" = some none) (z_tuple : PySem.W.nsIn K mainGlobals "tuple" = some none)
    (i_BLANK : PySem.W.nsIn K mainGlobals "BLANK" = some (some (.int 32 tk_BLANK))) (i_MOST_LETTERS : PySem.W.nsIn K mainGlobals "MOST_LETTERS" = some (some (.int 12 tk_MOST_LETTERS))) (i_MOST_RULES : PySem.W.nsIn K mainGlobals "MOST_RULES" = some (some (.int 40 tk_MOST_RULES))) (i_MOST_SIGNS : PySem.W.nsIn K mainGlobals "MOST_SIGNS" = some (some (.int 40 tk_MOST_SIGNS))) (i_PERCENT : PySem.W.nsIn K mainGlobals "PERCENT" = some (some (.int 37 tk_PERCENT))) (i_TILDE : PySem.W.nsIn K mainGlobals "TILDE" = some (some (.int 126 tk_TILDE)))
    : LamX.LawAtS l w K CX0 5 63 "_law_script" mg fa h := by
  have e := hfa.symm.trans (PySem.W.mg_of X G a_law)
  cases e
  have B : Blts mg := ⟨PySem.W.mg_none_of X G z_all, PySem.W.mg_none_of X G z_bool, PySem.W.mg_none_of X G z_isinstance, PySem.W.mg_none_of X G z_len, PySem.W.mg_none_of X G z_list, PySem.W.mg_none_of X G z_ord, PySem.W.mg_none_of X G z_range, PySem.W.mg_none_of X G z_str, PySem.W.mg_none_of X G z_tuple, ⟨_, PySem.W.mg_of X G i_BLANK⟩, ⟨_, PySem.W.mg_of X G i_MOST_LETTERS⟩, ⟨_, PySem.W.mg_of X G i_MOST_RULES⟩, ⟨_, PySem.W.mg_of X G i_MOST_SIGNS⟩, ⟨_, PySem.W.mg_of X G i_PERCENT⟩, ⟨_, PySem.W.mg_of X G i_TILDE⟩⟩
  have T_is_name := TF "is_name" _ _ (by simp) (tab_is a_is_name l_is_name rfl g_is_name v_is_name)
  have T_is_rule := TF "is_rule" _ _ (by simp) (tab_is a_is_rule l_is_rule rfl g_is_rule v_is_rule)
  have h1 : ∀ p ∈ ([(c_is_name, P_is_name), (c_is_rule, P_is_rule)] : List (Addr × Addr)), h.get? p.2 = some { cls := .none, data := .fields #[] } := by
    intro p hp
    simp only [List.mem_cons, List.not_mem_nil, or_false] at hp
    rcases hp with rfl | rfl
    · exact T_is_name.2
    · exact T_is_rule.2
  have h2 : ∀ p ∈ ([(c_is_name, P_is_name), (c_is_rule, P_is_rule)] : List (Addr × Addr)), K.lookup p.2 = none := by
    intro p hp
    simp only [List.mem_cons, List.not_mem_nil, or_false] at hp
    rcases hp with rfl | rfl
    · exact n_is_name
    · exact n_is_rule
  have h3 : ∀ p ∈ ([(c_is_name, P_is_name), (c_is_rule, P_is_rule)] : List (Addr × Addr)), PySem.W.CodeHd h p.1 p.2 := by
    intro p hp
    simp only [List.mem_cons, List.not_mem_nil, or_false] at hp
    rcases hp with rfl | rfl
    · exact T_is_name.1
    · exact T_is_rule.1
  refine ⟨PySem.W.fnOf "law" "law" (defArgs s_law) (defBody s_law) (defScope s_law) .none kV_law dc_law pm_law an_law cd_law ct_law, [(c_is_name, P_is_name), (c_is_rule, P_is_rule)], spTab [P_is_name, P_is_rule] (spD K [P_is_name, P_is_rule] [.ro] (semLaw 63)), h1, h2, h3, fun s v => .of_eq rfl, fun H a ns hl _ hT hS => law_asks (fun p hp => ?_) hl hS, fun base hK hG TB => fn_tab (fn_sem ?_ law_sem)⟩
  · simp only [List.mem_cons, List.not_mem_nil, or_false] at hp
    rcases hp with hp | hp
    · rw [hp]
      exact hT (c_is_name, P_is_name) (by simp)
    · rw [hp]
      exact hT (c_is_rule, P_is_rule) (by simp)
  · have B_is_name := TB (c_is_name, P_is_name) (by simp)
    have W_is_name : GxR.TabB base mg c_is_name P_is_name := ⟨B_is_name.code, B_is_name.bm, B_is_name.gP⟩
    have B_is_rule := TB (c_is_rule, P_is_rule) (by simp)
    have W_is_rule : GxR.TabB base mg c_is_rule P_is_rule := ⟨B_is_rule.code, B_is_rule.bm, B_is_rule.gP⟩
    have F_is_sign := fun_mk (st := s_is_sign) l_is_sign q_is_sign k_is_sign
    have C_is_sign : Cal l.prog w K mg base [P_is_name, P_is_rule] "is_sign" 1 ["thing"] [.ro] sem_is_sign := ⟨f_is_sign, _, ok_is_sign F_is_sign B, PySem.W.mg_of X G a_is_sign, k_is_sign, F_is_sign.binds (ps := ["thing"]) fun _ _ _ _ _ _ us hl => match us, hl with | [_], _ => rfl⟩
    have F_is_name := fnc_mk (st := s_is_name) l_is_name q_is_name k_is_name
    have C_is_name : Cal l.prog w K mg base [P_is_name, P_is_rule] "is_name" 2 ["thing"] [.ro] sem_is_name := ⟨f_is_name, _, ok_is_name F_is_name W_is_name (by simp) B, PySem.W.mg_of X G a_is_name, k_is_name, F_is_name.fn.binds (ps := ["thing"]) fun _ _ _ _ _ _ us hl => match us, hl with | [_], _ => rfl⟩
    have F_is_rule := fnc_mk (st := s_is_rule) l_is_rule q_is_rule k_is_rule
    have C_is_rule : Cal l.prog w K mg base [P_is_name, P_is_rule] "is_rule" 4 ["thing"] [.ro] sem_is_rule := ⟨f_is_rule, _, ok_is_rule F_is_rule W_is_rule (by simp) B C_is_name C_is_sign, PySem.W.mg_of X G a_is_rule, k_is_rule, F_is_rule.fn.binds (ps := ["thing"]) fun _ _ _ _ _ _ us hl => match us, hl with | [_], _ => rfl⟩
    have F__law_at := fun_mk (st := s__law_at) l__law_at q__law_at k__law_at
    have C__law_at : Cal l.prog w K mg base [P_is_name, P_is_rule] "_law_at" 1 ["_law_script", "_law_place"] [.ro, .ro] sem__law_at := ⟨f__law_at, _, ok__law_at F__law_at B, PySem.W.mg_of X G a__law_at, k__law_at, F__law_at.binds (ps := ["_law_script", "_law_place"]) fun _ _ _ _ _ _ us hl => match us, hl with | [_, _], _ => rfl⟩
    have F__law_signs := fun_mk (st := s__law_signs) l__law_signs q__law_signs k__law_signs
    have C__law_signs : Cal l.prog w K mg base [P_is_name, P_is_rule] "_law_signs" 1 [] [] sem__law_signs := ⟨f__law_signs, _, ok__law_signs F__law_signs B, PySem.W.mg_of X G a__law_signs, k__law_signs, F__law_signs.binds (ps := []) fun _ _ _ _ _ _ us hl => match us, hl with | [], _ => rfl⟩
    have F__law_name_due := fun_mk (st := s__law_name_due) l__law_name_due q__law_name_due k__law_name_due
    have C__law_name_due : Cal l.prog w K mg base [P_is_name, P_is_rule] "_law_name_due" 1 ["_law_thing_here"] [.ro] sem__law_name_due := ⟨f__law_name_due, _, ok__law_name_due F__law_name_due B, PySem.W.mg_of X G a__law_name_due, k__law_name_due, F__law_name_due.binds (ps := ["_law_thing_here"]) fun _ _ _ _ _ _ us hl => match us, hl with | [_], _ => rfl⟩
    have F__law_sign_due := fun_mk (st := s__law_sign_due) l__law_sign_due q__law_sign_due k__law_sign_due
    have C__law_sign_due : Cal l.prog w K mg base [P_is_name, P_is_rule] "_law_sign_due" 2 ["_law_thing_here"] [.ro] sem__law_sign_due := ⟨f__law_sign_due, _, ok__law_sign_due F__law_sign_due B C__law_signs, PySem.W.mg_of X G a__law_sign_due, k__law_sign_due, F__law_sign_due.binds (ps := ["_law_thing_here"]) fun _ _ _ _ _ _ us hl => match us, hl with | [_], _ => rfl⟩
    have F__law_thing := fun_mk (st := s__law_thing) l__law_thing q__law_thing k__law_thing
    have C__law_thing : Cal l.prog w K mg base [P_is_name, P_is_rule] "_law_thing" 2 ["_law_script", "_law_place"] [.ro, .ro] sem__law_thing := ⟨f__law_thing, _, ok__law_thing F__law_thing B C__law_signs C__law_at, PySem.W.mg_of X G a__law_thing, k__law_thing, F__law_thing.binds (ps := ["_law_script", "_law_place"]) fun _ _ _ _ _ _ us hl => match us, hl with | [_, _], _ => rfl⟩
    have F__law_rule_due := fun_mk (st := s__law_rule_due) l__law_rule_due q__law_rule_due k__law_rule_due
    have C__law_rule_due : Cal l.prog w K mg base [P_is_name, P_is_rule] "_law_rule_due" 3 ["_law_thing_here"] [.ro] sem__law_rule_due := ⟨f__law_rule_due, _, ok__law_rule_due F__law_rule_due B C__law_name_due C__law_sign_due, PySem.W.mg_of X G a__law_rule_due, k__law_rule_due, F__law_rule_due.binds (ps := ["_law_thing_here"]) fun _ _ _ _ _ _ us hl => match us, hl with | [_], _ => rfl⟩
    have F__law_same := fun_mk (st := s__law_same) l__law_same q__law_same k__law_same
    have C__law_same : Cal l.prog w K mg base [P_is_name, P_is_rule] "_law_same" 1 ["_law_found", "_law_due"] [.ro, .ro] sem__law_same := ⟨f__law_same, _, ok__law_same F__law_same B, PySem.W.mg_of X G a__law_same, k__law_same, F__law_same.binds (ps := ["_law_found", "_law_due"]) fun _ _ _ _ _ _ us hl => match us, hl with | [_, _], _ => rfl⟩
    have F_law := fun_mk (st := s_law) l_law q_law k_law
    exact ok_law F_law B C__law_same C__law_rule_due C_is_rule C__law_at C__law_signs C__law_name_due C_is_name C__law_sign_due C_is_sign C__law_thing
end K1
open PySem PySem.W PyProof.Rows
set_option maxHeartbeats 0 in
theorem PySem.Challenge.cw_mendread_k01_signs_names_rules_holds : PySem.Challenge.rw_mendread_k01_signs_names_rules.Holds := by
  w_on; o_law; k_head; (case hw => w_witness2)
  k_fill
  refine DS.walk_tabs (l := PySem.Challenge.rw_mendread_k01_signs_names_rules) (n := 63) (k := 5) (x := "_law_script") (CX := fun _ => L2.CX0) ["is_name", "is_rule"] rfl (by decide) rfl ⟨rfl, by decide, by decide⟩ ?R (fun w h Y => PySem.W.kIn_of Y) ?F (fun _ _ _ _ _ h => h)
  case R => decide +kernel
  case F =>
    intro w mg fa h YH KX G hmg TF
    refine' K1.all_mk KX G hmg TF ?a_is_sign ?l_is_sign ?q_is_sign ?k_is_sign ?a_is_name ?l_is_name ?q_is_name ?k_is_name ?g_is_name ?v_is_name ?n_is_name ?a_is_rule ?l_is_rule ?q_is_rule ?k_is_rule ?g_is_rule ?v_is_rule ?n_is_rule ?a__law_at ?l__law_at ?q__law_at ?k__law_at ?a__law_signs ?l__law_signs ?q__law_signs ?k__law_signs ?a__law_name_due ?l__law_name_due ?q__law_name_due ?k__law_name_due ?a__law_sign_due ?l__law_sign_due ?q__law_sign_due ?k__law_sign_due ?a__law_thing ?l__law_thing ?q__law_thing ?k__law_thing ?a__law_rule_due ?l__law_rule_due ?q__law_rule_due ?k__law_rule_due ?a__law_same ?l__law_same ?q__law_same ?k__law_same ?a_law ?l_law ?q_law ?k_law ?z_all ?z_bool ?z_isinstance ?z_len ?z_list ?z_ord ?z_range ?z_str ?z_tuple ?i_BLANK ?i_MOST_LETTERS ?i_MOST_RULES ?i_MOST_SIGNS ?i_PERCENT ?i_TILDE
    (case a_is_sign => k_is); (case l_is_sign => k_is); (case q_is_sign => k_is); (case k_is_sign => k_is); (case a_is_name => k_is); (case l_is_name => k_is); (case q_is_name => k_is); (case k_is_name => k_is); (case g_is_name => k_is); (case v_is_name => rfl); (case n_is_name => rfl); (case a_is_rule => k_is); (case l_is_rule => k_is); (case q_is_rule => k_is); (case k_is_rule => k_is); (case g_is_rule => k_is); (case v_is_rule => rfl); (case n_is_rule => rfl); (case a__law_at => k_is); (case l__law_at => k_is); (case q__law_at => k_is); (case k__law_at => k_is); (case a__law_signs => k_is); (case l__law_signs => k_is); (case q__law_signs => k_is); (case k__law_signs => k_is); (case a__law_name_due => k_is); (case l__law_name_due => k_is); (case q__law_name_due => k_is); (case k__law_name_due => k_is); (case a__law_sign_due => k_is); (case l__law_sign_due => k_is); (case q__law_sign_due => k_is); (case k__law_sign_due => k_is); (case a__law_thing => k_is); (case l__law_thing => k_is); (case q__law_thing => k_is); (case k__law_thing => k_is); (case a__law_rule_due => k_is); (case l__law_rule_due => k_is); (case q__law_rule_due => k_is); (case k__law_rule_due => k_is); (case a__law_same => k_is); (case l__law_same => k_is); (case q__law_same => k_is); (case k__law_same => k_is); (case a_law => k_is); (case l_law => k_is); (case q_law => k_is); (case k_law => k_is); (case z_all => k_is); (case z_bool => k_is); (case z_isinstance => k_is); (case z_len => k_is); (case z_list => k_is); (case z_ord => k_is); (case z_range => k_is); (case z_str => k_is); (case z_tuple => k_is); (case i_BLANK => k_is); (case i_MOST_LETTERS => k_is); (case i_MOST_RULES => k_is); (case i_MOST_SIGNS => k_is); (case i_PERCENT => k_is); (case i_TILDE => k_is)
